/-
  Helpers of the laws on tables.
-/
import Derived.Test.YtmbcfdlemapppaaLawT0
namespace Go.Proofs.Ytmbcfdlemapppaa
open Go.RowKit
set_option linter.unusedSimpArgs false
set_option linter.unusedVariables false

theorem isRow_len {w : World} {a : Option Addr} {len cap : Nat} {zs : List Int} (h : IsRow w a len cap zs) : len ≤ 9223372036854775807 := by
  rcases h with ⟨_, rfl, _⟩ | ⟨x, _, h1, hm, _⟩
  · omega
  · unfold maxLen at hm; omega
theorem tput_len (T : List E) (e : E) : (tputM T e).1.length ≤ 12 := by
  unfold tputM
  split
  · rename_i h
    split
    · assumption
    · exact (tab_good h.1).2
  · simp
theorem tput_ok {T : List E} {e : E} (h : (tputM T e).2 = true) : tabOk T = true ∧ entOk e = true ∧ (tputM T e).1 = putM T e ∧ tabOk (tputM T e).1 = true := by
  unfold tputM at h ⊢
  by_cases h1 : tabOk T = true ∧ entOk e = true
  · rw [if_pos h1] at h ⊢
    by_cases h2 : (putM T e).length ≤ 12
    · rw [if_pos h2] at h ⊢
      exact ⟨h1.1, h1.2, rfl, (tabOk_iff _).2 ⟨good_put (tab_good h1.1).1 h1.2, h2⟩⟩
    · rw [if_neg h2] at h; cases h
  · rw [if_neg h1] at h; cases h
theorem tput_yes' {T : List E} {e : E} (h1 : tabOk T = true) (h2 : entOk e = true) (h3 : (putM T e).length ≤ 12) : tputM T e = (putM T e, true) := by
  unfold tputM; rw [if_pos ⟨h1, h2⟩, if_pos h3]
theorem tput_again {T : List E} {e : E} (hT : Good T) (he : entOk e = true) (hU : tabOk (putM T e) = true) : tputM (putM T e) e = (putM T e, true) := by
  have h := put_again hT he
  rw [tput_yes' hU he (by rw [h]; exact (tab_good hU).2), h]
theorem tdrop_len (T : List E) (f b : Int) : (tdropM T f b).1.length ≤ 12 := by
  unfold tdropM
  split
  · rename_i h
    exact Nat.le_trans (drop_len T f b) (tab_good h.1).2
  · simp
theorem drop_in {Z : List E} {f b u : Int} (hZ : tabOk Z = true) (h : (f, b, u) ∈ Z) : tdropM Z f b = (dropM Z f b, true) := by
  have hg := (tab_good hZ).1
  unfold tdropM
  rw [if_pos ⟨hZ, hg.ok h⟩]
  have : (dropM Z f b).length < Z.length := (drop_lt Z f b).2 ⟨_, h, rfl, rfl⟩
  simp [this]
theorem tab_drop {Z : List E} (hZ : tabOk Z = true) (f b : Int) : tabOk (dropM Z f b) = true := by
  obtain ⟨h1, h2⟩ := tab_good hZ
  exact (tabOk_iff _).2 ⟨good_drop h1 f b, Nat.le_trans (drop_len Z f b) h2⟩
theorem halves_same {Z : List E} {f b v1 v2 : Int} (hZ : tabOk Z = true) (ok : okB f b = true) (h8 : b < 8) (m1 : (f, b + 1, v1) ∈ Z) (m2 : (f + sz (b + 1), b + 1, v2) ∈ Z) : tsameM (dropM Z f b) Z = true := by
  unfold tsameM
  rw [tab_drop hZ, hZ, same_halves (tab_good hZ).1 ok h8 m1 m2]; rfl
theorem halves_in {T U Y Z : List E} {f c u z : Int} (hT : Good T) (hU : tabOk T = true ∧ entOk (f, c, u) = true ∧ U = putM T (f, c, u) ∧ tabOk U = true) (h8 : c < 8)
    (hY : tabOk U = true ∧ entOk (f, c + 1, z) = true ∧ Y = putM U (f, c + 1, z) ∧ tabOk Y = true) (hZ : tabOk Y = true ∧ entOk (f + sz (c + 1), c + 1, 3) = true ∧ Z = putM Y (f + sz (c + 1), c + 1, 3) ∧ tabOk Z = true) :
    (f, c + 1, z) ∈ Z ∧ (f + sz (c + 1), c + 1, 3) ∈ Z ∧ (f, c, u) ∈ Z ∧ tabOk Z = true := by
  have gU := (tab_good hU.2.2.2).1
  have gY := (tab_good hY.2.2.2).1
  have ok := ((entOk_iff _).1 hU.2.1).1
  have sp := sz_bd (b := c + 1) (by have := (okB_iff _ _).1 ok; simp only at this; omega) (by omega)
  refine ⟨?_, ?_, ?_, hZ.2.2.2⟩
  · rw [hZ.2.2.1]
    refine (mem_put gY.2 _ _).2 (.inr ⟨?_, fun e => by simp only at e; omega⟩)
    rw [hY.2.2.1]; exact (mem_put gU.2 _ _).2 (.inl rfl)
  · rw [hZ.2.2.1]; exact (mem_put gY.2 _ _).2 (.inl rfl)
  · rw [hZ.2.2.1]
    refine (mem_put gY.2 _ _).2 (.inr ⟨?_, fun e => by simp only at e; omega⟩)
    rw [hY.2.2.1]
    refine (mem_put gU.2 _ _).2 (.inr ⟨?_, fun e => by simp only at e; omega⟩)
    rw [hU.2.2.1]; exact (mem_put hT.2 _ _).2 (.inl rfl)
theorem drop_back {T : List E} (hT : Good T ∧ T.length ≤ 12) {k : Nat} {g d u f c : Int} (hk : T[k]? = some (g, d, u)) (hs : g = f ∧ d = c) :
    tputM (dropM T f c) (g, d, u) = (T, true) ∧ tabOk (dropM T f c) = true ∧ (dropM T f c).length + 1 = T.length ∧ decide ((dropM T f c).length < T.length) = true := by
  obtain ⟨rfl, rfl⟩ := hs
  have hm := mem_at hk
  have h1 := put_drop hT.1 hm
  have h2 := drop_one hT.1 hm
  simp only at h1 h2
  have h3 : tabOk (dropM T g d) = true := tab_drop ((tabOk_iff T).2 hT) g d
  refine ⟨?_, h3, h2, by rw [decide_eq_true_eq]; omega⟩
  rw [tput_yes' h3 (hT.1.1 _ hm) (by rw [h1]; exact hT.2), h1]
theorem none_step {T : List E} {f c : Int} {k : Nat} {g d u : Int} (h : ∀ j x, j < k → T[j]? = some x → ¬ (x.1 = f ∧ x.2.1 = c)) (hk : T[k]? = some (g, d, u)) (hs : ¬ (g = f ∧ d = c)) :
    ∀ j x, j < k + 1 → T[j]? = some x → ¬ (x.1 = f ∧ x.2.1 = c) := fun j x hj hx => by
  by_cases e : j = k
  · subst e; rw [hk] at hx; simp at hx; subst hx; exact hs
  · exact h j x (by omega) hx
theorem tput_is {T L : List E} {f b v : Int} {ok : Bool} (h : tputM T (f, b, v) = (L, ok)) (a : Option Addr) (cap : Nat) (w : World) (hT : TabA w a T) (hl : T.length ≤ 2000000) :
    Calls Try.prog 28 #[.slice a T.length cap, .agg #[.int .i64 f, .int .i64 b, .int .i64 v]] w (OwnB w L ok) := by
  have := tput_any a cap T f b v w hT hl
  rw [h] at this; exact this
theorem tdrop_is {T L : List E} {f b : Int} {ok : Bool} (h : tdropM T f b = (L, ok)) (a : Option Addr) (cap : Nat) (w : World) (hT : TabA w a T) (hl : T.length ≤ 2000000) :
    Calls Try.prog 33 #[.slice a T.length cap, .agg #[.int .i64 f, .int .i64 b]] w (OwnB w L ok) := by
  have := tdrop_any a cap T f b w hT hl
  rw [h] at this; exact this
theorem tsame_is {A B : List E} {x : Bool} (h : tsameM A B = x) (a b : Option Addr) (cap cap' : Nat) (w : World) (hA : TabA w a A) (hB : TabA w b B) (la : A.length ≤ 2000000) (lb : B.length ≤ 2000000) :
    Calls Try.prog 37 #[.slice a A.length cap, .slice b B.length cap'] w fun e w' => e = .returned (.bool x) ∧ Below w.heap.size w w' := by
  rw [← h]; exact tsame_any a b cap cap' A B w hA hB la lb
theorem tless_is {T L : List E} (h : tlessM T = L) (a : Option Addr) (cap : Nat) (w : World) (hT : TabA w a T) (hl : T.length ≤ 2000000) :
    Calls Try.prog 39 #[.slice a T.length cap] w (Own1 w L) := by
  rw [← h]; exact tless_any a cap T w hT hl
theorem tfind_is {T : List E} {x z : Int} (h : tfindM T x = z) (a : Option Addr) (cap : Nat) (w : World) (hT : TabA w a T) (hl : T.length ≤ 2000000) :
    Calls Try.prog 35 #[.slice a T.length cap, .int .i64 x] w fun e w' => e = .returned (.int .i64 z) ∧ Below w.heap.size w w' := by
  rw [← h]; exact tfind_any a cap T x w hT hl
theorem in_step {U : List E} {x e : E} {k : Nat} {z : Bool} (h : z = true ↔ ∃ j, j < k ∧ U[j]? = some e) (hk : U[k]? = some x) : (z || decide (x = e)) = true ↔ ∃ j, j < k + 1 ∧ U[j]? = some e := by
  rw [Bool.or_eq_true, h, decide_eq_true_eq]
  constructor
  · rintro (⟨j, h1, h2⟩ | rfl)
    · exact ⟨j, by omega, h2⟩
    · exact ⟨k, by omega, hk⟩
  · rintro ⟨j, h1, h2⟩
    by_cases e' : j = k
    · subst e'; rw [hk] at h2; exact .inr (by simpa using h2)
    · exact .inl ⟨j, by omega, h2⟩

end Go.Proofs.Ytmbcfdlemapppaa
