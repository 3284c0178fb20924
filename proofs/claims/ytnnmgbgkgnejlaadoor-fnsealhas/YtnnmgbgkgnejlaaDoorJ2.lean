/-
  Several texts joined: PMem, PSpec, PSpecB, PErr, PImp, PBack, PTop, PEx, PExA, PDraw.
-/
import Derived.RangeFuncNested
import Derived.RangeFuncBound
import Derived.RangeFuncCalls
import Derived.RangeFuncLeaves
import Derived.Shelf.Abstract
import Derived.Shelf.RegionOpen
import Derived.OwnWalkIn
import Derived.TacticsInMore
import Derived.LoopNIn
import Derived.LoopIn
import Derived.Deep.Upon
import Derived.Test.YtnnmgbgkgnejlaaDoorJ1
import Derived.LaidEql
import Derived.Stop.Asserts
import Derived.RowKitTokens
/-
  Slices of ints in memory: what they hold; those of the call's own; appending to them.
-/
namespace Go.Proofs.YtnnmgbgkgnejlaaDoor
open Go.RowKit

/-- a slice of ints, as it lies in memory -/
def IntA (w : World) (a : Option Addr) (L : List Int) : Prop :=
  L = [] ∨ ∃ b off, a = some ⟨b, off, none⟩ ∧ ∀ i x, L[i]? = some x → w.cell? ⟨b, off + i, none⟩ = some (.int .i64 x)
theorem IntA.at {w : World} {a : Option Addr} {L : List Int} (h : IntA w a L) {k : Nat} (hk : k < L.length) :
    ∃ b off x, a = some ⟨b, off, none⟩ ∧ L[k]? = some x ∧ w.cell? ⟨b, off + k, none⟩ = some (.int .i64 x) := by
  rcases h with rfl | ⟨b, off, rfl, h⟩
  · simp at hk
  · have e : L[k]? = some L[k] := List.getElem?_eq_getElem hk
    exact ⟨b, off, L[k], rfl, e, h k _ e⟩
theorem IntA.below {w w' : World} {a : Option Addr} {L : List Int} (h : IntA w a L) (k : Below w.heap.size w w') : IntA w' a L := by
  rcases h with rfl | ⟨b, off, rfl, h⟩
  · exact .inl rfl
  · exact .inr ⟨b, off, rfl, fun i e hi => cell_later k (h i e hi)⟩
theorem IntA.alloc {w : World} {a : Option Addr} {L : List Int} (h : IntA w a L) (o : Obj) : IntA (w.alloc o) a L := h.below ((Below.refl _ _).alloc (Nat.le_refl _) o)
theorem IntA.drew {w : World} {a : Option Addr} {L : List Int} (h : IntA w a L) : IntA w.drew a L := h
theorem IntA.take {w : World} {a : Option Addr} {L : List Int} (h : IntA w a L) (k : Nat) : IntA w a (L.take k) := by
  rcases h with rfl | ⟨b, off, rfl, h⟩
  · exact .inl (by simp)
  · refine .inr ⟨b, off, rfl, fun i x hi => h i x ?_⟩
    rw [List.getElem?_take] at hi
    split at hi
    · exact hi
    · cases hi
theorem IntA.drop {w : World} {b off : Nat} {L : List Int} (h : IntA w (some ⟨b, off, none⟩) L) (k : Nat) : IntA w (some ⟨b, off + k, none⟩) (L.drop k) := by
  rcases h with rfl | ⟨b', off', e, h⟩
  · exact .inl (by simp)
  · obtain ⟨rfl, rfl⟩ : b = b' ∧ off = off' := by simpa using e
    refine .inr ⟨b, off + k, rfl, fun i x hi => ?_⟩
    rw [List.getElem?_drop] at hi
    rw [Nat.add_assoc]
    exact h (k + i) x hi

def cellsI (L : List Int) : List Value := L.map (Value.int .i64 ·)
theorem cellsI_len (L : List Int) : (cellsI L).length = L.length := by simp [cellsI]
theorem cellsI_at {L : List Int} {i : Nat} {x : Int} (h : L[i]? = some x) : (cellsI L)[i]? = some (.int .i64 x) := by simp [cellsI, h]
theorem oneI (L : List Int) : ∀ u ∈ cellsI L, u.oneCell' = true := by
  intro u hu
  simp only [cellsI, List.mem_map] at hu
  obtain ⟨x, _, rfl⟩ := hu
  rfl
theorem IntA.cells {w : World} {b off : Nat} {L : List Int} (h : IntA w (some ⟨b, off, none⟩) L) (j : Nat) (u : Value) (hj : (cellsI L)[j]? = some u) : w.cell? ((⟨b, off, none⟩ : Addr).add j) = some u := by
  rcases h with rfl | ⟨b', off', e, h⟩
  · simp [cellsI] at hj
  · obtain ⟨rfl, rfl⟩ : b = b' ∧ off = off' := by simpa using e
    simp only [cellsI, List.getElem?_map, Option.map_eq_some_iff] at hj
    obtain ⟨x, hx, rfl⟩ := hj
    rw [Addr.add_lit]
    exact h j x hx

/-- a slice of ints of the call's own -/
abbrev OwnI (w : World) (R : Nat) (v : Value) (L : List Int) : Prop := w.ownsRow R 3 1 v L.length (cellsI L)
theorem OwnI.tab {w : World} {R : Nat} {v : Value} {L : List Int} (h : OwnI w R v L) : ∃ a cap, v = .slice a L.length cap ∧ L.length ≤ cap ∧ IntA w a L := by
  obtain ⟨_, h2⟩ := id h
  rcases h2 with ⟨rfl, h0⟩ | ⟨g, cap, cur, rfl, hb, hg, hc, hm, hs, ht⟩
  · exact ⟨none, 0, by rw [h0], by omega, .inl (List.eq_nil_of_length_eq_zero h0)⟩
  · refine ⟨_, cap, rfl, hc, .inr ⟨g, 0, rfl, fun i x hi => ?_⟩⟩
    obtain ⟨hi', _⟩ := List.getElem?_eq_some_iff.1 hi
    rw [Nat.zero_add]; exact (h.cellAt i (by omega)).trans (cellsI_at hi)
theorem OwnI.intA {w : World} {R n cap : Nat} {a : Option Addr} {L : List Int} (h : OwnI w R (.slice a n cap) L) : n = L.length ∧ L.length ≤ cap ∧ IntA w a L := by
  obtain ⟨a', cap', e, hc, t⟩ := OwnI.tab h
  obtain ⟨rfl, rfl, rfl⟩ : a = a' ∧ n = L.length ∧ cap = cap' := by simpa using e
  exact ⟨rfl, hc, t⟩
theorem owni_later {w w' : World} {R : Nat} {v : Value} {L : List Int} (h : OwnI w R v L) (k : Below w.heap.size w w') : OwnI w' R v L :=
  h.kept (row := none) ⟨k.os, k.tape, k.output, k.size, fun i hi _ => k.block i hi⟩ (by
    cases v.ownBlock with
    | none => exact .inl rfl
    | some k => exact .inr (by simp))
theorem owni_mono {w : World} {R R' : Nat} {v : Value} {L : List Int} (h : OwnI w R v L) (hR : R' ≤ R) : OwnI w R' v L := by
  obtain ⟨h1, h2⟩ := h
  refine ⟨h1, ?_⟩
  rcases h2 with h | ⟨g, cap, cur, e, hb, r⟩
  · exact .inl h
  · exact .inr ⟨g, cap, cur, e, by omega, r⟩
theorem owni_nil (w : World) (R : Nat) : OwnI w R (.slice none 0 0) [] := World.ownsRow_nil w R _ _
theorem owni_empty (w : World) (R : Nat) (hR : R ≤ w.heap.size) : OwnI (w.alloc (.cells #[] 3)) R (.slice (some ⟨w.heap.size, 0, none⟩) 0 0) [] :=
  World.ownsRow_lit w #[] 0 hR (by unfold maxLen; omega) rfl
theorem owni_one (w : World) (R : Nat) (hR : R ≤ w.heap.size) (x : Int) : OwnI (w.alloc (.cells #[.int .i64 x] 3)) R (.slice (some ⟨w.heap.size, 0, none⟩) 1 1) [x] :=
  World.ownsRow_lit w #[.int .i64 x] 1 hR (by unfold maxLen; omega) rfl
theorem infoI : (Tryd.prog.info? 3).map (fun i => (i.zero, i.size, i.bytes)) = some (some (.int .i64 0), 1, 8) := by kernel_rfl
theorem appi_below {R : Nat} {W w2 : World} {v : Value} {L : List Int} (ho : OwnI W R v L) (hg : W.grownBy w2 v.ownBlock) (hR : R ≤ W.heap.size) : Below R W w2 :=
  (Below.refl R W).grown hg hR (fun k e => (ho.lt k e).1)

/-- 'append(own, xs...)', xs a slice of ints, also a nil one -/
theorem wp_appI {o : Oper} {act : Act} {w : World} {K : Act → World → Prop} {Q : Exit → Act → World → Prop} (s x : Operand)
    (ho : o.op = .call { callee := .builtin .append, args := #[s, x], argTypes := #[25, 25] })
    (R : Nat) (v : Value) (L : List Int) (hs : act.eval s = v) (hown : OwnI w R v L)
    (a : Option Addr) (c : Nat) (M : List Int) (hx : act.eval x = .slice a M.length c) (hM : IntA w a M) (hc : M.length ≤ c)
    (hlen : L.length + M.length ≤ 4000000) (hR : R ≤ w.heap.size)
    (h : ∀ v' w', OwnI w' R v' (L ++ M) → w.grownBy w' v.ownBlock → K (act.put o.dst v') w') : o.wp Tryd.prog act w K Q := by
  obtain ⟨i0, hi, hz0, hz1, hz2⟩ := info_parts infoI
  rcases hM with rfl | ⟨b, off, rfl, hM⟩
  · obtain ⟨a0, cap0, rfl, hc0, _⟩ := OwnI.tab hown
    have hr := run_append_nothing (P := Tryd.prog) w 25 25 o.type 3 i0 Tryd.underlying25 hi a0 L.length cap0 hc0 (.slice a 0 c) (by
      cases a with
      | none => exact Src.ofNil w Tryd.underlying25 c
      | some ad => exact Src.ofSlice w Tryd.underlying25 ad 0 c [] (by simp) (fun j u h => by simp at h) (fun u h => by cases h))
    unfold Oper.wp execOp
    simp only [ho, resolve, invoke, builtin, Sem.run_bind, Sem.run_pure, Result.andThen_ok, List.map_toArray, List.map_cons, List.map_nil, hs, hx, List.length_nil, hr]
    exact h _ _ (by simpa using hown) (World.grownBy.refl _ _)
  · refine wp_append_own w s x 25 ho R 3 i0 (.int .i64 0) 1 8 Tryd.underlying25 hi hz0 hz1 hz2 rfl (by decide) v L.length (cellsI L) hs hown ⟨b, off, none⟩ M.length c (cellsI M) hx (by rw [cellsI_len, Nat.mul_one]) (fun j u hj => IntA.cells (.inr ⟨b, off, rfl, hM⟩) j u hj) (oneI M) (by unfold maxLen; omega) (by omega) hR ?_
    intro v' w' h2 h3 _
    exact h v' w' (by rw [OwnI, List.length_append, cellsI, List.map_append]; exact h2) h3
theorem wpList_appI {ops : Array Oper} {rest : List Oper} {o : Oper} {act : Act} {w : World} {Q : Exit → Act → World → Prop} (hgd : o.guard = none) (s x : Operand)
    (ho : o.op = .call { callee := .builtin .append, args := #[s, x], argTypes := #[25, 25] })
    (R : Nat) (v : Value) (L : List Int) (hs : act.eval s = v) (hown : OwnI w R v L)
    (a : Option Addr) (c : Nat) (M : List Int) (hx : act.eval x = .slice a M.length c) (hM : IntA w a M) (hc : M.length ≤ c)
    (hlen : L.length + M.length ≤ 4000000) (hR : R ≤ w.heap.size)
    (h : ∀ v' w', OwnI w' R v' (L ++ M) → w.grownBy w' v.ownBlock → wpList Tryd.prog ops Q rest (act.put o.dst v') w') : wpList Tryd.prog ops Q (o :: rest) act w :=
  wpList_plain hgd fun _ hK => wp_appI s x ho R v L hs hown a c M hx hM hc hlen hR fun v' w' h2 h3 => hK _ _ (h v' w' h2 h3)
end Go.Proofs.YtnnmgbgkgnejlaaDoor

/-
  What the model's functions on paths answer: is a number among such, is a list a path, which stands ahead.
-/
namespace Go.Proofs.YtnnmgbgkgnejlaaDoor
open Go.RowKit
set_option linter.unusedSimpArgs false

set_option maxHeartbeats 400000 in
theorem shouse_is {h : Int} {x : Bool} (k : isH h = x) (w : World) :
    Calls Tryd.prog 58 #[.int .i64 h] w fun e w' => e = .returned (.bool x) ∧ w = w' := by
  have hr := Lib.hid (show inR h 1 5 = x by rw [← k]; rfl)
  clear k
  go_enter Tryd.func58, Tryd.ntmps58
  go_wp2_with fail
  refine (in_any _ _ _ _).mono ?_
  rintro e w2 ⟨rfl, rfl⟩
  go_wp2_with fail
  go_ret
  exact ⟨ret_bool hr.out, rfl⟩

set_option maxHeartbeats 1000000 in
theorem pshas_any (a : Option Addr) (cap : Nat) (L : List Int) (n : Int) (w : World) (hL : IntA w a L) (hl : L.length ≤ 4000000) :
    Calls Tryd.prog 59 #[.slice a L.length cap, .int .i64 n] w fun e w' => e = .returned (.bool (decide (n ∈ L))) ∧ w = w' := by
  go_enter Tryd.func59, Tryd.ntmps59
  go_wp2_with fail
  go_loopw [5] (fun i wr => ∃ k : Nat, k ≤ L.length ∧ i = .int .i64 k ∧ Hid (n ∉ L.take k) ∧ w = wr) (fun i _ => L.length - (intOf i).toNat)
  case atStart => exact ⟨0, Nat.zero_le _, rfl, Lib.hid (by simp), rfl⟩
  case round =>
    obtain ⟨k, hk, rfl, hn, rfl⟩ := hrel
    by_cases hlt : k < L.length
    · obtain ⟨b, off, x, rfl, hLk, c0⟩ := hL.at hlt
      have i0 : (0 : Int) ≤ (k : Int) := by omega
      have i1 : (k : Int) < (L.length : Int) := by omega
      by_cases hx : x = n
      · subst hx
        have HR := Lib.hid (show decide (x ∈ L) = true from decide_eq_true (List.mem_of_getElem? hLk))
        clear hLk hL hn
        go_wp2_with fail
        go_ret
        exact ⟨ret_bool HR.out.symm, rfl⟩
      · have hx' : (x == n) = false := by simp [hx]
        have HR : Hid (n ∉ L.take (k + 1)) := Lib.hid (by
          rw [List.take_add_one, hLk]
          intro h
          rcases List.mem_append.1 h with h | h
          · exact hn.out h
          · simp at h; exact hx h.symm)
        clear hLk hL hn
        go_wp2_with fail
        go_roundw
        case rel => exact ⟨k + 1, by omega, by go_num, HR, trivial⟩
        case measure => simp [intOf]; omega
    · obtain rfl : k = L.length := by omega
      have HR := Lib.hid (show decide (n ∈ L) = false by have := hn.out; rw [List.take_length] at this; simpa using this)
      clear hL hn
      go_wp2_with fail
      go_ret
      exact ⟨ret_bool HR.out.symm, rfl⟩
theorem pshas_is {L : List Int} {n : Int} {x : Bool} (h : decide (n ∈ L) = x) (a : Option Addr) (cap m : Nat) (w : World) (hm : m = L.length) (hL : IntA w a L) (hl : L.length ≤ 4000000) :
    Calls Tryd.prog 59 #[.slice a m cap, .int .i64 n] w fun e w' => e = .returned (.bool x) ∧ w = w' := by
  rw [← h, hm]; exact pshas_any a cap L n w hL hl

theorem path_bad {L : List Int} {k : Nat} {x : Int} (hx : L[k]? = some x) (h : ¬ ((1 ≤ x ∧ x ≤ 5) ∧ x ∉ L.take k)) : pOk L = false := pOk_no fun hp => by
  have := hp.take (k + 1)
  rw [List.take_add_one, hx] at this
  obtain ⟨_, h1, h2⟩ := path_snoc.1 this
  exact h ⟨h1, h2⟩
theorem path_next {L : List Int} {k : Nat} {x : Int} (hx : L[k]? = some x) (hp : Path (L.take k)) (h1 : 1 ≤ x ∧ x ≤ 5) (h2 : x ∉ L.take k) : Path (L.take (k + 1)) := by
  rw [List.take_add_one, hx]
  exact path_snoc.2 ⟨hp, h1, h2⟩

set_option maxHeartbeats 4000000 in
theorem psok_any (a : Option Addr) (cap : Nat) (L : List Int) (w : World) (hL : IntA w a L) (hc : L.length ≤ cap) (hl : L.length ≤ 4000000) :
    Calls Tryd.prog 71 #[.slice a L.length cap] w fun e w' => e = .returned (.bool (pOk L)) ∧ Below w.heap.size w w' := by
  go_enter Tryd.func71, Tryd.ntmps71
  go_wp2_with fail
  go_loopw [3] (fun i wr => ∃ k : Nat, k ≤ L.length ∧ i = .int .i64 k ∧ Hid (Path (L.take k)) ∧ Below w.heap.size w wr) (fun i _ => L.length - (intOf i).toNat)
  case atStart => exact ⟨0, Nat.zero_le _, rfl, Lib.hid Path.nil, Below.refl _ _⟩
  case round =>
    obtain ⟨k, hk, rfl, hg, hb⟩ := hrel
    by_cases hlt : k < L.length
    · obtain ⟨b, off, x, rfl, hLk, c0⟩ := hL.at hlt
      have HA := Lib.hid (IntA.take hL k)
      have HD := Lib.hid (cell_later hb c0)
      have HB := Lib.hid hb
      have HK := Lib.hid hLk
      have i0 : (0 : Int) ≤ (k : Int) := by omega
      have i1 : (k : Int) < (L.length : Int) := by omega
      have i2 : (k : Int) ≤ (cap : Int) := by omega
      have hkl : Hid (k = (L.take k).length) := Lib.hid (by rw [List.length_take]; omega)
      have hs := hb.size
      clear c0 hL hLk hb
      cases hh : isH x with
      | false =>
        have HN := Lib.hid (path_bad HK.out (fun h => isH_no hh h.1))
        go_wp2_with fail
        refine wp_region_held_drew (S := fun W => W.cell? ⟨b, off + k, none⟩ = some (.int .i64 x) ∧ Below w.heap.size w W) (by kernel_rfl) ?_ (fun hHeld => ?_)
        · exact ⟨HD.out, HB.out.drew⟩
        refine takeH (i := 0) (v := ?_) rfl rfl (by kernel_rfl) (by kernel_rfl) (by kernel_rfl) (fun _ _ _ h => h) (by rfl) ?_ (by assumption) ?_
        rotate_left 1
        · intro w hSw
          (try dsimp only at hSw)
          go_simp
          try with_reducible rfl
        try simp only [List.setIfInBounds_toArray, List.set_cons_zero, List.set_cons_succ]
        refine takeH (i := 1) (v := ?_) rfl rfl (by kernel_rfl) (by kernel_rfl) (by kernel_rfl) (fun _ _ _ h => h) (by rfl) ?_ (by assumption) ?_
        rotate_left 1
        · intro w hSw
          (try dsimp only at hSw)
          go_simp
          try with_reducible rfl
        try simp only [List.setIfInBounds_toArray, List.set_cons_zero, List.set_cons_succ]
        refine takeH (i := 2) (v := ?_) rfl rfl (by kernel_rfl) (by kernel_rfl) (by kernel_rfl) (fun _ _ _ h => h) (by rfl) ?_ (by assumption) ?_
        rotate_left 1
        · intro w hSw
          (try dsimp only at hSw)
          go_simp
          try with_reducible rfl
        try simp only [List.setIfInBounds_toArray, List.set_cons_zero, List.set_cons_succ]
        refine takeH (i := 3) (v := ?_) rfl rfl (by kernel_rfl) (by kernel_rfl) (by kernel_rfl) (fun _ _ _ h => h) (by rfl) ?_ (by assumption) ?_
        rotate_left 1
        · intro w hSw
          (try dsimp only at hSw)
          go_simp
          try with_reducible rfl
        try simp only [List.setIfInBounds_toArray, List.set_cons_zero, List.set_cons_succ]
        refine wpAnyH_ready (rs := [4]) (by kernel_rfl) (by simp) ?_
        refine AllReadyH.cons rfl (fun K hK => ?_) (AllReadyH.nil)
        go_simp
        refine (shouse_is hh _).mono ?_
        rintro e w2 ⟨rfl, rfl⟩
        go_wp2_with fail
        refine hK.out _ _ ?_ (fun hNew => ?_)
        · exact hHeld
        clear hK K hHeld
        have hHeld := hNew
        clear hNew
        try simp only [Act.put, List.setIfInBounds_toArray, List.set_cons_zero, List.set_cons_succ]
        refine takeH (i := 5) (v := ?_) rfl rfl (by kernel_rfl) (by kernel_rfl) (by kernel_rfl) (fun _ _ _ h => h) (by rfl) ?_ (by assumption) ?_
        rotate_left 1
        · intro w hSw
          (try dsimp only at hSw)
          go_simp
          try with_reducible rfl
        try simp only [List.setIfInBounds_toArray, List.set_cons_zero, List.set_cons_succ]
        refine takeH (i := 6) (v := ?_) rfl rfl (by kernel_rfl) (by kernel_rfl) (by kernel_rfl) (fun _ _ _ h => h) (by rfl) ?_ (by assumption) ?_
        rotate_left 1
        · intro w hSw
          (try dsimp only at hSw)
          go_simp
          try with_reducible rfl
        try simp only [List.setIfInBounds_toArray, List.set_cons_zero, List.set_cons_succ]
        refine skipH (i := 7) rfl rfl (by kernel_rfl) (by kernel_rfl) (by kernel_rfl) (fun _ _ _ h => h) (by rfl) (by assumption) ?_
        try simp only [List.setIfInBounds_toArray, List.set_cons_zero, List.set_cons_succ]
        refine skipH (i := 8) rfl rfl (by kernel_rfl) (by kernel_rfl) (by kernel_rfl) (fun _ _ _ h => h) (by rfl) (by assumption) ?_
        try simp only [List.setIfInBounds_toArray, List.set_cons_zero, List.set_cons_succ]
        refine skipH (i := 9) rfl rfl (by kernel_rfl) (by kernel_rfl) (by kernel_rfl) (fun _ _ _ h => h) (by rfl) (by assumption) ?_
        try simp only [List.setIfInBounds_toArray, List.set_cons_zero, List.set_cons_succ]
        refine skipH (i := 10) rfl rfl (by kernel_rfl) (by kernel_rfl) (by kernel_rfl) (fun _ _ _ h => h) (by rfl) (by assumption) ?_
        try simp only [List.setIfInBounds_toArray, List.set_cons_zero, List.set_cons_succ]
        refine skipH (i := 11) rfl rfl (by kernel_rfl) (by kernel_rfl) (by kernel_rfl) (fun _ _ _ h => h) (by rfl) (by assumption) ?_
        try simp only [List.setIfInBounds_toArray, List.set_cons_zero, List.set_cons_succ]
        refine skipH (i := 12) rfl rfl (by kernel_rfl) (by kernel_rfl) (by kernel_rfl) (fun _ _ _ h => h) (by rfl) (by assumption) ?_
        try simp only [List.setIfInBounds_toArray, List.set_cons_zero, List.set_cons_succ]
        refine skipH (i := 13) rfl rfl (by kernel_rfl) (by kernel_rfl) (by kernel_rfl) (fun _ _ _ h => h) (by rfl) (by assumption) ?_
        try simp only [List.setIfInBounds_toArray, List.set_cons_zero, List.set_cons_succ]
        refine skipH (i := 14) rfl rfl (by kernel_rfl) (by kernel_rfl) (by kernel_rfl) (fun _ _ _ h => h) (by rfl) (by assumption) ?_
        try simp only [List.setIfInBounds_toArray, List.set_cons_zero, List.set_cons_succ]
        refine takeH (i := 15) (v := ?_) rfl rfl (by kernel_rfl) (by kernel_rfl) (by kernel_rfl) (fun _ _ _ h => h) (by rfl) ?_ (by assumption) ?_
        rotate_left 1
        · intro w hSw
          (try dsimp only at hSw)
          go_simp
          try with_reducible rfl
        try simp only [List.setIfInBounds_toArray, List.set_cons_zero, List.set_cons_succ]
        refine wpAnyH_done (by kernel_rfl) ?_ _
        have HH := Lib.hid hHeld
        clear hHeld
        go_wp2_with fail
        go_ret
        exact ⟨ret_bool HN.out.symm, HH.out.2⟩
      | true =>
        have hx := (isH_iff x).1 hh
        by_cases hm : x ∈ L.take k
        · have HN := Lib.hid (path_bad HK.out (fun h => h.2 hm))
          have hm' : decide (x ∈ L.take k) = true := decide_eq_true hm
          clear hm hx
          go_wp2_with fail
          refine wp_region_held_drew (S := fun W => W.cell? ⟨b, off + k, none⟩ = some (.int .i64 x) ∧ Below w.heap.size w W) (by kernel_rfl) ?_ (fun hHeld => ?_)
          · exact ⟨HD.out, HB.out.drew⟩
          refine takeH (i := 0) (v := ?_) rfl rfl (by kernel_rfl) (by kernel_rfl) (by kernel_rfl) (fun _ _ _ h => h) (by rfl) ?_ (by assumption) ?_
          rotate_left 1
          · intro w hSw
            (try dsimp only at hSw)
            go_simp
            try with_reducible rfl
          try simp only [List.setIfInBounds_toArray, List.set_cons_zero, List.set_cons_succ]
          refine takeH (i := 1) (v := ?_) rfl rfl (by kernel_rfl) (by kernel_rfl) (by kernel_rfl) (fun _ _ _ h => h) (by rfl) ?_ (by assumption) ?_
          rotate_left 1
          · intro w hSw
            (try dsimp only at hSw)
            go_simp
            try with_reducible rfl
          try simp only [List.setIfInBounds_toArray, List.set_cons_zero, List.set_cons_succ]
          refine takeH (i := 2) (v := ?_) rfl rfl (by kernel_rfl) (by kernel_rfl) (by kernel_rfl) (fun _ _ _ h => h) (by rfl) ?_ (by assumption) ?_
          rotate_left 1
          · intro w hSw
            (try dsimp only at hSw)
            go_simp
            try with_reducible rfl
          try simp only [List.setIfInBounds_toArray, List.set_cons_zero, List.set_cons_succ]
          refine takeH (i := 3) (v := ?_) rfl rfl (by kernel_rfl) (by kernel_rfl) (by kernel_rfl) (fun _ _ _ h => h) (by rfl) ?_ (by assumption) ?_
          rotate_left 1
          · intro w hSw
            (try dsimp only at hSw)
            go_simp
            try with_reducible rfl
          try simp only [List.setIfInBounds_toArray, List.set_cons_zero, List.set_cons_succ]
          refine wpAnyH_ready (rs := [4]) (by kernel_rfl) (by simp) ?_
          refine AllReadyH.cons rfl (fun K hK => ?_) (AllReadyH.nil)
          go_simp
          refine (shouse_is hh _).mono ?_
          rintro e w2 ⟨rfl, rfl⟩
          go_wp2_with fail
          refine hK.out _ _ ?_ (fun hNew => ?_)
          · exact hHeld
          clear hK K hHeld
          have hHeld := hNew
          clear hNew
          try simp only [Act.put, List.setIfInBounds_toArray, List.set_cons_zero, List.set_cons_succ]
          refine takeH (i := 5) (v := ?_) rfl rfl (by kernel_rfl) (by kernel_rfl) (by kernel_rfl) (fun _ _ _ h => h) (by rfl) ?_ (by assumption) ?_
          rotate_left 1
          · intro w hSw
            (try dsimp only at hSw)
            go_simp
            try with_reducible rfl
          try simp only [List.setIfInBounds_toArray, List.set_cons_zero, List.set_cons_succ]
          refine takeH (i := 6) (v := ?_) rfl rfl (by kernel_rfl) (by kernel_rfl) (by kernel_rfl) (fun _ _ _ h => h) (by rfl) ?_ (by assumption) ?_
          rotate_left 1
          · intro w hSw
            (try dsimp only at hSw)
            go_simp
            try with_reducible rfl
          try simp only [List.setIfInBounds_toArray, List.set_cons_zero, List.set_cons_succ]
          refine takeH (i := 7) (v := ?_) rfl rfl (by kernel_rfl) (by kernel_rfl) (by kernel_rfl) (fun _ _ _ h => h) (by rfl) ?_ (by assumption) ?_
          rotate_left 1
          · intro w hSw
            (try dsimp only at hSw)
            go_simp
            try with_reducible rfl
          try simp only [List.setIfInBounds_toArray, List.set_cons_zero, List.set_cons_succ]
          refine takeH (i := 8) (v := ?_) rfl rfl (by kernel_rfl) (by kernel_rfl) (by kernel_rfl) (fun _ _ _ h => h) (by rfl) ?_ (by assumption) ?_
          rotate_left 1
          · intro w hSw
            (try dsimp only at hSw)
            go_simp
            try with_reducible rfl
          try simp only [List.setIfInBounds_toArray, List.set_cons_zero, List.set_cons_succ]
          refine takeH (i := 9) (v := ?_) rfl rfl (by kernel_rfl) (by kernel_rfl) (by kernel_rfl) (fun _ _ _ h => h) (by rfl) ?_ (by assumption) ?_
          rotate_left 1
          · intro w hSw
            (try dsimp only at hSw)
            go_simp
            try with_reducible rfl
          try simp only [List.setIfInBounds_toArray, List.set_cons_zero, List.set_cons_succ]
          refine takeH (i := 10) (v := ?_) rfl rfl (by kernel_rfl) (by kernel_rfl) (by kernel_rfl) (fun _ _ _ h => h) (by rfl) ?_ (by assumption) ?_
          rotate_left 1
          · intro w hSw
            (try dsimp only at hSw)
            go_simp
            try with_reducible rfl
          try simp only [List.setIfInBounds_toArray, List.set_cons_zero, List.set_cons_succ]
          refine takeH (i := 11) (v := ?_) rfl rfl (by kernel_rfl) (by kernel_rfl) (by kernel_rfl) (fun _ _ _ h => h) (by rfl) ?_ (by assumption) ?_
          rotate_left 1
          · intro w hSw
            (try dsimp only at hSw)
            go_simp
            try with_reducible rfl
          try simp only [List.setIfInBounds_toArray, List.set_cons_zero, List.set_cons_succ]
          refine takeH (i := 12) (v := ?_) rfl rfl (by kernel_rfl) (by kernel_rfl) (by kernel_rfl) (fun _ _ _ h => h) (by rfl) ?_ (by assumption) ?_
          rotate_left 1
          · intro w hSw
            (try dsimp only at hSw)
            go_simp
            try with_reducible rfl
          try simp only [List.setIfInBounds_toArray, List.set_cons_zero, List.set_cons_succ]
          refine takeH (i := 13) (v := ?_) rfl rfl (by kernel_rfl) (by kernel_rfl) (by kernel_rfl) (fun _ _ _ h => h) (by rfl) ?_ (by assumption) ?_
          rotate_left 1
          · intro w hSw
            (try dsimp only at hSw)
            go_simp
            try with_reducible rfl
          try simp only [List.setIfInBounds_toArray, List.set_cons_zero, List.set_cons_succ]
          refine wpAnyH_ready (rs := [14]) (by kernel_rfl) (by simp) ?_
          refine AllReadyH.cons rfl (fun K hK => ?_) (AllReadyH.nil)
          go_simp
          refine (pshas_is hm' _ _ _ _ hkl.out (HA.out.below hHeld.2) (by rw [← hkl.out]; omega)).mono ?_
          rintro e w3 ⟨rfl, rfl⟩
          go_wp2_with fail
          refine hK.out _ _ ?_ (fun hNew => ?_)
          · exact hHeld
          clear hK K hHeld
          have hHeld := hNew
          clear hNew
          try simp only [Act.put, List.setIfInBounds_toArray, List.set_cons_zero, List.set_cons_succ]
          refine takeH (i := 15) (v := ?_) rfl rfl (by kernel_rfl) (by kernel_rfl) (by kernel_rfl) (fun _ _ _ h => h) (by rfl) ?_ (by assumption) ?_
          rotate_left 1
          · intro w hSw
            (try dsimp only at hSw)
            go_simp
            try with_reducible rfl
          try simp only [List.setIfInBounds_toArray, List.set_cons_zero, List.set_cons_succ]
          refine wpAnyH_done (by kernel_rfl) ?_ _
          have HH := Lib.hid hHeld
          clear hHeld
          go_wp2_with fail
          go_ret
          exact ⟨ret_bool HN.out.symm, HH.out.2⟩
        · have HG := Lib.hid (path_next HK.out hg.out hx hm)
          have hm' : decide (x ∈ L.take k) = false := decide_eq_false hm
          clear hm hx hg
          go_wp2_with fail
          refine wp_region_held_drew (S := fun W => W.cell? ⟨b, off + k, none⟩ = some (.int .i64 x) ∧ Below w.heap.size w W) (by kernel_rfl) ?_ (fun hHeld => ?_)
          · exact ⟨HD.out, HB.out.drew⟩
          refine takeH (i := 0) (v := ?_) rfl rfl (by kernel_rfl) (by kernel_rfl) (by kernel_rfl) (fun _ _ _ h => h) (by rfl) ?_ (by assumption) ?_
          rotate_left 1
          · intro w hSw
            (try dsimp only at hSw)
            go_simp
            try with_reducible rfl
          try simp only [List.setIfInBounds_toArray, List.set_cons_zero, List.set_cons_succ]
          refine takeH (i := 1) (v := ?_) rfl rfl (by kernel_rfl) (by kernel_rfl) (by kernel_rfl) (fun _ _ _ h => h) (by rfl) ?_ (by assumption) ?_
          rotate_left 1
          · intro w hSw
            (try dsimp only at hSw)
            go_simp
            try with_reducible rfl
          try simp only [List.setIfInBounds_toArray, List.set_cons_zero, List.set_cons_succ]
          refine takeH (i := 2) (v := ?_) rfl rfl (by kernel_rfl) (by kernel_rfl) (by kernel_rfl) (fun _ _ _ h => h) (by rfl) ?_ (by assumption) ?_
          rotate_left 1
          · intro w hSw
            (try dsimp only at hSw)
            go_simp
            try with_reducible rfl
          try simp only [List.setIfInBounds_toArray, List.set_cons_zero, List.set_cons_succ]
          refine takeH (i := 3) (v := ?_) rfl rfl (by kernel_rfl) (by kernel_rfl) (by kernel_rfl) (fun _ _ _ h => h) (by rfl) ?_ (by assumption) ?_
          rotate_left 1
          · intro w hSw
            (try dsimp only at hSw)
            go_simp
            try with_reducible rfl
          try simp only [List.setIfInBounds_toArray, List.set_cons_zero, List.set_cons_succ]
          refine wpAnyH_ready (rs := [4]) (by kernel_rfl) (by simp) ?_
          refine AllReadyH.cons rfl (fun K hK => ?_) (AllReadyH.nil)
          go_simp
          refine (shouse_is hh _).mono ?_
          rintro e w2 ⟨rfl, rfl⟩
          go_wp2_with fail
          refine hK.out _ _ ?_ (fun hNew => ?_)
          · exact hHeld
          clear hK K hHeld
          have hHeld := hNew
          clear hNew
          try simp only [Act.put, List.setIfInBounds_toArray, List.set_cons_zero, List.set_cons_succ]
          refine takeH (i := 5) (v := ?_) rfl rfl (by kernel_rfl) (by kernel_rfl) (by kernel_rfl) (fun _ _ _ h => h) (by rfl) ?_ (by assumption) ?_
          rotate_left 1
          · intro w hSw
            (try dsimp only at hSw)
            go_simp
            try with_reducible rfl
          try simp only [List.setIfInBounds_toArray, List.set_cons_zero, List.set_cons_succ]
          refine takeH (i := 6) (v := ?_) rfl rfl (by kernel_rfl) (by kernel_rfl) (by kernel_rfl) (fun _ _ _ h => h) (by rfl) ?_ (by assumption) ?_
          rotate_left 1
          · intro w hSw
            (try dsimp only at hSw)
            go_simp
            try with_reducible rfl
          try simp only [List.setIfInBounds_toArray, List.set_cons_zero, List.set_cons_succ]
          refine takeH (i := 7) (v := ?_) rfl rfl (by kernel_rfl) (by kernel_rfl) (by kernel_rfl) (fun _ _ _ h => h) (by rfl) ?_ (by assumption) ?_
          rotate_left 1
          · intro w hSw
            (try dsimp only at hSw)
            go_simp
            try with_reducible rfl
          try simp only [List.setIfInBounds_toArray, List.set_cons_zero, List.set_cons_succ]
          refine takeH (i := 8) (v := ?_) rfl rfl (by kernel_rfl) (by kernel_rfl) (by kernel_rfl) (fun _ _ _ h => h) (by rfl) ?_ (by assumption) ?_
          rotate_left 1
          · intro w hSw
            (try dsimp only at hSw)
            go_simp
            try with_reducible rfl
          try simp only [List.setIfInBounds_toArray, List.set_cons_zero, List.set_cons_succ]
          refine takeH (i := 9) (v := ?_) rfl rfl (by kernel_rfl) (by kernel_rfl) (by kernel_rfl) (fun _ _ _ h => h) (by rfl) ?_ (by assumption) ?_
          rotate_left 1
          · intro w hSw
            (try dsimp only at hSw)
            go_simp
            try with_reducible rfl
          try simp only [List.setIfInBounds_toArray, List.set_cons_zero, List.set_cons_succ]
          refine takeH (i := 10) (v := ?_) rfl rfl (by kernel_rfl) (by kernel_rfl) (by kernel_rfl) (fun _ _ _ h => h) (by rfl) ?_ (by assumption) ?_
          rotate_left 1
          · intro w hSw
            (try dsimp only at hSw)
            go_simp
            try with_reducible rfl
          try simp only [List.setIfInBounds_toArray, List.set_cons_zero, List.set_cons_succ]
          refine takeH (i := 11) (v := ?_) rfl rfl (by kernel_rfl) (by kernel_rfl) (by kernel_rfl) (fun _ _ _ h => h) (by rfl) ?_ (by assumption) ?_
          rotate_left 1
          · intro w hSw
            (try dsimp only at hSw)
            go_simp
            try with_reducible rfl
          try simp only [List.setIfInBounds_toArray, List.set_cons_zero, List.set_cons_succ]
          refine takeH (i := 12) (v := ?_) rfl rfl (by kernel_rfl) (by kernel_rfl) (by kernel_rfl) (fun _ _ _ h => h) (by rfl) ?_ (by assumption) ?_
          rotate_left 1
          · intro w hSw
            (try dsimp only at hSw)
            go_simp
            try with_reducible rfl
          try simp only [List.setIfInBounds_toArray, List.set_cons_zero, List.set_cons_succ]
          refine takeH (i := 13) (v := ?_) rfl rfl (by kernel_rfl) (by kernel_rfl) (by kernel_rfl) (fun _ _ _ h => h) (by rfl) ?_ (by assumption) ?_
          rotate_left 1
          · intro w hSw
            (try dsimp only at hSw)
            go_simp
            try with_reducible rfl
          try simp only [List.setIfInBounds_toArray, List.set_cons_zero, List.set_cons_succ]
          refine wpAnyH_ready (rs := [14]) (by kernel_rfl) (by simp) ?_
          refine AllReadyH.cons rfl (fun K hK => ?_) (AllReadyH.nil)
          go_simp
          refine (pshas_is hm' _ _ _ _ hkl.out (HA.out.below hHeld.2) (by rw [← hkl.out]; omega)).mono ?_
          rintro e w3 ⟨rfl, rfl⟩
          go_wp2_with fail
          refine hK.out _ _ ?_ (fun hNew => ?_)
          · exact hHeld
          clear hK K hHeld
          have hHeld := hNew
          clear hNew
          try simp only [Act.put, List.setIfInBounds_toArray, List.set_cons_zero, List.set_cons_succ]
          refine takeH (i := 15) (v := ?_) rfl rfl (by kernel_rfl) (by kernel_rfl) (by kernel_rfl) (fun _ _ _ h => h) (by rfl) ?_ (by assumption) ?_
          rotate_left 1
          · intro w hSw
            (try dsimp only at hSw)
            go_simp
            try with_reducible rfl
          try simp only [List.setIfInBounds_toArray, List.set_cons_zero, List.set_cons_succ]
          refine wpAnyH_done (by kernel_rfl) ?_ _
          have HH := Lib.hid hHeld
          clear hHeld
          go_wp2_with fail
          go_roundw
          case rel => exact ⟨k + 1, by omega, by go_num, HG, HH.out.2⟩
          case measure => simp [intOf]; omega
    · obtain rfl : k = L.length := by omega
      have HG := Lib.hid (show pOk L = true from pOk_yes (by have := hg.out; rwa [List.take_length] at this))
      have HB := Lib.hid hb
      clear hg hb hL
      go_wp2_with fail
      go_ret
      exact ⟨ret_bool HG.out.symm, HB.out⟩
theorem psok_is {L : List Int} {x : Bool} (h : pOk L = x) (a : Option Addr) (cap n : Nat) (w : World) (hn : n = L.length) (hL : IntA w a L) (hc : L.length ≤ cap) (hl : L.length ≤ 4000000) :
    Calls Tryd.prog 71 #[.slice a n cap] w fun e w' => e = .returned (.bool x) ∧ Below w.heap.size w w' := by
  rw [← h, hn]; exact psok_any a cap L w hL hc hl
end Go.Proofs.YtnnmgbgkgnejlaaDoor

/-
  What the model's functions on paths answer: has, add, which stands ahead.
-/
namespace Go.Proofs.YtnnmgbgkgnejlaaDoor
open Go.RowKit
set_option linter.unusedSimpArgs false
set_option linter.unusedVariables false

/-- what PathAdd answers -/
def padd (L : List Int) (h : Int) : List Int × Bool := if pOk (h :: L) = true then (h :: L, true) else ([], false)
theorem padd_yes {L : List Int} {h : Int} (k : Path (h :: L)) : padd L h = (h :: L, true) := by simp [padd, pOk_yes k]
theorem padd_no {L : List Int} {h : Int} (k : ¬ Path (h :: L)) : padd L h = ([], false) := by simp [padd, pOk_no k]
def OwnA (w : World) (r : List Int × Bool) (e : Ending) (w' : World) : Prop := ∃ v, e = .returned (.tuple #[v, .bool r.2]) ∧ OwnI w' w.heap.size v r.1 ∧ Below w.heap.size w w'

theorem cmpL_step {L M : List Int} {k : Nat} {x y : Int} (hx : L[k]? = some x) (hy : M[k]? = some y) (h : x = y) : cmpL (L.drop k) (M.drop k) = cmpL (L.drop (k + 1)) (M.drop (k + 1)) := by
  obtain ⟨h1, e1⟩ := List.getElem?_eq_some_iff.1 hx
  obtain ⟨h2, e2⟩ := List.getElem?_eq_some_iff.1 hy
  rw [List.drop_eq_getElem_cons h1, List.drop_eq_getElem_cons h2, e1, e2, h]
  simp [cmpL]
theorem cmpL_here {L M : List Int} {k : Nat} {x y : Int} (hx : L[k]? = some x) (hy : M[k]? = some y) : cmpL (L.drop k) (M.drop k) = if x < y then -1 else if y < x then 1 else cmpL (L.drop (k + 1)) (M.drop (k + 1)) := by
  obtain ⟨h1, e1⟩ := List.getElem?_eq_some_iff.1 hx
  obtain ⟨h2, e2⟩ := List.getElem?_eq_some_iff.1 hy
  rw [List.drop_eq_getElem_cons h1, List.drop_eq_getElem_cons h2, e1, e2]
  simp [cmpL]

set_option maxHeartbeats 2000000 in
theorem slcmp_any (a b : Option Addr) (cap cap' : Nat) (L M : List Int) (w : World) (hL : IntA w a L) (hM : IntA w b M) (hl : L.length ≤ 4000000) (hm : M.length ≤ 4000000) :
    Calls Tryd.prog 97 #[.slice a L.length cap, .slice b M.length cap'] w fun e w' => e = .returned (.int .i64 (lcmp L M)) ∧ Below w.heap.size w w' := by
  by_cases he : L.length = M.length
  · have he' : ((L.length : Int) != (M.length : Int)) = false := by simp [he]
    have HR := Lib.hid (show lcmp L M = cmpL L M by simp [lcmp, he])
    have HE := Lib.hid he
    clear he
    go_enter Tryd.func97, Tryd.ntmps97
    go_wp2_with fail
    go_loopw [5] (fun i wr => ∃ k : Nat, k ≤ L.length ∧ i = .int .i64 k ∧ Hid (cmpL L M = cmpL (L.drop k) (M.drop k)) ∧ Below w.heap.size w wr) (fun i _ => L.length - (intOf i).toNat)
    case atStart => exact ⟨0, Nat.zero_le _, rfl, Lib.hid (by simp), Below.refl _ _⟩
    case round =>
      obtain ⟨k, hk, rfl, hn, hb⟩ := hrel
      by_cases hlt : k < L.length
      · obtain ⟨b1, off1, x, rfl, hLk, c0⟩ := (hL.below hb).at hlt
        obtain ⟨b2, off2, y, rfl, hMk, d0⟩ := (hM.below hb).at (show k < M.length by rw [← HE.out]; exact hlt)
        have i0 : (0 : Int) ≤ (k : Int) := by omega
        have i1 : (k : Int) < (L.length : Int) := by omega
        have i2 : (k : Int) < (M.length : Int) := by have := HE.out; omega
        have HC := Lib.hid (hn.out.trans (cmpL_here hLk hMk))
        have HB := Lib.hid hb
        clear hn hLk hMk hL hM hb
        by_cases h1 : x < y
        · have HZ := Lib.hid (show lcmp L M = -1 by rw [HR.out, HC.out, if_pos h1])
          clear HC
          go_wp2_with fail
          go_quiet (fail)
          go_wp2_with fail
          go_ret
          exact ⟨ret_int HZ.out.symm, below_drewN HB.out _⟩
        · by_cases h2 : y < x
          · have HZ := Lib.hid (show lcmp L M = 1 by rw [HR.out, HC.out, if_neg h1, if_pos h2])
            clear HC
            go_wp2_with fail
            go_quiet (fail)
            go_wp2_with fail
            go_quiet (fail)
            go_wp2_with fail
            go_ret
            exact ⟨ret_int HZ.out.symm, below_drewN (below_drewN HB.out _) _⟩
          · have HZ := Lib.hid (show cmpL L M = cmpL (L.drop (k + 1)) (M.drop (k + 1)) by rw [HC.out, if_neg h1, if_neg h2])
            clear HC
            go_wp2_with fail
            go_quiet (fail)
            go_wp2_with fail
            go_quiet (fail)
            go_wp2_with fail
            go_roundw
            case rel => exact ⟨k + 1, by omega, by go_num, HZ, below_drewN HB.out _⟩
            case measure => simp [intOf]; omega
      · obtain rfl : k = L.length := by omega
        have HZ := Lib.hid (show lcmp L M = 0 by
          rw [HR.out, hn.out, List.drop_length, show L.length = M.length from HE.out, List.drop_length]; rfl)
        have HB := Lib.hid hb
        clear hn hL hM hb
        go_wp2_with fail
        go_ret
        exact ⟨ret_int HZ.out.symm, HB.out⟩
  · have he' : ((L.length : Int) != (M.length : Int)) = true := by simp; omega
    by_cases h1 : L.length < M.length
    · have h1' : (L.length : Int) < (M.length : Int) := by omega
      have HR := Lib.hid (show lcmp L M = -1 by simp [lcmp, h1])
      clear he h1
      go_enter Tryd.func97, Tryd.ntmps97
      go_wp2_with fail
      go_ret
      exact ⟨ret_int HR.out.symm, Below.refl _ _⟩
    · have h1' : ¬ (L.length : Int) < (M.length : Int) := by omega
      have HR := Lib.hid (show lcmp L M = 1 by simp [lcmp, h1]; intro; omega)
      clear he h1
      go_enter Tryd.func97, Tryd.ntmps97
      go_wp2_with fail
      go_ret
      exact ⟨ret_int HR.out.symm, Below.refl _ _⟩
theorem slcmp_is {L M : List Int} {z : Int} (h : lcmp L M = z) (a b : Option Addr) (cap cap' n m : Nat) (w : World) (hn : n = L.length) (hm : m = M.length) (hL : IntA w a L) (hM : IntA w b M) (hl : L.length ≤ 4000000) (hml : M.length ≤ 4000000) :
    Calls Tryd.prog 97 #[.slice a n cap, .slice b m cap'] w fun e w' => e = .returned (.int .i64 z) ∧ Below w.heap.size w w' := by
  rw [← h, hn, hm]; exact slcmp_any a b cap cap' L M w hL hM hl hml

end Go.Proofs.YtnnmgbgkgnejlaaDoor

/-
  errors.Is, for what the program hands it: nil, or the very error that it is asked for.
-/
namespace Go.Proofs.YtnnmgbgkgnejlaaDoor
open Go.RowKit Go.Stop Go.Extern
set_option linter.unusedSimpArgs false

theorem isTypeOf (v : Value) (w : World) : (Extern.ReflectliteType.typeOf #[.iface 168 v]).run Tryd.prog w = .ok (.iface 141 (.agg #[.pointer (some ⟨4, 168, none⟩)])) w := by kernel_rfl
theorem isComparable (w : World) : ((Extern.ReflectliteType.method fun t => do Extern.Rtype.noPackHeld "Comparable" t; pure (.bool (← typeInfo t).comparable)) #[.agg #[.pointer (some ⟨4, 168, none⟩)]]).run Tryd.prog w = .ok (.bool true) w := by kernel_rfl
theorem isMethodComparable (v : Value) (w : World) : (Go.method 204 141 v "Comparable").run Tryd.prog w = .ok (143, v) w := by kernel_rfl
theorem isComp : (Tryd.prog.info? 168).map (·.comparable) = some true := by kernel_rfl
theorem isSize : (Tryd.prog.info? 192).map (·.size) = some 1 := by kernel_rfl

theorem callTypeOf (v : Value) (w : World) : (callFunc 105 #[.iface 168 v]).run Tryd.prog w = .ok (.value (.iface 141 (.agg #[.pointer (some ⟨4, 168, none⟩)]))) w := by
  rw [@run_callFunc_extern Tryd.prog 105 _ Extern.ReflectliteType.typeOf Tryd.func105 (by kernel_rfl) (by kernel_rfl) (by kernel_rfl) (by kernel_rfl), isTypeOf]
  rfl
theorem callComparable (w : World) : (callFunc 143 #[.agg #[.pointer (some ⟨4, 168, none⟩)]]).run Tryd.prog w = .ok (.value (.bool true)) w := by
  rw [@run_callFunc_extern Tryd.prog 143 _ (Extern.ReflectliteType.method fun t => do Extern.Rtype.noPackHeld "Comparable" t; pure (.bool (← typeInfo t).comparable)) Tryd.func143 (by kernel_rfl) (by kernel_rfl) (by kernel_rfl) (by kernel_rfl), isComparable]
  rfl

set_option maxHeartbeats 1000000 in
/-- errors.Is(x, x), x a pointer to an errors.errorString. -/
theorem is_same (a : Addr) (w : World) :
    Calls Tryd.prog 76 #[.iface 168 (.pointer (some a)), .iface 168 (.pointer (some a))] w fun e w' => e = .returned (.bool true) ∧ w = w' := by
  obtain ⟨i, hi, hcmp⟩ := Option.map_eq_some_iff.1 isComp
  obtain ⟨j, hj, hjs⟩ := Option.map_eq_some_iff.1 isSize
  have h8 := callTypeOf
  have h32 := callComparable
  have mR := isMethodComparable
  have heq := run_eql_iface_ptr_same (P := Tryd.prog) w a Tryd.underlying108 Tryd.underlying168 hi hcmp hj
  go_enter Tryd.func76, Tryd.ntmps76
  go_wp2
  refine wp_loop_rounds 1 ?_
  rw [rounds_succ]
  go_wp2
  go_ret
  exact ⟨rfl, rfl⟩

/-- errors.Is(nil, x). -/
theorem is_nil (b : Addr) (w : World) :
    Calls Tryd.prog 76 #[.nilIface, .iface 168 (.pointer (some b))] w fun e w' => e = .returned (.bool false) ∧ w = w' := by
  have hn := run_eql_iface_nil_left (P := Tryd.prog) w 168 (.pointer (some b)) Tryd.underlying108
  go_enter Tryd.func76, Tryd.ntmps76
  go_wp2
  go_ret
  exact ⟨rfl, rfl⟩

/-- the variable errNoPath holds its error -/
def EV (w : World) (p : Addr) : Prop := w.cell? ⟨0, 0, none⟩ = some (.iface 168 (.pointer (some p)))
theorem EV.below {w w' : World} {p : Addr} (h : EV w p) (k : Below w.heap.size w w') : EV w' p := cell_later k h
theorem EV.alloc {w : World} {p : Addr} (h : EV w p) (o : Obj) : EV (w.alloc o) p := cellA h o
abbrev errV (p : Addr) : Value := .iface 168 (.pointer (some p))
end Go.Proofs.YtnnmgbgkgnejlaaDoor

/-
  The program's paths: is a number a house; is a house on a track; a house ahead of a track.
-/
namespace Go.Proofs.YtnnmgbgkgnejlaaDoor
open Go.RowKit
set_option linter.unusedSimpArgs false
set_option linter.unusedVariables false

set_option maxHeartbeats 400000 in
theorem ihouse_is {h : Int} {x : Bool} (k : isH h = x) (w : World) :
    Calls Tryd.prog 55 #[.int .i64 h] w fun e w' => e = .returned (.bool x) ∧ w = w' := by
  by_cases h1 : 1 ≤ h
  · have hr := Lib.hid (show decide (h ≤ 5) = x by rw [← k]; simp [isH, h1])
    clear k
    go_enter Tryd.func55, Tryd.ntmps55
    go_wp2
    go_ret
    exact ⟨ret_bool hr.out, rfl⟩
  · have hr := Lib.hid (show false = x by rw [← k]; simp [isH, h1])
    clear k
    go_enter Tryd.func55, Tryd.ntmps55
    go_wp2
    go_ret
    exact ⟨ret_bool hr.out, rfl⟩

theorem pbit_is : ∀ m : Nat, m < 64 → ∀ k : Nat, k < 6 → (bits .and .u64 ((m : Int) / 2 ^ k) 1 == 1) = m.testBit k := by decide +kernel

set_option maxHeartbeats 400000 in
theorem thas_yes {m : Nat} {h : Int} (hm : m < 64) (h1 : 1 ≤ h) (h5 : h ≤ 5) (v : Value) (w : World) :
    Calls Tryd.prog 93 #[.agg #[.int .u64 m, v], .int .i64 h] w fun e w' => e = .returned (.bool (m.testBit h.toNat)) ∧ Below w.heap.size w w' := by
  have hh : isH h = true := (isH_iff h).2 ⟨h1, h5⟩
  go_enter Tryd.func93, Tryd.ntmps93
  go_wp2_with fail
  refine (ihouse_is hh _).mono ?_
  rintro e w1 ⟨rfl, rfl⟩
  go_wp2
  go_ret
  refine ⟨ret_bool ?_, (Below.refl _ _).alloc (Nat.le_refl _) _⟩
  have := pbit_is m hm h.toNat (by omega)
  exact this
set_option maxHeartbeats 400000 in
theorem thas_no {m : Nat} {h : Int} (hh : isH h = false) (v : Value) (w : World) :
    Calls Tryd.prog 93 #[.agg #[.int .u64 m, v], .int .i64 h] w fun e w' => e = .returned (.bool false) ∧ Below w.heap.size w w' := by
  go_enter Tryd.func93, Tryd.ntmps93
  go_wp2_with fail
  refine (ihouse_is hh _).mono ?_
  rintro e w1 ⟨rfl, rfl⟩
  go_wp2
  go_ret
  exact ⟨rfl, (Below.refl _ _).alloc (Nat.le_refl _) _⟩
/-- has, of a track whose bits are a path's -/
theorem thas_is {L : List Int} {h : Int} {x : Bool} (hL : Path L) (k : decide (h ∈ L) = x) (v : Value) (w : World) :
    Calls Tryd.prog 93 #[.agg #[.int .u64 (bitsH L : Int), v], .int .i64 h] w fun e w' => e = .returned (.bool x) ∧ Below w.heap.size w w' := by
  cases hh : isH h with
  | true =>
    obtain ⟨h1, h5⟩ := (isH_iff h).1 hh
    have := thas_yes (bits_lt hL.1) h1 h5 v w
    rw [bits_has hL.1 h1 h5, k] at this
    exact this
  | false =>
    have e : x = false := by rw [← k]; exact decide_eq_false fun hm => isH_no hh (hL.1 h hm)
    rw [e]; exact thas_no hh v w

/-- two values in a block -/
def AtV (w : World) (R : Nat) (x y : Value) : Prop := w.cell? ⟨R, 0, none⟩ = some x ∧ w.cell? ⟨R, 1, none⟩ = some y ∧ w.frozen? ⟨R, 0, none⟩ = false ∧ w.frozen? ⟨R, 1, none⟩ = false
theorem AtV.new (w : World) (x y : Value) (t : TypeId) : AtV (w.alloc (.cells #[x, y] t)) w.heap.size x y := ⟨by simp, by simp, by simp, by simp⟩
theorem AtV.lt {w : World} {R : Nat} {x y : Value} (h : AtV w R x y) : R < w.heap.size := World.block_lt_of_cell? w _ h.1
theorem AtV.below {w w' : World} {R : Nat} {x y : Value} (h : AtV w R x y) (k : Below w.heap.size w w') : AtV w' R x y :=
  ⟨cell_later k h.1, cell_later k h.2.1, by rw [k.frozen (p := ⟨R, 0, none⟩) h.lt]; exact h.2.2.1, by rw [k.frozen (p := ⟨R, 1, none⟩) h.lt]; exact h.2.2.2⟩
theorem AtV.alloc {w : World} {R : Nat} {x y : Value} (h : AtV w R x y) (o : Obj) : AtV (w.alloc o) R x y := h.below ((Below.refl _ _).alloc (Nat.le_refl _) o)
theorem AtV.drew {w : World} {R : Nat} {x y : Value} (h : AtV w R x y) : AtV w.drew R x y := h
theorem AtV.far {w : World} {R : Nat} {x y : Value} (h : AtV w R x y) (q : Addr) (v : Value) (hne : q.block ≠ R) : AtV (w.setCell q v) R x y :=
  ⟨by rw [World.cell?_setCell_far _ _ _ _ hne]; exact h.1, by rw [World.cell?_setCell_far _ _ _ _ hne]; exact h.2.1, by rw [World.frozen?_setCell]; exact h.2.2.1, by rw [World.frozen?_setCell]; exact h.2.2.2⟩
theorem AtV.put {w : World} {R : Nat} {x y : Value} (h : AtV w R x y) (u v : Value) : AtV ((w.setCell ⟨R, 0, none⟩ u).setCell ⟨R, 1, none⟩ v) R u v := by
  refine ⟨?_, ?_, by rw [World.frozen?_setCell, World.frozen?_setCell]; exact h.2.2.1, by rw [World.frozen?_setCell, World.frozen?_setCell]; exact h.2.2.2⟩
  · rw [World.cell?_setCell_other _ _ _ _ (by simp)]; exact World.cell?_setCell_same' _ _ _ (by rw [h.1]; rfl)
  · refine World.cell?_setCell_same' _ _ _ ?_
    rw [World.cell?_setCell_other _ _ _ _ (by simp), h.2.1]; rfl
theorem AtV.kept {A B : World} {row : Option Nat} {R : Nat} {x y : Value} (h : AtV A R x y) (hg : A.grownBy B row) (hr : ∀ r, row = some r → ∃ o : Obj, A.heap[r]? = some o ∧ o.isCells = false) : AtV B R x y :=
  ⟨cell_kept h.1 hg hr, cell_kept h.2.1 hg hr, (frozen_kept h.1 hg hr).trans h.2.2.1, (frozen_kept h.2.1 hg hr).trans h.2.2.2⟩
theorem AtV.only {A B : World} {row : Option Nat} {R : Nat} {x y : Value} (h : AtV A R x y) (hg : A.grownBy B row) (hr : some R ≠ row) : AtV B R x y :=
  ⟨hg.cell h.1 hr, hg.cell h.2.1 hr, (World.frozen?_of_block (w := A) (a := ⟨R, 0, none⟩) (hg.block R h.lt hr)).trans h.2.2.1, (World.frozen?_of_block (w := A) (a := ⟨R, 1, none⟩) (hg.block R h.lt hr)).trans h.2.2.2⟩
theorem EV.far {w : World} {p : Addr} (h : EV w p) (q : Addr) (v : Value) (hne : q.block ≠ 0) : EV (w.setCell q v) p := by
  unfold EV; rw [World.cell?_setCell_far _ _ _ _ hne]; exact h
theorem EV.lt {w : World} {p : Addr} (h : EV w p) : 0 < w.heap.size := World.block_lt_of_cell? w _ h
theorem below_put {w W : World} {n R : Nat} (h : Below n w W) (hR : n ≤ R) (x y : Value) : Below n w ((W.setCell ⟨R, 0, none⟩ x).setCell ⟨R, 1, none⟩ y) :=
  (h.setCell (p := ⟨R, 0, none⟩) hR x).setCell (p := ⟨R, 1, none⟩) hR y

/-- the answer of ahead, where there is none -/
abbrev noTrack (p : Addr) : Value := .tuple #[.agg #[.int .u64 0, .slice none 0 0], errV p]

set_option maxRecDepth 4000 in
set_option maxHeartbeats 1000000 in
theorem ahead_no1 {h : Int} (hh : isH h = false) (m : Int) (a : Option Addr) (n c : Nat) (w : World) (p : Addr) (hE : EV w p) :
    Calls Tryd.prog 77 #[.agg #[.int .u64 m, .slice a n c], .int .i64 h] w fun e w' => e = .returned (noTrack p) ∧ Below w.heap.size w w' := by
  have hEl := hE.lt
  have hA := AtV.new (w.alloc (.cells #[.int .u64 m, .slice a n c] 106)) (.int .u64 0) (.slice none 0 0) 106
  have hE2 := (hE.alloc (.cells #[.int .u64 m, .slice a n c] 106)).alloc (.cells #[.int .u64 0, .slice none 0 0] 106)
  have hB := ((Below.refl w.heap.size w).alloc (Nat.le_refl _) (.cells #[.int .u64 m, .slice a n c] 106)).alloc (by simp) (.cells #[.int .u64 0, .slice none 0 0] 106)
  simp only [World.size_alloc] at hA
  have HH := Lib.hid (And.intro hA (And.intro hE2 hB))
  clear hA hE2 hB
  go_enter Tryd.func77, Tryd.ntmps77
  go_wp2_with fail
  generalize (w.alloc (.cells #[.int .u64 m, .slice a n c] 106)).alloc (.cells #[.int .u64 0, .slice none 0 0] 106) = w0 at *
  refine (ihouse_is hh _).mono ?_
  rintro e w1 ⟨rfl, rfl⟩
  go_wp2_with fail
  have hAt := HH.out.1
  refine wp_region_held_drew (S := fun W => W.cell? ⟨0, 0, none⟩ = some (errV p) ∧ (∃ x y, AtV W (w.heap.size + 1) x y) ∧ Below w.heap.size w W) (by kernel_rfl) ?_ (fun hHeld => ?_)
  · exact ⟨HH.out.2.1, ⟨_, _, HH.out.1.drew⟩, HH.out.2.2.drew⟩
  refine takeH (i := 0) (v := ?_) rfl rfl (by kernel_rfl) (by kernel_rfl) (by kernel_rfl) (fun _ _ _ h => h) (by rfl) ?_ (by assumption) ?_
  rotate_left 1
  · intro w hSw
    (try dsimp only at hSw)
    go_simp
    try with_reducible rfl
  try simp only [List.setIfInBounds_toArray, List.set_cons_zero, List.set_cons_succ]
  refine takeH (i := 1) (v := ?_) rfl rfl (by kernel_rfl) (by kernel_rfl) (by kernel_rfl) (fun _ _ _ h => h) (by rfl) ?_ (by assumption) ?_
  rotate_left 1
  · intro w hSw
    (try dsimp only at hSw)
    go_simp
    try with_reducible rfl
  try simp only [List.setIfInBounds_toArray, List.set_cons_zero, List.set_cons_succ]
  refine wpAnyH_ready (rs := [2]) (by kernel_rfl) (by simp) ?_
  refine AllReadyH.cons rfl (fun K hK => ?_) (AllReadyH.nil)
  obtain ⟨q0, q1, q2, q3⟩ := id hAt
  go_simp
  refine hK.out _ _ ?_ (fun hNew => ?_)
  · exact ⟨(EV.far (EV.far hHeld.1 ⟨w.heap.size + 1, 0, none⟩ _ (by simp)) ⟨w.heap.size + 1, 1, none⟩ _ (by simp)), ⟨_, _, hAt.drew.put _ _⟩, below_put hHeld.2.2 (by omega) _ _⟩
  clear hK K hHeld
  have hHeld := hNew
  clear hNew
  try simp only [Act.put, List.setIfInBounds_toArray, List.set_cons_zero, List.set_cons_succ]
  refine takeH (i := 3) (v := ?_) rfl rfl (by kernel_rfl) (by kernel_rfl) (by kernel_rfl) (fun _ _ _ h => h) (by rfl) ?_ (by assumption) ?_
  rotate_left 1
  · intro w hSw
    (try dsimp only at hSw)
    go_simp
    try with_reducible rfl
  try simp only [List.setIfInBounds_toArray, List.set_cons_zero, List.set_cons_succ]
  refine wpAnyH_done (by kernel_rfl) ?_ _
  have r1 := (hAt.put (.int .u64 0) (.slice none 0 0)).drew
  have HB := Lib.hid hHeld.2.2
  clear hHeld HH hAt q0 q1 q2 q3
  generalize ((w0.setCell ⟨w.heap.size + 1, 0, none⟩ (.int .u64 0)).setCell ⟨w.heap.size + 1, 1, none⟩ (.slice none 0 0)).drew = w9 at *
  go_wp2
  obtain ⟨d0, d1, _, _⟩ := r1
  exact bodyPost_ret (v := noTrack p) (by simp [results, Tryd.results77, go_sem, d0, d1]) rfl ⟨rfl, HB.out⟩
set_option maxRecDepth 4000 in
set_option maxHeartbeats 1000000 in
theorem ahead_no2 {L : List Int} {h : Int} (hL : Path L) (hh : isH h = true) (hm : decide (h ∈ L) = true) (a : Option Addr) (n c : Nat) (w : World) (p : Addr) (hE : EV w p) :
    Calls Tryd.prog 77 #[.agg #[.int .u64 (bitsH L : Int), .slice a n c], .int .i64 h] w fun e w' => e = .returned (noTrack p) ∧ Below w.heap.size w w' := by
  have hEl := hE.lt
  have hA := AtV.new (w.alloc (.cells #[.int .u64 (bitsH L : Int), .slice a n c] 106)) (.int .u64 0) (.slice none 0 0) 106
  have hE2 := (hE.alloc (.cells #[.int .u64 (bitsH L : Int), .slice a n c] 106)).alloc (.cells #[.int .u64 0, .slice none 0 0] 106)
  have hB := ((Below.refl w.heap.size w).alloc (Nat.le_refl _) (.cells #[.int .u64 (bitsH L : Int), .slice a n c] 106)).alloc (by simp) (.cells #[.int .u64 0, .slice none 0 0] 106)
  simp only [World.size_alloc] at hA
  have hX := (AtV.new w (.int .u64 (bitsH L : Int)) (.slice a n c) 106).alloc (.cells #[.int .u64 0, .slice none 0 0] 106)
  have HH := Lib.hid (And.intro hA (And.intro hE2 hB))
  obtain ⟨x0, x1, _, _⟩ := hX
  clear hA hE2 hB
  go_enter Tryd.func77, Tryd.ntmps77
  go_wp2_with fail
  generalize (w.alloc (.cells #[.int .u64 (bitsH L : Int), .slice a n c] 106)).alloc (.cells #[.int .u64 0, .slice none 0 0] 106) = w0 at *
  refine (ihouse_is hh _).mono ?_
  rintro e w1 ⟨rfl, rfl⟩
  go_wp2_with fail
  refine (thas_is hL hm _ _).mono ?_
  rintro e w1 ⟨rfl, hb1⟩
  have HI := Lib.hid (And.intro (HH.out.1.below hb1) (And.intro (HH.out.2.1.below hb1) (next HH.out.2.2 hb1)))
  clear HH x0 x1 hb1
  go_wp2_with fail
  have hAt := HI.out.1
  refine wp_region_held_drew (S := fun W => W.cell? ⟨0, 0, none⟩ = some (errV p) ∧ (∃ x y, AtV W (w.heap.size + 1) x y) ∧ Below w.heap.size w W) (by kernel_rfl) ?_ (fun hHeld => ?_)
  · exact ⟨HI.out.2.1, ⟨_, _, HI.out.1.drew⟩, HI.out.2.2.drew⟩
  refine takeH (i := 0) (v := ?_) rfl rfl (by kernel_rfl) (by kernel_rfl) (by kernel_rfl) (fun _ _ _ h => h) (by rfl) ?_ (by assumption) ?_
  rotate_left 1
  · intro w hSw
    (try dsimp only at hSw)
    go_simp
    try with_reducible rfl
  try simp only [List.setIfInBounds_toArray, List.set_cons_zero, List.set_cons_succ]
  refine takeH (i := 1) (v := ?_) rfl rfl (by kernel_rfl) (by kernel_rfl) (by kernel_rfl) (fun _ _ _ h => h) (by rfl) ?_ (by assumption) ?_
  rotate_left 1
  · intro w hSw
    (try dsimp only at hSw)
    go_simp
    try with_reducible rfl
  try simp only [List.setIfInBounds_toArray, List.set_cons_zero, List.set_cons_succ]
  refine wpAnyH_ready (rs := [2]) (by kernel_rfl) (by simp) ?_
  refine AllReadyH.cons rfl (fun K hK => ?_) (AllReadyH.nil)
  obtain ⟨q0, q1, q2, q3⟩ := id hAt
  go_simp
  refine hK.out _ _ ?_ (fun hNew => ?_)
  · exact ⟨(EV.far (EV.far hHeld.1 ⟨w.heap.size + 1, 0, none⟩ _ (by simp)) ⟨w.heap.size + 1, 1, none⟩ _ (by simp)), ⟨_, _, hAt.drew.put _ _⟩, below_put hHeld.2.2 (by omega) _ _⟩
  clear hK K hHeld
  have hHeld := hNew
  clear hNew
  try simp only [Act.put, List.setIfInBounds_toArray, List.set_cons_zero, List.set_cons_succ]
  refine takeH (i := 3) (v := ?_) rfl rfl (by kernel_rfl) (by kernel_rfl) (by kernel_rfl) (fun _ _ _ h => h) (by rfl) ?_ (by assumption) ?_
  rotate_left 1
  · intro w hSw
    (try dsimp only at hSw)
    go_simp
    try with_reducible rfl
  try simp only [List.setIfInBounds_toArray, List.set_cons_zero, List.set_cons_succ]
  refine wpAnyH_done (by kernel_rfl) ?_ _
  have r1 := (hAt.put (.int .u64 0) (.slice none 0 0)).drew
  have HB := Lib.hid hHeld.2.2
  clear hHeld HI hAt q0 q1 q2 q3
  generalize ((w1.setCell ⟨w.heap.size + 1, 0, none⟩ (.int .u64 0)).setCell ⟨w.heap.size + 1, 1, none⟩ (.slice none 0 0)).drew = w9 at *
  go_wp2
  obtain ⟨d0, d1, _, _⟩ := r1
  exact bodyPost_ret (v := noTrack p) (by simp [results, Tryd.results77, go_sem, d0, d1]) rfl ⟨rfl, HB.out⟩

theorem or_is : ∀ m : Nat, m < 64 → ∀ k : Nat, k < 6 → bits .or .u64 (m : Int) (IntKind.u64.wrap (2 ^ k)) = ((m ||| 1 <<< k : Nat) : Int) := by decide +kernel
def OwnT (w : World) (L : List Int) (e : Ending) (w' : World) : Prop := ∃ v, e = .returned (.tuple #[.agg #[.int .u64 (bitsH L : Int), v], .nilIface]) ∧ OwnI w' w.heap.size v L ∧ Below w.heap.size w w'

set_option maxRecDepth 4000 in
set_option maxHeartbeats 1000000 in
theorem ahead_yes {L : List Int} {h : Int} (hL : Path L) (h1 : 1 ≤ h) (h5 : h ≤ 5) (hm : decide (h ∈ L) = false) (a : Option Addr) (c : Nat) (w : World) (hI : IntA w a L) (hc : L.length ≤ c) :
    Calls Tryd.prog 77 #[.agg #[.int .u64 (bitsH L : Int), .slice a L.length c], .int .i64 h] w (OwnT w (h :: L)) := by
  have hh : isH h = true := (isH_iff h).2 ⟨h1, h5⟩
  have hlen := hL.len
  have hA := AtV.new (w.alloc (.cells #[.int .u64 (bitsH L : Int), .slice a L.length c] 106)) (.int .u64 0) (.slice none 0 0) 106
  have hX := (AtV.new w (.int .u64 (bitsH L : Int)) (.slice a L.length c) 106).alloc (.cells #[.int .u64 0, .slice none 0 0] 106)
  have hB := ((Below.refl w.heap.size w).alloc (Nat.le_refl _) (.cells #[.int .u64 (bitsH L : Int), .slice a L.length c] 106)).alloc (by simp) (.cells #[.int .u64 0, .slice none 0 0] 106)
  have hI2 := (hI.alloc (.cells #[.int .u64 (bitsH L : Int), .slice a L.length c] 106)).alloc (.cells #[.int .u64 0, .slice none 0 0] 106)
  simp only [World.size_alloc] at hA
  have HH := Lib.hid (And.intro hA (And.intro hX (And.intro hB hI2)))
  obtain ⟨x0, x1, _, _⟩ := hX
  clear hA hB hI2 hI
  go_enter Tryd.func77, Tryd.ntmps77
  go_wp2_with fail
  generalize (w.alloc (.cells #[.int .u64 (bitsH L : Int), .slice a L.length c] 106)).alloc (.cells #[.int .u64 0, .slice none 0 0] 106) = w0 at *
  refine (ihouse_is hh _).mono ?_
  rintro e w1 ⟨rfl, rfl⟩
  go_wp2_with fail
  refine (thas_is hL hm _ _).mono ?_
  rintro e w1 ⟨rfl, hb1⟩
  have HI := Lib.hid (And.intro (HH.out.1.below hb1) (And.intro (HH.out.2.1.below hb1) (And.intro (next HH.out.2.2.1 hb1) (HH.out.2.2.2.below hb1))))
  clear HH x0 x1 hb1
  go_wp2_with fail
  have hs1 := HI.out.1.lt
  have hR0 : w.heap.size ≤ w1.heap.size := by omega
  refine wp_region_held_drew (S := fun W => W.cell? ⟨w.heap.size, 0, none⟩ = some (.int .u64 (bitsH L : Int)) ∧ W.cell? ⟨w.heap.size, 1, none⟩ = some (.slice a L.length c)) (by kernel_rfl) ?_ (fun hHeld => ?_)
  · exact ⟨HI.out.2.1.1, HI.out.2.1.2.1⟩
  refine takeH (i := 0) (v := ?_) rfl rfl (by kernel_rfl) (by kernel_rfl) (by kernel_rfl) (fun _ _ _ h => h) (by rfl) ?_ (by assumption) ?_
  rotate_left 1
  · intro w hSw
    (try dsimp only at hSw)
    go_simp
    try with_reducible rfl
  try simp only [List.setIfInBounds_toArray, List.set_cons_zero, List.set_cons_succ]
  refine takeH (i := 1) (v := ?_) rfl rfl (by kernel_rfl) (by kernel_rfl) (by kernel_rfl) (fun _ _ _ h => h) (by rfl) ?_ (by assumption) ?_
  rotate_left 1
  · intro w hSw
    (try dsimp only at hSw)
    go_simp
    try with_reducible rfl
  try simp only [List.setIfInBounds_toArray, List.set_cons_zero, List.set_cons_succ]
  refine takeH (i := 2) (v := ?_) rfl rfl (by kernel_rfl) (by kernel_rfl) (by kernel_rfl) (fun _ _ _ h => h) (by rfl) ?_ (by assumption) ?_
  rotate_left 1
  · intro w hSw
    (try dsimp only at hSw)
    go_simp
    try with_reducible rfl
  try simp only [List.setIfInBounds_toArray, List.set_cons_zero, List.set_cons_succ]
  refine takeH (i := 3) (v := ?_) rfl rfl (by kernel_rfl) (by kernel_rfl) (by kernel_rfl) (fun _ _ _ h => h) (by rfl) ?_ (by assumption) ?_
  rotate_left 1
  · intro w hSw
    (try dsimp only at hSw)
    go_simp
    try with_reducible rfl
  try simp only [List.setIfInBounds_toArray, List.set_cons_zero, List.set_cons_succ]
  refine takeH (i := 4) (v := ?_) rfl rfl (by kernel_rfl) (by kernel_rfl) (by kernel_rfl) (fun _ _ _ h => h) (by rfl) ?_ (by assumption) ?_
  rotate_left 1
  · intro w hSw
    (try dsimp only at hSw)
    go_simp
    try with_reducible rfl
  try simp only [List.setIfInBounds_toArray, List.set_cons_zero, List.set_cons_succ]
  refine takeH (i := 5) (v := ?_) rfl rfl (by kernel_rfl) (by kernel_rfl) (by kernel_rfl) (fun _ _ _ h => h) (by rfl) ?_ (by assumption) ?_
  rotate_left 1
  · intro w hSw
    (try dsimp only at hSw)
    go_simp
    try with_reducible rfl
  try simp only [List.setIfInBounds_toArray, List.set_cons_zero, List.set_cons_succ]
  refine takeH (i := 7) (v := ?_) rfl rfl (by kernel_rfl) (by kernel_rfl) (by kernel_rfl) (fun _ _ _ h => h) (by rfl) ?_ (by assumption) ?_
  rotate_left 1
  · intro w hSw
    (try dsimp only at hSw)
    go_simp
    try with_reducible rfl
  try simp only [List.setIfInBounds_toArray, List.set_cons_zero, List.set_cons_succ]
  refine takeH (i := 8) (v := ?_) rfl rfl (by kernel_rfl) (by kernel_rfl) (by kernel_rfl) (fun _ _ _ h => h) (by rfl) ?_ (by assumption) ?_
  rotate_left 1
  · intro w hSw
    (try dsimp only at hSw)
    go_simp
    try with_reducible rfl
  try simp only [List.setIfInBounds_toArray, List.set_cons_zero, List.set_cons_succ]
  refine wpAnyH_ready (rs := [6]) (by kernel_rfl) (by simp) ?_
  refine AllReadyH.cons rfl (fun K hK => ?_) (AllReadyH.nil)
  go_simp
  refine hK.out _ _ ?_ (fun hNew => ?_)
  · exact ⟨cellA hHeld.1 _, cellA hHeld.2 _⟩
  clear hK K hHeld
  have hHeld := hNew
  clear hNew
  try simp only [Act.put, List.setIfInBounds_toArray, List.set_cons_zero, List.set_cons_succ]
  refine wpAnyH_ready (rs := [9]) (by kernel_rfl) (by simp) ?_
  refine AllReadyH.cons rfl (fun K hK => ?_) (AllReadyH.nil)
  refine wp_appI (.tmp 22) (.tmp 24) rfl w1.heap.size _ [h] (by simp [Act.eval]) (owni_one w1.drew w1.heap.size (Nat.le_refl _) h) a c L (by simp [Act.eval]) (HI.out.2.2.2.drew.alloc _) hc (by simp; omega) (by simp) ?_
  intro v2 w2 own2 grow2
  have R2 := (HI.out.1.drew.alloc (.cells #[.int .i64 h] 3)).only grow2 (by simp [Value.ownBlock]; omega)
  have X2 := (HI.out.2.1.drew.alloc (.cells #[.int .i64 h] 3)).only grow2 (by simp [Value.ownBlock]; omega)
  have B2 := (HI.out.2.2.1.drew.alloc hR0 (.cells #[.int .i64 h] 3)).trans (appi_below (L := [h]) (owni_one w1.drew w.heap.size hR0 h) grow2 (by simp; omega))
  obtain ⟨a2, c2, rfl, hc2, hI2⟩ := OwnI.tab own2
  have O2 := Lib.hid own2
  clear own2 grow2 hI2
  refine hK.out _ _ ?_ (fun hNew => ?_)
  · exact ⟨X2.1, X2.2.1⟩
  clear hK K hHeld
  have hHeld := hNew
  clear hNew
  try simp only [Act.put, List.setIfInBounds_toArray, List.set_cons_zero, List.set_cons_succ]
  refine takeH (i := 10) (v := ?_) rfl rfl (by kernel_rfl) (by kernel_rfl) (by kernel_rfl) (fun _ _ _ h => h) (by rfl) ?_ (by assumption) ?_
  rotate_left 1
  · intro w hSw
    (try dsimp only at hSw)
    go_simp
    try with_reducible rfl
  try simp only [List.setIfInBounds_toArray, List.set_cons_zero, List.set_cons_succ]
  refine wpAnyH_ready (rs := [11]) (by kernel_rfl) (by simp) ?_
  refine AllReadyH.cons rfl (fun K hK => ?_) (AllReadyH.nil)
  obtain ⟨q0, q1, q2, q3⟩ := id R2
  go_simp
  refine hK.out _ _ ?_ (fun hNew => ?_)
  · exact ⟨by rw [World.cell?_setCell_far _ _ _ _ (by simp), World.cell?_setCell_far _ _ _ _ (by simp)]; exact X2.1, by rw [World.cell?_setCell_far _ _ _ _ (by simp), World.cell?_setCell_far _ _ _ _ (by simp)]; exact X2.2.1⟩
  clear hK K hHeld
  have hHeld := hNew
  clear hNew
  try simp only [Act.put, List.setIfInBounds_toArray, List.set_cons_zero, List.set_cons_succ]
  refine takeH (i := 12) (v := ?_) rfl rfl (by kernel_rfl) (by kernel_rfl) (by kernel_rfl) (fun _ _ _ h => h) (by rfl) ?_ (by assumption) ?_
  rotate_left 1
  · intro w hSw
    (try dsimp only at hSw)
    go_simp
    try with_reducible rfl
  try simp only [List.setIfInBounds_toArray, List.set_cons_zero, List.set_cons_succ]
  refine wpAnyH_done (by kernel_rfl) ?_ _
  have e1 : bits .or .u64 (bitsH L : Int) (IntKind.u64.wrap (2 ^ h.toNat)) = (bitsH (h :: L) : Int) := or_is _ (bits_lt hL.1) _ (by omega)
  rw [e1]
  have r1 := R2.put (.int .u64 (bitsH (h :: L) : Int)) (.slice a2 (L.length + 1) c2)
  have O3 : OwnI ((w2.setCell ⟨w.heap.size + 1, 0, none⟩ (.int .u64 (bitsH (h :: L) : Int))).setCell ⟨w.heap.size + 1, 1, none⟩ (.slice a2 (L.length + 1) c2)) w1.heap.size (.slice a2 (L.length + 1) c2) (h :: L) :=
    ownsRow_setCell_below (ownsRow_setCell_below O2.out (a := ⟨w.heap.size + 1, 0, none⟩) hs1 _) (a := ⟨w.heap.size + 1, 1, none⟩) hs1 _
  have HF := Lib.hid (And.intro (owni_mono O3 hR0) (below_put B2 (show w.heap.size ≤ w.heap.size + 1 by omega) (.int .u64 (bitsH (h :: L) : Int)) (.slice a2 (L.length + 1) c2)))
  clear hHeld O3 O2 B2 X2 R2 q0 q1 q2 q3 HI e1
  generalize (w2.setCell ⟨w.heap.size + 1, 0, none⟩ (.int .u64 (bitsH (h :: L) : Int))).setCell ⟨w.heap.size + 1, 1, none⟩ (.slice a2 (L.length + 1) c2) = w9 at *
  go_wp2
  obtain ⟨d0, d1, _, _⟩ := r1
  exact bodyPost_ret (v := .tuple #[.agg #[.int .u64 (bitsH (h :: L) : Int), .slice a2 (L.length + 1) c2], .nilIface]) (by simp [results, Tryd.results77, go_sem, d0, d1]) rfl ⟨_, rfl, HF.out.1, HF.out.2⟩
end Go.Proofs.YtnnmgbgkgnejlaaDoor

/-
  A track of houses: the iterator that goes backward, and who goes by it.
-/
namespace Go.Proofs.YtnnmgbgkgnejlaaDoor
open Go.RowKit Go.Shelf
set_option linter.unusedSimpArgs false
set_option linter.unusedVariables false
attribute [local go_sem] Oper.semAt_some

/-- what is yielded: places and houses, the last first -/
def backL (L : List Int) (k : Nat) : List (Nat × Int) := (List.range k).map fun j => (L.length - 1 - j, L[L.length - 1 - j]?.getD 0)
theorem backL_succ (L : List Int) (k : Nat) : backL L (k + 1) = backL L k ++ [(L.length - 1 - k, L[L.length - 1 - k]?.getD 0)] := by
  simp [backL, List.range_succ]
theorem backL_length (L : List Int) (k : Nat) : (backL L k).length = k := by simp [backL]
/-- the houses that have come, in order -/
def came (pre : List (Nat × Int)) : List Int := (pre.map (·.2)).reverse
theorem came_snoc (pre : List (Nat × Int)) (x : Nat × Int) : came (pre ++ [x]) = x.2 :: came pre := by simp [came]
theorem came_back (L : List Int) : ∀ k, k ≤ L.length → came (backL L k) = L.drop (L.length - k)
  | 0, _ => by simp [came, backL]
  | k + 1, h => by
    rw [backL_succ, came_snoc, came_back L k (by omega)]
    have hlt : L.length - (k + 1) < L.length := by omega
    rw [List.drop_eq_getElem_cons hlt, show L.length - (k + 1) + 1 = L.length - k by omega, show L.length - 1 - k = L.length - (k + 1) by omega, List.getElem?_eq_getElem hlt]
    rfl
def encB (x : Nat × Int) : Array Value := #[.int .i64 (x.1 : Int), .int .i64 x.2]
/-- all cells stay, but those of one block -/
def KP (T : Nat) (W W' : World) : Prop := ∀ b o v, b ≠ T → W.cell? ⟨b, o, none⟩ = some v → W'.cell? ⟨b, o, none⟩ = some v
theorem KP.refl (T : Nat) (W : World) : KP T W W := fun _ _ _ _ h => h
theorem KP.trans {T : Nat} {A B C : World} (h : KP T A B) (k : KP T B C) : KP T A C := fun b o v hb e => k b o v hb (h b o v hb e)
theorem KP.below {T : Nat} {W W' : World} (h : Below W.heap.size W W') : KP T W W' := fun _ _ _ _ e => cell_later h e
theorem KP.set {T : Nat} (W : World) (o : Nat) (v : Value) : KP T W (W.setCell ⟨T, o, none⟩ v) := fun b o' u hb e => by
  rw [World.cell?_setCell_far _ _ _ _ (fun h => hb h.symm)]; exact e
theorem KP.put {T : Nat} {w W : World} (l : Nat) (o o' : Obj) (_ : w.heap.size ≤ l) (h : W.heap[l]? = some o) (hc : o.isCells = false) (_ : o.isWalk = false) : KP T W (W.putObj l o') :=
  fun _ _ _ _ e => cell_kept e (grownBy_putObj' W l o') (fun r k => by cases k; exact ⟨o, h, hc⟩)
theorem IntA.kp {T : Nat} {W W' : World} {a : Option Addr} {L : List Int} (h : IntA W a L) (k : KP T W W') (haT : L ≠ [] → ∀ b off, a = some ⟨b, off, none⟩ → b ≠ T) : IntA W' a L := by
  by_cases hL : L = []
  · exact .inl hL
  · rcases h with h | ⟨b, off, rfl, h⟩
    · exact .inl h
    · exact .inr ⟨b, off, rfl, fun i x hi => k _ _ _ (haT hL b off rfl) (h i x hi)⟩
theorem IntA.lt {w : World} {a : Option Addr} {L : List Int} (h : IntA w a L) (hL : L ≠ []) (b off : Nat) (e : a = some ⟨b, off, none⟩) : b < w.heap.size := by
  subst e
  obtain ⟨b', off', x, e, _, c⟩ := h.at (List.length_pos_iff.2 hL)
  obtain ⟨rfl, rfl⟩ : b = b' ∧ off = off' := by simpa using e
  exact World.block_lt_of_cell? w _ c

set_option maxRecDepth 100000 in
set_option maxHeartbeats 2000000 in
theorem back1_in (n l Bs T : Nat) (a : Option Addr) (cap : Nat) (L : List Int) (hl : L.length ≤ 4000000) (J Jx : List (Nat × Int) → World → Prop)
    (hY : ∀ pre x W, J pre W → pre.length < L.length → YieldAt Fence.wide (n - 1) Tryd.prog l (encB x) W fun e W' =>
      (e = .returned (.bool true) ∧ J (pre ++ [x]) W' ∧ KP T W W') ∨ (e = .returned (.bool false) ∧ Jx (pre ++ [x]) W'))
    (W : World) (hBs : W.cell? ⟨Bs, 0, none⟩ = some (.slice a L.length cap)) (hT : Bs ≠ T) (hI : IntA W a L) (haT : L ≠ [] → ∀ b off, a = some ⟨b, off, none⟩ → b ≠ T) (h0 : J [] W) :
    CallsIn Fence.wide n Tryd.prog 110 #[.func (.yield l) #[] #[], .pointer (some ⟨Bs, 0, none⟩)] W fun e W' => (∃ v, e = .returned v) ∧
      ((∃ ys, ys = backL L L.length ∧ J ys W') ∨ (∃ pre, (∃ k, k ≤ L.length ∧ pre = backL L k) ∧ Jx pre W')) := by
  refine callsIn_of_wp Tryd.func110 rfl trivial ?_ rfl
  simp only [Tryd.ntmps110, List.size_toArray, List.length_cons, List.length_nil, Nat.reduceAdd, Nat.reduceSub, Array.replicate_succ, Array.replicate_zero, List.push_toArray, List.append_toArray, List.nil_append, List.cons_append]
  gi_wp2
  gi_loopw [3] (fun i wr => ∃ k : Nat, k ≤ L.length ∧ i = .int .i64 ((L.length : Int) - 1 - k) ∧ J (backL L k) wr ∧ KP T W wr) (fun i _ => (intOf i + 1).toNat)
  case atStart => exact ⟨0, Nat.zero_le _, by go_num, h0, KP.refl _ _⟩
  case round =>
    obtain ⟨k, hk, rfl, hJs, hkp⟩ := hrel
    by_cases hlt : k < L.length
    · obtain ⟨b, off, x, rfl, hLk, c0⟩ := (hI.kp hkp haT).at (show L.length - 1 - k < L.length by omega)
      obtain ⟨fn, tmps, assign, body, hy, hR⟩ := hY _ (L.length - 1 - k, x) wr hJs (by rw [backL_length]; exact hlt)
      have hBw := hkp _ _ _ hT hBs
      have e1 : ((L.length - 1 - k : Nat) : Int) = (L.length : Int) - 1 - k := by omega
      have HS := Lib.hid (show backL L (k + 1) = backL L k ++ [(L.length - 1 - k, x)] by rw [backL_succ, hLk]; rfl)
      simp only [encB, e1] at hy
      have i0 : (0 : Int) ≤ (L.length : Int) - 1 - k := by omega
      have i1 : (L.length : Int) - 1 - k < (L.length : Int) := by omega
      have i2 : ((L.length : Int) - 1 - k).toNat = L.length - 1 - k := by omega
      gi_wp2
      refine ⟨fun h => (by cases h), hR.mono ?_⟩
      rintro e W3 (⟨rfl, hJ3, hk3⟩ | ⟨rfl, hJx3⟩)
      · gi_wp2
        go_roundw
        case rel => exact ⟨k + 1, by omega, by go_num, by rw [HS.out]; exact hJ3, hkp.trans hk3⟩
        case measure => simp [intOf]; omega
      · gi_wp2
        refine bodyPost_ret (results_none rfl _ _ _) rfl ?_
        exact ⟨⟨_, rfl⟩, .inr ⟨_, ⟨k + 1, by omega, HS.out.symm⟩, hJx3⟩⟩
    · obtain rfl : k = L.length := by omega
      have i3 : ¬ (0 : Int) ≤ (L.length : Int) - 1 - (L.length : Int) := by omega
      gi_wp2
      go_end0
      exact ⟨⟨_, rfl⟩, .inl hJs⟩

theorem back_stops (n Bs T : Nat) (a : Option Addr) (cap : Nat) (L : List Int) (hl : L.length ≤ 4000000) (w : World) (hBs : w.cell? ⟨Bs, 0, none⟩ = some (.slice a L.length cap)) (hT : Bs ≠ T) (hI : IntA w a L) (haT : L ≠ [] → ∀ b off, a = some ⟨b, off, none⟩ → b ≠ T) :
    SeqStopsK Fence.wide n Tryd.prog 110 #[.pointer (some ⟨Bs, 0, none⟩)] encB (KP T) (fun ys => ys = backL L L.length)
      (fun pre => ∃ k, k ≤ L.length ∧ pre = backL L k) L.length w := fun l J Jx W hW hJ _ hY h0 =>
  back1_in n l Bs T a cap L hl J Jx hY W (cell_later hW hBs) hT (hI.below hW) haT h0

set_option maxHeartbeats 400000 in
theorem back_any (a : Option Addr) (n cap : Nat) (w : World) :
    Calls Tryd.prog 104 #[.slice a n cap] w fun e w' =>
      e = .returned (.func (.func 110) #[] #[.pointer (some ⟨w.heap.size, 0, none⟩)]) ∧ w.alloc (.cells #[.slice a n cap] 25) = w' := by
  go_enter Tryd.func104, Tryd.ntmps104
  go_wp2
  go_ret
  exact ⟨rfl, rfl⟩

theorem owni_keptO {A B : World} {row : Option Nat} {R : Nat} {v : Value} {L : List Int} (h : OwnI A R v L) (hg : A.grownBy B row) (hr : ∀ r, row = some r → ∃ o : Obj, A.heap[r]? = some o ∧ o.isCells = false) : OwnI B R v L := by
  refine h.kept hg ?_
  cases e : v.ownBlock with
  | none => exact .inl rfl
  | some k =>
    refine .inr fun e2 => ?_
    obtain ⟨o, ho, hc⟩ := hr k e2.symm
    rcases h.2 with ⟨rfl, _⟩ | ⟨g, cap, cur, rfl, hb, hgg, _⟩
    · simp [Value.ownBlock] at e
    · simp [Value.ownBlock] at e
      subst e
      rw [hgg] at ho
      cases ho
      cases hc

/-- one value in a block -/
def At1 (w : World) (R : Nat) (x : Value) : Prop := w.cell? ⟨R, 0, none⟩ = some x ∧ w.frozen? ⟨R, 0, none⟩ = false
theorem At1.new (w : World) (x : Value) (t : TypeId) : At1 (w.alloc (.cells #[x] t)) w.heap.size x := ⟨by simp, by simp⟩
theorem At1.lt {w : World} {R : Nat} {x : Value} (h : At1 w R x) : R < w.heap.size := World.block_lt_of_cell? w _ h.1
theorem At1.below {w w' : World} {R : Nat} {x : Value} (h : At1 w R x) (k : Below w.heap.size w w') : At1 w' R x :=
  ⟨cell_later k h.1, by rw [k.frozen (p := ⟨R, 0, none⟩) h.lt]; exact h.2⟩
theorem At1.alloc {w : World} {R : Nat} {x : Value} (h : At1 w R x) (o : Obj) : At1 (w.alloc o) R x := h.below ((Below.refl _ _).alloc (Nat.le_refl _) o)
theorem At1.far {w : World} {R : Nat} {x : Value} (h : At1 w R x) (q : Addr) (v : Value) (hne : q.block ≠ R) : At1 (w.setCell q v) R x :=
  ⟨by rw [World.cell?_setCell_far _ _ _ _ hne]; exact h.1, by rw [World.frozen?_setCell]; exact h.2⟩
theorem At1.put {w : World} {R : Nat} {x : Value} (h : At1 w R x) (u : Value) : At1 (w.setCell ⟨R, 0, none⟩ u) R u :=
  ⟨World.cell?_setCell_same' _ _ _ (by rw [h.1]; rfl), by rw [World.frozen?_setCell]; exact h.2⟩
theorem At1.kept {A B : World} {row : Option Nat} {R : Nat} {x : Value} (h : At1 A R x) (hg : A.grownBy B row) (hr : ∀ r, row = some r → ∃ o : Obj, A.heap[r]? = some o ∧ o.isCells = false) : At1 B R x :=
  ⟨cell_kept h.1 hg hr, (frozen_kept h.1 hg hr).trans h.2⟩

abbrev zT : Value := .int .u64 0
abbrev zS : Value := .slice none 0 0
theorem ko_below {W W' : World} (k : Below W.heap.size W W') : KeepsOthers W W' :=
  KeepsOthers.of_grownBy (row := none) ⟨k.os, k.tape, k.output, k.size, fun i hi _ => k.block i hi⟩ (fun j o e _ => by cases e)
theorem owni_set {W : World} {R : Nat} {v : Value} {L : List Int} (h : OwnI W R v L) {q : Addr} (hq : q.block < R) (u : Value) : OwnI (W.setCell q u) R v L := ownsRow_setCell_below h hq u

/-- between two rounds -/
def TI (w : World) (p : Addr) (pre : List (Nat × Int)) (W : World) : Prop :=
  (Path (came pre) ∧ AtV W w.heap.size zT zS ∧ At1 W (w.heap.size + 1) .nilIface ∧ (∃ v, AtV W (w.heap.size + 1 + 1) (.int .u64 (bitsH (came pre) : Int)) v ∧ OwnI W (w.heap.size + 3) v (came pre)) ∧ EV W p) ∧ Below w.heap.size w W
/-- a round has returned -/
def TX (w : World) (p : Addr) (c : Code) (pre : List (Nat × Int)) (W : World) : Prop :=
  (c = .ret ∧ ¬ Path (came pre) ∧ AtV W w.heap.size zT zS ∧ At1 W (w.heap.size + 1) (errV p)) ∧ Below w.heap.size w W
/-- what trackOf answers -/
def Trk (w : World) (p : Addr) (L : List Int) (e : Ending) (w' : World) : Prop := (Path L ∧ OwnT w L e w') ∨ (¬ Path L ∧ e = .returned (noTrack p) ∧ Below w.heap.size w w')

set_option maxRecDepth 100000 in
set_option maxHeartbeats 2000000 in
theorem track_in (a : Option Addr) (cap : Nat) (L : List Int) (w : World) (p : Addr) (hl : L.length ≤ 4000000) (hI : IntA w a L) (hE : EV w p) :
    CallsIn Fence.wide 10 Tryd.prog 75 #[.slice a L.length cap] w (Trk w p L) := by
  refine callsIn_of_wp_marks Tryd.func75 rfl trivial ?_ rfl
  simp only [Tryd.ntmps75, List.size_toArray, List.length_cons, List.length_nil, Nat.reduceAdd, Nat.reduceSub, Array.replicate_succ, Array.replicate_zero, List.push_toArray, List.append_toArray, List.nil_append, List.cons_append]
  gi_wp2_with fail
  refine ⟨trivial, (callsIn_wide.2 (back_any a L.length cap _)).mono ?_⟩
  rintro e w1 ⟨rfl, rfl⟩
  gi_wp2_with fail
  have hB0 : Below w.heap.size w ((((w.alloc (.cells #[zT, zS] 106)).alloc (.cells #[.nilIface] 108)).alloc (.cells #[zT, zS] 106)).alloc (.cells #[.slice a L.length cap] 25)) :=
    ((((Below.refl _ w).alloc (Nat.le_refl _) _).alloc (by simp) _).alloc (by simp; omega) _).alloc (by simp; omega) _
  have rR := (((AtV.new w zT zS 106).alloc (.cells #[.nilIface] 108)).alloc (.cells #[zT, zS] 106)).alloc (.cells #[.slice a L.length cap] 25)
  have rN := ((At1.new (w.alloc (.cells #[zT, zS] 106)) .nilIface 108).alloc (.cells #[zT, zS] 106)).alloc (.cells #[.slice a L.length cap] 25)
  have rT := (AtV.new ((w.alloc (.cells #[zT, zS] 106)).alloc (.cells #[.nilIface] 108)) zT zS 106).alloc (.cells #[.slice a L.length cap] 25)
  have rS := At1.new (((w.alloc (.cells #[zT, zS] 106)).alloc (.cells #[.nilIface] 108)).alloc (.cells #[zT, zS] 106)) (.slice a L.length cap) 25
  have hE0 := (((hE.alloc (.cells #[zT, zS] 106)).alloc (.cells #[.nilIface] 108)).alloc (.cells #[zT, zS] 106)).alloc (.cells #[.slice a L.length cap] 25)
  have hI0 := (((hI.alloc (.cells #[zT, zS] 106)).alloc (.cells #[.nilIface] 108)).alloc (.cells #[zT, zS] 106)).alloc (.cells #[.slice a L.length cap] 25)
  have hsz : ((((w.alloc (.cells #[zT, zS] 106)).alloc (.cells #[.nilIface] 108)).alloc (.cells #[zT, zS] 106)).alloc (.cells #[.slice a L.length cap] 25)).heap.size = w.heap.size + 4 := by simp
  have hEl := hE.lt
  simp only [World.size_alloc] at rN rT rS
  generalize ((((w.alloc (.cells #[zT, zS] 106)).alloc (.cells #[.nilIface] 108)).alloc (.cells #[zT, zS] 106)).alloc (.cells #[.slice a L.length cap] 25)) = W0 at *
  refine wpIn_rangeFunc_ownG rfl (by omega) (gf := 110) (lb := #[.pointer (some ⟨w.heap.size + 1 + 1 + 1, 0, none⟩)]) rfl trivial (enters_of Tryd.func110 (by kernel_rfl) rfl)
    (back_stops _ (w.heap.size + 1 + 1 + 1) (w.heap.size + 1 + 1) a cap L hl W0 rS.1 (by omega) hI0 (fun hne b off e => by have := hI.lt hne b off e; omega)) KP.trans (fun W l o o' h1 h2 h3 h4 => KP.put l o o' h1 h2 h3 h4) (Below.refl _ _) (fun _ => rfl)
    (TI w p) (TX w p)
    (OwnFrom.and (Own.from (fun s A B row hs hg hr => ⟨hs.1, hs.2.1.kept hg hr, hs.2.2.1.kept hg hr, by obtain ⟨v, h1, h2⟩ := hs.2.2.2.1; exact ⟨v, h1.kept hg hr, owni_keptO h2 hg hr⟩, cell_kept hs.2.2.2.2 hg hr⟩) _) (ownFrom_below (Nat.le_refl _) (by omega)))
    (fun c => OwnFrom.and (Own.from (fun s A B row hs hg hr => ⟨hs.1, hs.2.1, hs.2.2.1.kept hg hr, hs.2.2.2.kept hg hr⟩) _) (ownFrom_below (Nat.le_refl _) (by omega)))
    ⟨⟨Path.nil, rR, rN, ⟨zS, rT, owni_nil _ _⟩, hE0⟩, hB0⟩
    (fun x => { tmps := #[.slice a L.length cap, undef, .pointer (some ⟨w.heap.size, 0, none⟩), .pointer (some ⟨w.heap.size + 1, 0, none⟩), .pointer (some ⟨w.heap.size + 1 + 1, 0, none⟩), undef, .int .i64 x.2, undef, undef, .slice a L.length cap, .func (.func 110) #[] #[.pointer (some ⟨w.heap.size + 1 + 1 + 1, 0, none⟩)], .int .i64 (x.1 : Int), .int .i64 x.2, undef, undef, undef, undef, undef, undef, undef, undef, undef, undef, undef, undef], defers := [] })
    ?assign ?body ?done ?stop
  case assign =>
    intro l x W K hK
    simp only [encB]
    gi_wp2
    exact hK
  case body =>
    rintro l pre x W ⟨⟨hp, hR, hN, ⟨v, hT, hO⟩, hEv⟩, hB⟩ _
    obtain ⟨a2, c2, rfl, hc2, hI2⟩ := OwnI.tab hO
    obtain ⟨x1, x2⟩ := x
    have hlt : w.heap.size + 1 + 1 < W.heap.size := hT.lt
    obtain ⟨t0, t1, _, _⟩ := id hT
    have HA := Lib.hid (And.intro hR (And.intro hN (And.intro hT (And.intro hO (And.intro hEv hB)))))
    generalize hM : came pre = M at *
    have HM := Lib.hid hM
    clear hM hR hN hT hO hEv hB
    by_cases hx : Path (x2 :: M)
    · obtain ⟨⟨h1, h5⟩, hm, _⟩ := path_cons.1 hx
      have HX := Lib.hid hx
      clear hx
      gi_wp2_with fail
      refine ⟨trivial, CallsIn.inRound l ((callsIn_wide.2 (ahead_yes hp h1 h5 (decide_eq_false hm) a2 c2 _ hI2 hc2)).mono ?_)⟩
      rintro e W1 ⟨v1, rfl, hO1, hb1⟩
      obtain ⟨a3, c3, rfl, hc3, hI3⟩ := OwnI.tab hO1
      have hR1 := (HA.out.1.below hb1).alloc (.cells #[.int .u64 (bitsH (x2 :: M) : Int), .slice a3 (M.length + 1) c3] 106)
      have hN1 := (HA.out.2.1.below hb1).alloc (.cells #[.int .u64 (bitsH (x2 :: M) : Int), .slice a3 (M.length + 1) c3] 106)
      have hT1 := (HA.out.2.2.1.below hb1).alloc (.cells #[.int .u64 (bitsH (x2 :: M) : Int), .slice a3 (M.length + 1) c3] 106)
      have hO2 := hO1.alloc (.cells #[.int .u64 (bitsH (x2 :: M) : Int), .slice a3 (M.length + 1) c3] 106)
      have hE1 := (HA.out.2.2.2.2.1.below hb1).alloc (.cells #[.int .u64 (bitsH (x2 :: M) : Int), .slice a3 (M.length + 1) c3] 106)
      have hB1 := (next HA.out.2.2.2.2.2 hb1).alloc (next HA.out.2.2.2.2.2 hb1).size (.cells #[.int .u64 (bitsH (x2 :: M) : Int), .slice a3 (M.length + 1) c3] 106)
      have hK1 := hb1.alloc hb1.size (.cells #[.int .u64 (bitsH (x2 :: M) : Int), .slice a3 (M.length + 1) c3] 106)
      have hL1 := AtV.new W1 (.int .u64 (bitsH (x2 :: M) : Int)) (.slice a3 (M.length + 1) c3) 106
      have hs1 := hb1.size
      clear hb1 hO1 hI3 t0 t1 hI2
      have HZ := Lib.hid (And.intro hR1 (And.intro hN1 (And.intro hO2 (And.intro hE1 (And.intro hB1 (And.intro hK1 hT1))))))
      obtain ⟨l0, l1, _, _⟩ := hL1
      obtain ⟨t0, t1, t2, t3⟩ := hT1
      clear hR1 hN1 hO2 hE1 hB1 hK1
      gi_wp2
      obtain ⟨zR, zN, zO, zE, zB, zK, zTt⟩ := HZ.out
      exact ⟨(((ko_below zK).trans (KeepsOthers.setCell _ _ _)).trans (KeepsOthers.setCell _ _ _)).from _,
        ((KP.below zK).trans (KP.set _ 0 _)).trans (KP.set _ 1 _),
        ⟨by rw [came_snoc, HM.out]; exact HX.out, (zR.far ⟨w.heap.size + 1 + 1, 0, none⟩ _ (by simp; omega)).far ⟨w.heap.size + 1 + 1, 1, none⟩ _ (by simp; omega),
          (zN.far ⟨w.heap.size + 1 + 1, 0, none⟩ _ (by simp)).far ⟨w.heap.size + 1 + 1, 1, none⟩ _ (by simp),
          ⟨_, by rw [came_snoc, HM.out]; exact zTt.put _ _, by rw [came_snoc, HM.out]; exact owni_mono (owni_set (owni_set zO (q := ⟨w.heap.size + 1 + 1, 0, none⟩) hlt _) (q := ⟨w.heap.size + 1 + 1, 1, none⟩) hlt _) (by omega)⟩,
          (zE.far ⟨w.heap.size + 1 + 1, 0, none⟩ _ (by simp)).far ⟨w.heap.size + 1 + 1, 1, none⟩ _ (by simp)⟩,
        below_put zB (by omega) _ _⟩
    · have HX := Lib.hid hx
      cases hh : isH x2 with
      | false =>
        clear hx
        gi_wp2_with fail
        refine ⟨trivial, CallsIn.inRound l ((callsIn_wide.2 (ahead_no1 hh _ a2 _ c2 _ p HA.out.2.2.2.2.1)).mono ?_)⟩
        rintro e W1 ⟨rfl, hb1⟩
        have hR1 := (HA.out.1.below hb1).alloc (.cells #[zT, zS] 106)
        have hN1 := (HA.out.2.1.below hb1).alloc (.cells #[zT, zS] 106)
        have hB1 := (next HA.out.2.2.2.2.2 hb1).alloc (next HA.out.2.2.2.2.2 hb1).size (.cells #[zT, zS] 106)
        have hK1 := hb1.alloc hb1.size (.cells #[zT, zS] 106)
        clear hb1 t0 t1 hI2
        have HZ := Lib.hid (And.intro hR1 (And.intro hN1 (And.intro hB1 hK1)))
        obtain ⟨t0, t1, t2, t3⟩ := hR1
        obtain ⟨n0, n1⟩ := hN1
        clear hB1 hK1
        gi_wp2
        exact ⟨((((ko_below HZ.out.2.2.2).trans (KeepsOthers.setCell _ _ _)).trans (KeepsOthers.setCell _ _ _)).trans (KeepsOthers.setCell _ _ _)).from _,
          ⟨rfl, by rw [came_snoc, HM.out]; exact HX.out, (HZ.out.1.put zT zS).far ⟨w.heap.size + 1, 0, none⟩ _ (by simp),
            ((HZ.out.2.1.far ⟨w.heap.size, 0, none⟩ _ (by simp)).far ⟨w.heap.size, 1, none⟩ _ (by simp)).put _⟩,
          (below_put HZ.out.2.2.1 (Nat.le_refl _) _ _).setCell (p := ⟨w.heap.size + 1, 0, none⟩) (by show w.heap.size ≤ w.heap.size + 1; omega) _⟩
      | true =>
        have hm : decide (x2 ∈ M) = true := by
          rw [decide_eq_true_eq]
          by_cases k : x2 ∈ M
          · exact k
          · exact (hx (path_cons.2 ⟨(isH_iff _).1 hh, k, hp⟩)).elim
        clear hx
        gi_wp2_with fail
        refine ⟨trivial, CallsIn.inRound l ((callsIn_wide.2 (ahead_no2 hp hh hm a2 _ c2 _ p HA.out.2.2.2.2.1)).mono ?_)⟩
        rintro e W1 ⟨rfl, hb1⟩
        have hR1 := (HA.out.1.below hb1).alloc (.cells #[zT, zS] 106)
        have hN1 := (HA.out.2.1.below hb1).alloc (.cells #[zT, zS] 106)
        have hB1 := (next HA.out.2.2.2.2.2 hb1).alloc (next HA.out.2.2.2.2.2 hb1).size (.cells #[zT, zS] 106)
        have hK1 := hb1.alloc hb1.size (.cells #[zT, zS] 106)
        clear hb1 t0 t1 hI2
        have HZ := Lib.hid (And.intro hR1 (And.intro hN1 (And.intro hB1 hK1)))
        obtain ⟨t0, t1, t2, t3⟩ := hR1
        obtain ⟨n0, n1⟩ := hN1
        clear hB1 hK1
        gi_wp2
        exact ⟨((((ko_below HZ.out.2.2.2).trans (KeepsOthers.setCell _ _ _)).trans (KeepsOthers.setCell _ _ _)).trans (KeepsOthers.setCell _ _ _)).from _,
          ⟨rfl, by rw [came_snoc, HM.out]; exact HX.out, (HZ.out.1.put zT zS).far ⟨w.heap.size + 1, 0, none⟩ _ (by simp),
            ((HZ.out.2.1.far ⟨w.heap.size, 0, none⟩ _ (by simp)).far ⟨w.heap.size, 1, none⟩ _ (by simp)).put _⟩,
          (below_put HZ.out.2.2.1 (Nat.le_refl _) _ _).setCell (p := ⟨w.heap.size + 1, 0, none⟩) (by show w.heap.size ≤ w.heap.size + 1; omega) _⟩
  case done =>
    rintro D ys W hD rfl ⟨⟨hp, hR, hN, ⟨v, hT, hO⟩, hEv⟩, hB⟩ hK
    have hcame : came (backL L L.length) = L := by rw [came_back L _ (Nat.le_refl _)]; simp
    rw [hcame] at hp hT hO
    obtain ⟨a2, c2, rfl, hc2, hI2⟩ := OwnI.tab hO
    have HP := Lib.hid hp
    clear hcame hp
    obtain ⟨t0, t1, _, _⟩ := id hT
    obtain ⟨r0, r1, r2, r3⟩ := id hR
    obtain ⟨n0, n1⟩ := id hN
    gi_wp2
    have q2 := (hR.put (.int .u64 (bitsH L : Int)) (.slice a2 L.length c2)).far ⟨w.heap.size + 1, 0, none⟩ .nilIface (by simp)
    have q3 := ((hN.far ⟨w.heap.size, 0, none⟩ (.int .u64 (bitsH L : Int)) (by simp)).far ⟨w.heap.size, 1, none⟩ (.slice a2 L.length c2) (by simp)).put .nilIface
    have q4 := (below_put hB (Nat.le_refl _) (.int .u64 (bitsH L : Int)) (.slice a2 L.length c2)).setCell (p := ⟨w.heap.size + 1, 0, none⟩) (show w.heap.size ≤ w.heap.size + 1 by omega) .nilIface
    have q5 := owni_mono (owni_set (owni_set (owni_set hO (q := ⟨w.heap.size, 0, none⟩) (by show w.heap.size < w.heap.size + 3; omega) (.int .u64 (bitsH L : Int))) (q := ⟨w.heap.size, 1, none⟩) (by show w.heap.size < w.heap.size + 3; omega) (.slice a2 L.length c2)) (q := ⟨w.heap.size + 1, 0, none⟩) (by show w.heap.size + 1 < w.heap.size + 3; omega) .nilIface) (show w.heap.size ≤ w.heap.size + 3 by omega)
    have hK' := (((KeepsOthers.setCell W ⟨w.heap.size, 0, none⟩ (.int .u64 (bitsH L : Int))).trans (KeepsOthers.setCell _ ⟨w.heap.size, 1, none⟩ (.slice a2 L.length c2))).trans (KeepsOthers.setCell _ ⟨w.heap.size + 1, 0, none⟩ .nilIface)).same D _ hK rfl
    generalize ((W.setCell ⟨w.heap.size, 0, none⟩ (.int .u64 (bitsH L : Int))).setCell ⟨w.heap.size, 1, none⟩ (.slice a2 L.length c2)).setCell ⟨w.heap.size + 1, 0, none⟩ .nilIface = V at *
    refine ⟨by simp, .inl ⟨_, _, rfl, run_takeDeferred hK', ?_⟩⟩
    obtain ⟨e0, e1, _, _⟩ := q2.kept (grownBy_putObj' V D (.deferred none)) (fun r e => by cases e; exact ⟨_, hK', rfl⟩)
    obtain ⟨e2, _⟩ := q3.kept (grownBy_putObj' V D (.deferred none)) (fun r e => by cases e; exact ⟨_, hK', rfl⟩)
    have e5 := owni_keptO q5 (grownBy_putObj' V D (.deferred none)) (fun r e => by cases e; exact ⟨_, hK', rfl⟩)
    refine ⟨.tuple #[.agg #[.int .u64 (bitsH L : Int), .slice a2 L.length c2], .nilIface], ?_, .inl ⟨HP.out, _, rfl, e5, q4.trans (belowK_b (w := w) (Nat.le_refl _) _ D _ _ (by omega) hK' rfl rfl)⟩⟩
    simp [results, Tryd.f75, go_sem, e0, e1, e2]
  case stop =>
    rintro D c pre W hD ⟨k, hk, rfl⟩ ⟨⟨rfl, hnp, hR, hN⟩, hB⟩ hK
    rw [came_back L k hk] at hnp
    gi_wp2
    refine ⟨by simp, .inl ⟨_, _, rfl, run_takeDeferred hK, ?_⟩⟩
    obtain ⟨e0, e1, _, _⟩ := hR.kept (grownBy_putObj' W D (.deferred none)) (fun r e => by cases e; exact ⟨_, hK, rfl⟩)
    obtain ⟨e2, _⟩ := hN.kept (grownBy_putObj' W D (.deferred none)) (fun r e => by cases e; exact ⟨_, hK, rfl⟩)
    refine ⟨noTrack p, ?_, .inr ⟨fun h => hnp (h.drop _), rfl, hB.trans (belowK_b (w := w) (Nat.le_refl _) _ D _ _ (by omega) hK rfl rfl)⟩⟩
    simp [results, Tryd.f75, go_sem, e0, e1, e2]

theorem track_yes {L : List Int} (hp : Path L) (a : Option Addr) (cap : Nat) (w : World) (p : Addr) (hI : IntA w a L) (hE : EV w p) : Calls Tryd.prog 75 #[.slice a L.length cap] w (OwnT w L) := by
  have h5 := hp.len
  refine (callsIn_wide.1 (track_in a cap L w p (by omega) hI hE)).mono ?_
  rintro e w' (⟨_, h⟩ | ⟨h, _⟩)
  · exact h
  · exact (h hp).elim
theorem track_no {L : List Int} (hp : ¬ Path L) (a : Option Addr) (cap : Nat) (w : World) (p : Addr) (hl : L.length ≤ 4000000) (hI : IntA w a L) (hE : EV w p) :
    Calls Tryd.prog 75 #[.slice a L.length cap] w fun e w' => e = .returned (noTrack p) ∧ Below w.heap.size w w' := by
  refine (callsIn_wide.1 (track_in a cap L w p hl hI hE)).mono ?_
  rintro e w' (⟨h, _⟩ | ⟨_, h⟩)
  · exact (hp h).elim
  · exact h
end Go.Proofs.YtnnmgbgkgnejlaaDoor

/-
  What the program's functions on paths answer: ok, has, add, which stands ahead.
-/
namespace Go.Proofs.YtnnmgbgkgnejlaaDoor
open Go.RowKit
set_option linter.unusedSimpArgs false
set_option linter.unusedVariables false

set_option maxHeartbeats 400000 in
theorem piok_is {L : List Int} {x : Bool} (k : pOk L = x) (a : Option Addr) (cap n : Nat) (w : World) (p : Addr) (hn : n = L.length) (hl : L.length ≤ 4000000) (hI : IntA w a L) (hE : EV w p) :
    Calls Tryd.prog 91 #[.slice a n cap] w fun e w' => e = .returned (.bool x) ∧ Below w.heap.size w w' := by
  subst hn
  by_cases hp : Path L
  · have hx : x = true := by rw [← k]; exact pOk_yes hp
    subst hx
    clear k
    go_enter Tryd.func91, Tryd.ntmps91
    go_wp2_with fail
    refine (track_yes hp a cap _ p hI hE).mono ?_
    rintro e w1 ⟨v, rfl, hO, hb1⟩
    have hE1 := (hE.below hb1).alloc (.cells #[.int .u64 (bitsH L : Int), v] 106)
    have HB := Lib.hid (hb1.alloc hb1.size (.cells #[.int .u64 (bitsH L : Int), v] 106))
    obtain ⟨a2, c2, rfl, _, _⟩ := OwnI.tab hO
    unfold EV at hE1
    clear hO hb1 hE hI
    go_wp2_with fail
    refine (is_nil p _).mono ?_
    rintro e w2 ⟨rfl, rfl⟩
    go_wp2_with fail
    go_ret
    exact ⟨rfl, HB.out⟩
  · have hx : x = false := by rw [← k]; exact pOk_no hp
    subst hx
    clear k
    go_enter Tryd.func91, Tryd.ntmps91
    go_wp2_with fail
    refine (track_no hp a cap _ p hl hI hE).mono ?_
    rintro e w1 ⟨rfl, hb1⟩
    have hE1 := (hE.below hb1).alloc (.cells #[zT, zS] 106)
    have HB := Lib.hid (hb1.alloc hb1.size (.cells #[zT, zS] 106))
    unfold EV at hE1
    clear hb1 hE hI
    go_wp2_with fail
    refine (is_same p _).mono ?_
    rintro e w2 ⟨rfl, rfl⟩
    go_wp2_with fail
    go_ret
    exact ⟨rfl, HB.out⟩

set_option maxHeartbeats 400000 in
theorem pihas_is {L : List Int} {h : Int} {x : Bool} (k : pHas L h = x) (a : Option Addr) (cap n : Nat) (w : World) (p : Addr) (hn : n = L.length) (hl : L.length ≤ 4000000) (hI : IntA w a L) (hE : EV w p) :
    Calls Tryd.prog 56 #[.slice a n cap, .int .i64 h] w fun e w' => e = .returned (.bool x) ∧ Below w.heap.size w w' := by
  subst hn
  by_cases hp : Path L
  · have hx : decide (h ∈ L) = x := by rw [← k, pHas_yes hp]
    clear k
    go_enter Tryd.func56, Tryd.ntmps56
    go_wp2_with fail
    refine (track_yes hp a cap _ p hI hE).mono ?_
    rintro e w1 ⟨v, rfl, hO, hb1⟩
    have hE1 := (hE.below hb1).alloc (.cells #[.int .u64 (bitsH L : Int), v] 106)
    have HB := Lib.hid (hb1.alloc hb1.size (.cells #[.int .u64 (bitsH L : Int), v] 106))
    obtain ⟨a2, c2, rfl, _, _⟩ := OwnI.tab hO
    unfold EV at hE1
    clear hO hb1 hE hI
    go_wp2_with fail
    refine (is_nil p _).mono ?_
    rintro e w2 ⟨rfl, rfl⟩
    go_wp2_with fail
    refine (thas_is hp hx _ _).mono ?_
    rintro e w3 ⟨rfl, hb3⟩
    go_wp2_with fail
    go_ret
    exact ⟨rfl, next HB.out hb3⟩
  · have hx : x = false := by rw [← k, pHas, pOk_no hp]; rfl
    subst hx
    clear k
    go_enter Tryd.func56, Tryd.ntmps56
    go_wp2_with fail
    refine (track_no hp a cap _ p hl hI hE).mono ?_
    rintro e w1 ⟨rfl, hb1⟩
    have hE1 := (hE.below hb1).alloc (.cells #[zT, zS] 106)
    have HB := Lib.hid (hb1.alloc hb1.size (.cells #[zT, zS] 106))
    unfold EV at hE1
    clear hb1 hE hI
    go_wp2_with fail
    refine (is_same p _).mono ?_
    rintro e w2 ⟨rfl, rfl⟩
    go_wp2_with fail
    go_ret
    exact ⟨rfl, HB.out⟩

set_option maxHeartbeats 1000000 in
theorem iadd_yes {L : List Int} {h : Int} (hx : Path (h :: L)) (a : Option Addr) (cap : Nat) (w : World) (p : Addr) (hI : IntA w a L) (hE : EV w p) :
    Calls Tryd.prog 35 #[.slice a L.length cap, .int .i64 h] w (OwnA w (h :: L, true)) := by
  obtain ⟨⟨h1, h5⟩, hm, hp⟩ := path_cons.1 hx
  go_enter Tryd.func35, Tryd.ntmps35
  go_wp2_with fail
  refine (track_yes hp a cap _ p hI hE).mono ?_
  rintro e w1 ⟨v, rfl, hO, hb1⟩
  obtain ⟨a2, c2, rfl, hc2, hI2⟩ := OwnI.tab hO
  have hE1 := (hE.below hb1).alloc (.cells #[.int .u64 (bitsH L : Int), .slice a2 L.length c2] 106)
  have HB := Lib.hid (hb1.alloc hb1.size (.cells #[.int .u64 (bitsH L : Int), .slice a2 L.length c2] 106))
  have HI2 := Lib.hid (And.intro (hI2.alloc (.cells #[.int .u64 (bitsH L : Int), .slice a2 L.length c2] 106)) (EV.alloc (hE.below hb1) (.cells #[.int .u64 (bitsH L : Int), .slice a2 L.length c2] 106)))
  unfold EV at hE1
  clear hO hb1 hE hI hI2
  go_wp2_with fail
  refine (is_nil p _).mono ?_
  rintro e w2 ⟨rfl, rfl⟩
  go_wp2_with fail
  refine (ahead_yes hp h1 h5 (decide_eq_false hm) a2 c2 _ HI2.out.1 hc2).mono ?_
  rintro e w3 ⟨v3, rfl, hO3, hb3⟩
  obtain ⟨a3, c3, rfl, hc3, hI3⟩ := OwnI.tab hO3
  have HF := Lib.hid (And.intro ((owni_mono hO3 HB.out.size).alloc (.cells #[.int .u64 (bitsH (h :: L) : Int), .slice a3 (L.length + 1) c3] 106)) ((next HB.out hb3).alloc (next HB.out hb3).size (.cells #[.int .u64 (bitsH (h :: L) : Int), .slice a3 (L.length + 1) c3] 106)))
  have hE3 := (HI2.out.2.below hb3).alloc (.cells #[.int .u64 (bitsH (h :: L) : Int), .slice a3 (L.length + 1) c3] 106)
  unfold EV at hE3
  clear hE1 hO3 hb3 hI3
  go_wp2_with fail
  refine (is_nil p _).mono ?_
  rintro e w2 ⟨rfl, rfl⟩
  go_wp2_with fail
  go_ret2
  exact ⟨_, rfl, HF.out.1, HF.out.2⟩

set_option maxHeartbeats 1000000 in
theorem iadd_no1 {L : List Int} {h : Int} (hp : ¬ Path L) (a : Option Addr) (cap : Nat) (w : World) (p : Addr) (hl : L.length ≤ 4000000) (hI : IntA w a L) (hE : EV w p) :
    Calls Tryd.prog 35 #[.slice a L.length cap, .int .i64 h] w (OwnA w ([], false)) := by
  go_enter Tryd.func35, Tryd.ntmps35
  go_wp2_with fail
  refine (track_no hp a cap _ p hl hI hE).mono ?_
  rintro e w1 ⟨rfl, hb1⟩
  have hE1 := (hE.below hb1).alloc (.cells #[zT, zS] 106)
  have HB := Lib.hid (hb1.alloc hb1.size (.cells #[zT, zS] 106))
  unfold EV at hE1
  clear hb1 hE hI
  go_wp2_with fail
  refine (is_same p _).mono ?_
  rintro e w2 ⟨rfl, rfl⟩
  go_wp2_with fail
  go_ret2
  exact ⟨_, rfl, owni_nil _ _, HB.out⟩

set_option maxHeartbeats 1000000 in
theorem iadd_no2 {L : List Int} {h : Int} (hp : Path L) (hx : ¬ Path (h :: L)) (a : Option Addr) (cap : Nat) (w : World) (p : Addr) (hI : IntA w a L) (hE : EV w p) :
    Calls Tryd.prog 35 #[.slice a L.length cap, .int .i64 h] w (OwnA w ([], false)) := by
  have hA : ∀ (a2 : Option Addr) (c2 : Nat) (W : World), EV W p → Calls Tryd.prog 77 #[.agg #[.int .u64 (bitsH L : Int), .slice a2 L.length c2], .int .i64 h] W fun e w' => e = .returned (noTrack p) ∧ Below W.heap.size W w' := fun a2 c2 W hW => by
    cases hh : isH h with
    | false => exact ahead_no1 hh _ a2 _ c2 W p hW
    | true =>
      refine ahead_no2 hp hh ?_ a2 _ c2 W p hW
      rw [decide_eq_true_eq]
      by_cases k : h ∈ L
      · exact k
      · exact (hx (path_cons.2 ⟨(isH_iff _).1 hh, k, hp⟩)).elim
  have HA := Lib.hid hA
  clear hA
  go_enter Tryd.func35, Tryd.ntmps35
  go_wp2_with fail
  refine (track_yes hp a cap _ p hI hE).mono ?_
  rintro e w1 ⟨v, rfl, hO, hb1⟩
  obtain ⟨a2, c2, rfl, hc2, hI2⟩ := OwnI.tab hO
  have hE1 := (hE.below hb1).alloc (.cells #[.int .u64 (bitsH L : Int), .slice a2 L.length c2] 106)
  have HB := Lib.hid (hb1.alloc hb1.size (.cells #[.int .u64 (bitsH L : Int), .slice a2 L.length c2] 106))
  have HI2 := Lib.hid (EV.alloc (hE.below hb1) (.cells #[.int .u64 (bitsH L : Int), .slice a2 L.length c2] 106))
  unfold EV at hE1
  clear hO hb1 hE hI hI2
  go_wp2_with fail
  refine (is_nil p _).mono ?_
  rintro e w2 ⟨rfl, rfl⟩
  go_wp2_with fail
  refine (HA.out a2 c2 _ HI2.out).mono ?_
  rintro e w3 ⟨rfl, hb3⟩
  have HF := Lib.hid ((next HB.out hb3).alloc (next HB.out hb3).size (.cells #[zT, zS] 106))
  have hE3 := (HI2.out.below hb3).alloc (.cells #[zT, zS] 106)
  unfold EV at hE3
  clear hE1 hb3
  go_wp2_with fail
  refine (is_same p _).mono ?_
  rintro e w2 ⟨rfl, rfl⟩
  go_wp2_with fail
  go_ret2
  exact ⟨_, rfl, owni_nil _ _, HF.out⟩
theorem iadd_is {L : List Int} {h : Int} {r : List Int × Bool} (k : padd L h = r) (a : Option Addr) (cap n : Nat) (w : World) (p : Addr) (hn : n = L.length) (hl : L.length ≤ 4000000) (hI : IntA w a L) (hE : EV w p) :
    Calls Tryd.prog 35 #[.slice a n cap, .int .i64 h] w (OwnA w r) := by
  subst hn
  subst k
  by_cases hp : Path L
  · by_cases hx : Path (h :: L)
    · rw [padd_yes hx]; exact iadd_yes hx a cap w p hI hE
    · rw [padd_no hx]; exact iadd_no2 hp hx a cap w p hI hE
  · rw [padd_no (fun hx => hp (path_cons.1 hx).2.2)]; exact iadd_no1 hp a cap w p hl hI hE

/-! order -/
def sgn (x y : Int) : Int := if x < y then -1 else if y < x then 1 else 0
end Go.Proofs.YtnnmgbgkgnejlaaDoor

/-
  What the helpers of the laws do with slices of ints: copies, comparisons, marks.
-/
namespace Go.Proofs.YtnnmgbgkgnejlaaDoor
open Go.RowKit
set_option linter.unusedSimpArgs false
set_option linter.unusedVariables false

def pOwn1 (w : World) (L : List Int) (e : Ending) (w' : World) : Prop := ∃ v, e = .returned v ∧ OwnI w' w.heap.size v L ∧ Below w.heap.size w w'
theorem madeI (n : Nat) : (madeCells #[Value.int .i64 0] (n * 1)).toList = cellsI (List.replicate n 0) := by
  refine (List.eq_replicate_iff.2 ⟨by simp [size_madeCells], fun x hx => ?_⟩ : _ = List.replicate n (Value.int .i64 0)).trans (by simp [cellsI])
  simp only [madeCells, Array.toList_map, List.mem_map] at hx
  obtain ⟨i, _, rfl⟩ := hx
  show (#[Value.int .i64 0] : Array Value)[i % 1]! = _
  rw [show i % 1 = 0 by omega]; rfl
theorem owni_put {w : World} {R g cap : Nat} {L : List Int} {k : Nat} (h : OwnI w R (.slice (some ⟨g, 0, none⟩) L.length cap) L) (x : Int) :
    OwnI (w.setCell ⟨g, k, none⟩ (.int .i64 x)) R (.slice (some ⟨g, 0, none⟩) L.length cap) (L.set k x) ∧ w.grownBy (w.setCell ⟨g, k, none⟩ (.int .i64 x)) (some g) := by
  have h1 := World.ownsRow.stored h k (.int .i64 x)
  refine ⟨?_, h1.2⟩
  have := h1.1
  rw [OwnI, List.length_set, cellsI, List.map_set]
  exact this
theorem owni_cell {w : World} {R g cap : Nat} {L : List Int} {k : Nat} (h : OwnI w R (.slice (some ⟨g, 0, none⟩) L.length cap) L) (hk : k < L.length) : w.cell? ⟨g, k, none⟩ = some (.int .i64 L[k]) :=
  (h.cellAt k (by omega)).trans (cellsI_at (List.getElem?_eq_getElem hk))

set_option maxRecDepth 100000 in
set_option maxHeartbeats 2000000 in
theorem toI_any (a : Option Addr) (cap : Nat) (L : List Int) (w : World) (hL : IntA w a L) (hl : L.length ≤ 1048576) :
    Calls Tryd.prog 80 #[.slice a L.length cap] w (pOwn1 w L) := by
  have HT := Lib.hid hL
  obtain ⟨i0, hi, hz0, hz1, hz2⟩ := info_parts infoI
  clear hL
  go_enter Tryd.func80, Tryd.ntmps80
  go_wp2_with (first | (refine wpList_make_full _ rfl (.tmp 6) (.tmp 6) 25 rfl w.heap.size 3 i0 (.int .i64 0) 1 Tryd.underlying25 hi hz0 hz1 .i64 .i64 _ _ L.length rfl rfl rfl rfl (by rw [hz2]; omega) (by unfold maxLen; omega) (Nat.le_refl _) ?_; intro w1 own1 grow1))
  have own1' := own1
  rw [show (Value.int .i64 0).cells = #[.int .i64 0] from rfl, madeI] at own1'
  have I0 : Hid (OwnI w1 w.heap.size (.slice (some ⟨w.heap.size, 0, none⟩) (List.replicate L.length (0 : Int)).length L.length) (List.replicate L.length 0) ∧ Below w.heap.size w w1) :=
    Lib.hid ⟨by rw [OwnI, List.length_replicate]; exact own1', (Below.refl _ _).grown grow1 (Nat.le_refl _) (fun _ h => by cases h)⟩
  clear own1 own1' grow1
  go_loopw [4] (fun i wr => ∃ (k : Nat) (M : List Int), k ≤ L.length ∧ i = .int .i64 k ∧ Hid (M.length = L.length) ∧ (∀ j, j < k → M[j]? = L[j]?) ∧ OwnI wr w.heap.size (.slice (some ⟨w.heap.size, 0, none⟩) M.length L.length) M ∧ Below w.heap.size w wr) (fun i _ => L.length - (intOf i).toNat)
  case atStart => exact ⟨0, _, Nat.zero_le _, rfl, Lib.hid (by simp), fun _ h => by omega, I0.out.1, I0.out.2⟩
  case round =>
    obtain ⟨k, M, hk, rfl, hM, hj, ho, hb⟩ := hrel
    clear I0
    by_cases hlt : k < L.length
    · obtain ⟨bb, off, x, rfl, hLk, c0⟩ := (HT.out.below hb).at hlt
      have hkM : k < M.length := by rw [hM.out]; exact hlt
      have HP := Lib.hid (owni_put (k := k) ho x)
      have d0 := owni_cell ho hkM
      have f0 := World.ownsRow.frozenAt ho k
      have HB := Lib.hid hb
      have HJ := Lib.hid hj
      have HK := Lib.hid hLk
      have j0 : (0 : Int) ≤ (k : Int) := by omega
      have j1 : (k : Int) < (L.length : Int) := by omega
      generalize M[k] = m at *
      clear ho hb hj hLk
      go_wp2_with fail
      go_roundw
      case rel =>
        refine ⟨k + 1, M.set k x, by omega, by go_num, Lib.hid (by rw [List.length_set]; exact hM.out), fun j hj => ?_, by rw [List.length_set]; exact HP.out.1, HB.out.grown HP.out.2 HB.out.size (fun _ e => by cases e; exact Nat.le_refl _)⟩
        by_cases e : j = k
        · subst e; rw [List.getElem?_set_self hkM]; exact HK.out.symm
        · rw [List.getElem?_set_ne (fun h => e h.symm)]; exact HJ.out j (by omega)
      case measure => simp [intOf]; omega
    · obtain rfl : k = L.length := by omega
      have hLT : M = L := List.ext_getElem? fun j => by
        by_cases h : j < L.length
        · exact hj j h
        · rw [List.getElem?_eq_none (by rw [hM.out]; omega), List.getElem?_eq_none (by omega)]
      have R := Lib.hid (And.intro ho hb)
      clear ho hb hj
      rw [hLT] at R
      clear hLT
      go_wp2_with fail
      go_ret
      exact ⟨_, rfl, R.out.1, R.out.2⟩

set_option maxRecDepth 100000 in
set_option maxHeartbeats 2000000 in
theorem eqI_any (a b : Option Addr) (cap cap' : Nat) (L M : List Int) (w : World) (hL : IntA w a L) (hM : IntA w b M) (hl : L.length ≤ 4000000) (hml : M.length ≤ 4000000) :
    Calls Tryd.prog 82 #[.slice a L.length cap, .slice b M.length cap'] w fun e w' => e = .returned (.bool (decide (L = M))) ∧ Below w.heap.size w w' := by
  by_cases he : L.length = M.length
  · have he' : ((L.length : Int) != (M.length : Int)) = false := by simp [he]
    have HE := Lib.hid he
    clear he
    go_enter Tryd.func82, Tryd.ntmps82
    go_wp2_with fail
    go_loopw [5] (fun i wr => ∃ k : Nat, k ≤ L.length ∧ i = .int .i64 k ∧ Hid (L.take k = M.take k) ∧ Below w.heap.size w wr) (fun i _ => L.length - (intOf i).toNat)
    case atStart => exact ⟨0, Nat.zero_le _, rfl, Lib.hid (by simp), Below.refl _ _⟩
    case round =>
      obtain ⟨k, hk, rfl, hn, hb⟩ := hrel
      by_cases hlt : k < L.length
      · obtain ⟨b1, off1, x, rfl, hLk, c0⟩ := (hL.below hb).at hlt
        obtain ⟨b2, off2, y, rfl, hMk, d0⟩ := (hM.below hb).at (show k < M.length by rw [← HE.out]; exact hlt)
        have i0 : (0 : Int) ≤ (k : Int) := by omega
        have i1 : (k : Int) < (L.length : Int) := by omega
        have i2 : (k : Int) < (M.length : Int) := by have := HE.out; omega
        have HB := Lib.hid hb
        by_cases hx : x = y
        · have hx' : (x != y) = false := by simp [hx]
          have HC : Hid (L.take (k + 1) = M.take (k + 1)) := Lib.hid (by rw [List.take_add_one, List.take_add_one, hLk, hMk, hn.out, hx])
          clear hn hLk hMk hL hM hb hx
          go_wp2_with fail
          go_quiet (fail)
          go_wp2_with fail
          go_roundw
          case rel => exact ⟨k + 1, by omega, by go_num, HC, below_drewN HB.out _⟩
          case measure => simp [intOf]; omega
        · have hx' : (x != y) = true := by simp [hx]
          have HC : Hid (decide (L = M) = false) := Lib.hid (decide_eq_false fun e => by rw [e, hMk] at hLk; exact hx (by simpa using hLk.symm))
          clear hn hLk hMk hL hM hb hx
          go_wp2_with fail
          go_quiet (fail)
          go_wp2_with fail
          go_ret
          exact ⟨ret_bool HC.out.symm, below_drewN HB.out _⟩
      · obtain rfl : k = L.length := by omega
        have HZ := Lib.hid (show decide (L = M) = true by
          have := hn.out
          rw [List.take_length, show L.length = M.length from HE.out, List.take_length] at this
          exact decide_eq_true this)
        have HB := Lib.hid hb
        clear hn hL hM hb
        go_wp2_with fail
        go_ret
        exact ⟨ret_bool HZ.out.symm, HB.out⟩
  · have he' : ((L.length : Int) != (M.length : Int)) = true := by simp; omega
    have HR := Lib.hid (show decide (L = M) = false from decide_eq_false fun e => he (by rw [e]))
    clear he
    go_enter Tryd.func82, Tryd.ntmps82
    go_wp2_with fail
    go_ret
    exact ⟨ret_bool HR.out.symm, Below.refl _ _⟩
theorem eqI_is {L M : List Int} {x : Bool} (h : decide (L = M) = x) (a b : Option Addr) (cap cap' n m : Nat) (w : World) (hn : n = L.length) (hm : m = M.length) (hL : IntA w a L) (hM : IntA w b M) (hl : L.length ≤ 4000000) (hml : M.length ≤ 4000000) :
    Calls Tryd.prog 82 #[.slice a n cap, .slice b m cap'] w fun e w' => e = .returned (.bool x) ∧ Below w.heap.size w w' := by
  rw [← h, hn, hm]; exact eqI_any a b cap cap' L M w hL hM hl hml

set_option maxRecDepth 100000 in
set_option maxHeartbeats 2000000 in
theorem lyI_any (a b : Option Addr) (cap cap' : Nat) (L M : List Int) (w : World) (hL : IntA w a L) (hM : IntA w b M) (hl : L.length ≤ 4000000) (hml : M.length ≤ 4000000) :
    Calls Tryd.prog 20 #[.slice a L.length cap, .slice b M.length cap'] w fun e w' => e = .returned (.bool (decide (L = M))) ∧ Below w.heap.size w w' := by
  by_cases he : L.length = M.length
  · have he' : ((L.length : Int) != (M.length : Int)) = false := by simp [he]
    have HE := Lib.hid he
    clear he
    go_enter Tryd.func20, Tryd.ntmps20
    go_wp2_with fail
    go_loopw [5] (fun i wr => ∃ k : Nat, k ≤ L.length ∧ i = .int .i64 k ∧ Hid (L.take k = M.take k) ∧ Below w.heap.size w wr) (fun i _ => L.length - (intOf i).toNat)
    case atStart => exact ⟨0, Nat.zero_le _, rfl, Lib.hid (by simp), Below.refl _ _⟩
    case round =>
      obtain ⟨k, hk, rfl, hn, hb⟩ := hrel
      by_cases hlt : k < L.length
      · obtain ⟨b1, off1, x, rfl, hLk, c0⟩ := (hL.below hb).at hlt
        obtain ⟨b2, off2, y, rfl, hMk, d0⟩ := (hM.below hb).at (show k < M.length by rw [← HE.out]; exact hlt)
        have i0 : (0 : Int) ≤ (k : Int) := by omega
        have i1 : (k : Int) < (L.length : Int) := by omega
        have i2 : (k : Int) < (M.length : Int) := by have := HE.out; omega
        have HB := Lib.hid hb
        by_cases hx : x = y
        · have hx' : (x != y) = false := by simp [hx]
          have HC : Hid (L.take (k + 1) = M.take (k + 1)) := Lib.hid (by rw [List.take_add_one, List.take_add_one, hLk, hMk, hn.out, hx])
          clear hn hLk hMk hL hM hb hx
          go_wp2_with fail
          go_quiet (fail)
          go_wp2_with fail
          go_roundw
          case rel => exact ⟨k + 1, by omega, by go_num, HC, below_drewN HB.out _⟩
          case measure => simp [intOf]; omega
        · have hx' : (x != y) = true := by simp [hx]
          have HC : Hid (decide (L = M) = false) := Lib.hid (decide_eq_false fun e => by rw [e, hMk] at hLk; exact hx (by simpa using hLk.symm))
          clear hn hLk hMk hL hM hb hx
          go_wp2_with fail
          go_quiet (fail)
          go_wp2_with fail
          go_ret
          exact ⟨ret_bool HC.out.symm, below_drewN HB.out _⟩
      · obtain rfl : k = L.length := by omega
        have HZ := Lib.hid (show decide (L = M) = true by
          have := hn.out
          rw [List.take_length, show L.length = M.length from HE.out, List.take_length] at this
          exact decide_eq_true this)
        have HB := Lib.hid hb
        clear hn hL hM hb
        go_wp2_with fail
        go_ret
        exact ⟨ret_bool HZ.out.symm, HB.out⟩
  · have he' : ((L.length : Int) != (M.length : Int)) = true := by simp; omega
    have HR := Lib.hid (show decide (L = M) = false from decide_eq_false fun e => he (by rw [e]))
    clear he
    go_enter Tryd.func20, Tryd.ntmps20
    go_wp2_with fail
    go_ret
    exact ⟨ret_bool HR.out.symm, Below.refl _ _⟩
theorem lyI_is {L M : List Int} {x : Bool} (h : decide (L = M) = x) (a b : Option Addr) (cap cap' n m : Nat) (w : World) (hn : n = L.length) (hm : m = M.length) (hL : IntA w a L) (hM : IntA w b M) (hl : L.length ≤ 4000000) (hml : M.length ≤ 4000000) :
    Calls Tryd.prog 20 #[.slice a n cap, .slice b m cap'] w fun e w' => e = .returned (.bool x) ∧ Below w.heap.size w w' := by
  rw [← h, hn, hm]; exact lyI_any a b cap cap' L M w hL hM hl hml
/-- marks -/
def pmarkL (n : Nat) : List Int := (List.range n).map fun (i : Nat) => (i : Int) + 1
theorem pmarkL_len (n : Nat) : (pmarkL n).length = n := by simp [pmarkL]
theorem pmarkL_at {n k : Nat} (h : k < n) : (pmarkL n)[k]? = some ((k : Int) + 1) := by simp [pmarkL, h]
theorem pmarkL_all {n : Nat} {M : List Int} (hM : M.length = n) (h : ∀ j, j < n → M[j]? = (pmarkL n)[j]?) : M = pmarkL n := List.ext_getElem? fun j => by
  by_cases e : j < n
  · exact h j e
  · rw [List.getElem?_eq_none (by omega), List.getElem?_eq_none (by rw [pmarkL_len]; omega)]

set_option maxRecDepth 100000 in
set_option maxHeartbeats 2000000 in
theorem pmark_own (g cap : Nat) (L : List Int) (R : Nat) (w : World) (ho : OwnI w R (.slice (some ⟨g, 0, none⟩) L.length cap) L) (hl : L.length ≤ 2000000) :
    Calls Tryd.prog 83 #[.slice (some ⟨g, 0, none⟩) L.length cap, .int .i64 1] w fun e w' => e = .returned (.int .i64 ((L.length : Int) + 1)) ∧ OwnI w' R (.slice (some ⟨g, 0, none⟩) L.length cap) (pmarkL L.length) ∧ w.grownBy w' (some g) := by
  have HO := Lib.hid ho
  clear ho
  go_enter Tryd.func83, Tryd.ntmps83
  go_wp2_with fail
  go_loopw [1, 5] (fun q i wr => ∃ (k : Nat) (M : List Int), k ≤ L.length ∧ i = .int .i64 k ∧ q = .int .i64 ((k : Int) + 1) ∧ Hid (M.length = L.length) ∧ (∀ j, j < k → M[j]? = (pmarkL L.length)[j]?) ∧ OwnI wr R (.slice (some ⟨g, 0, none⟩) M.length cap) M ∧ w.grownBy wr (some g)) (fun _ i _ => L.length - (intOf i).toNat)
  case atStart => exact ⟨0, L, Nat.zero_le _, rfl, rfl, Lib.hid rfl, fun _ h => by omega, HO.out, World.grownBy.refl _ _⟩
  case round =>
    obtain ⟨k, M, hk, rfl, rfl, hM, hj, ho, hg⟩ := hrel
    clear HO
    by_cases hlt : k < L.length
    · have hkM : k < M.length := by rw [hM.out]; exact hlt
      have HP := Lib.hid (owni_put (k := k) ho ((k : Int) + 1))
      have d0 := owni_cell ho hkM
      have f0 := World.ownsRow.frozenAt ho k
      have HJ := Lib.hid hj
      have HG := Lib.hid hg
      have HM := Lib.hid (pmarkL_at hlt)
      have j0 : (0 : Int) ≤ (k : Int) := by omega
      have j1 : (k : Int) < (L.length : Int) := by omega
      generalize M[k] = m at *
      clear ho hj hg
      go_wp2_with fail
      go_roundw
      case rel =>
        refine ⟨k + 1, M.set k ((k : Int) + 1), by omega, by go_num, by go_num, Lib.hid (by rw [List.length_set]; exact hM.out), fun j hj => ?_, by rw [List.length_set]; exact HP.out.1, only_on HG.out HP.out.2⟩
        by_cases e : j = k
        · subst e; rw [List.getElem?_set_self hkM]; exact HM.out.symm
        · rw [List.getElem?_set_ne (fun h => e h.symm)]; exact HJ.out j (by omega)
      case measure => simp [intOf]; omega
    · obtain rfl : k = L.length := by omega
      have hML := pmarkL_all hM.out hj
      have R := Lib.hid (And.intro ho hg)
      rw [hML, pmarkL_len] at R
      clear ho hg hj hML
      go_wp2_with fail
      go_ret
      exact ⟨rfl, R.out.1, R.out.2⟩

set_option maxRecDepth 100000 in
set_option maxHeartbeats 2000000 in
theorem pheld_any (a : Option Addr) (cap n : Nat) (w : World) (hT : IntA w a (pmarkL n)) (hl : n ≤ 2000000) :
    Calls Tryd.prog 84 #[.slice a n cap, .int .i64 1] w fun e w' => e = .returned (.int .i64 ((n : Int) + 1)) ∧ w = w' := by
  have HT := Lib.hid hT
  clear hT
  go_enter Tryd.func84, Tryd.ntmps84
  go_wp2_with fail
  go_loopw [1, 5] (fun q i wr => ∃ (k : Nat), k ≤ n ∧ i = .int .i64 k ∧ q = .int .i64 ((k : Int) + 1) ∧ wr = w) (fun _ i _ => n - (intOf i).toNat)
  case atStart => exact ⟨0, Nat.zero_le _, rfl, rfl, rfl⟩
  case round =>
    obtain ⟨k, hk, rfl, rfl, rfl⟩ := hrel
    by_cases hlt : k < n
    · obtain ⟨b, off, x, rfl, hTk, c0⟩ := HT.out.at (show k < (pmarkL n).length by rw [pmarkL_len]; exact hlt)
      rw [pmarkL_at hlt] at hTk
      obtain rfl : (k : Int) + 1 = x := by simpa using hTk
      have j0 : (0 : Int) ≤ (k : Int) := by omega
      have j1 : (k : Int) < (n : Int) := by omega
      clear hTk
      go_wp2_with fail
      go_roundw
      case rel => exact ⟨k + 1, by omega, by go_num, by go_num, by first | rfl | trivial⟩
      case measure => simp [intOf]; omega
    · obtain rfl : k = n := by omega
      go_wp2_with fail
      go_ret
      exact ⟨rfl, rfl⟩

/-- marks into an own slice, nil or not -/
theorem pmark_any (v : Value) (L : List Int) (R : Nat) (w : World) (ho : OwnI w R v L) (hl : L.length ≤ 2000000) :
    Calls Tryd.prog 83 #[v, .int .i64 1] w fun e w' => e = .returned (.int .i64 ((L.length : Int) + 1)) ∧ OwnI w' R v (pmarkL L.length) ∧ w.grownBy w' v.ownBlock := by
  obtain ⟨_, h2⟩ := id ho
  rcases h2 with ⟨rfl, h0⟩ | ⟨g, cap, cur, rfl, _⟩
  · have hL : L = [] := List.eq_nil_of_length_eq_zero h0
    subst hL
    have HO := Lib.hid (show OwnI w R (.slice none 0 0) (pmarkL 0) from ho)
    clear ho
    go_enter Tryd.func83, Tryd.ntmps83
    go_wp2_with fail
    refine wp_loop_rounds 1 ?_
    rw [rounds_succ]
    go_wp2_with fail
    go_ret
    exact ⟨by rfl, HO.out, World.grownBy.refl _ _⟩
  · exact pmark_own g cap L R w ho hl

set_option maxHeartbeats 1000000 in
theorem lyIn_any (a : Option Addr) (cap : Nat) (L : List Int) (n : Int) (w : World) (hL : IntA w a L) (hl : L.length ≤ 4000000) :
    Calls Tryd.prog 32 #[.slice a L.length cap, .int .i64 n] w fun e w' => e = .returned (.bool (decide (n ∈ L))) ∧ w = w' := by
  go_enter Tryd.func32, Tryd.ntmps32
  go_wp2_with fail
  go_loopw [5] (fun i wr => ∃ k : Nat, k ≤ L.length ∧ i = .int .i64 k ∧ Hid (n ∉ L.take k) ∧ w = wr) (fun i _ => L.length - (intOf i).toNat)
  case atStart => exact ⟨0, Nat.zero_le _, rfl, Lib.hid (by simp), rfl⟩
  case round =>
    obtain ⟨k, hk, rfl, hn, rfl⟩ := hrel
    by_cases hlt : k < L.length
    · obtain ⟨b, off, x, rfl, hLk, c0⟩ := hL.at hlt
      have i0 : (0 : Int) ≤ (k : Int) := by omega
      have i1 : (k : Int) < (L.length : Int) := by omega
      by_cases hx : x = n
      · subst hx
        have HR := Lib.hid (show decide (x ∈ L) = true from decide_eq_true (List.mem_of_getElem? hLk))
        clear hLk hL hn
        go_wp2_with fail
        go_ret
        exact ⟨ret_bool HR.out.symm, rfl⟩
      · have hx' : (x == n) = false := by simp [hx]
        have HR : Hid (n ∉ L.take (k + 1)) := Lib.hid (by
          rw [List.take_add_one, hLk]
          intro h
          rcases List.mem_append.1 h with h | h
          · exact hn.out h
          · simp at h; exact hx h.symm)
        clear hLk hL hn
        go_wp2_with fail
        go_roundw
        case rel => exact ⟨k + 1, by omega, by go_num, HR, trivial⟩
        case measure => simp [intOf]; omega
    · obtain rfl : k = L.length := by omega
      have HR := Lib.hid (show decide (n ∈ L) = false by have := hn.out; rw [List.take_length] at this; simpa using this)
      clear hL hn
      go_wp2_with fail
      go_ret
      exact ⟨ret_bool HR.out.symm, rfl⟩
theorem lyIn_is {L : List Int} {n : Int} {x : Bool} (h : decide (n ∈ L) = x) (a : Option Addr) (cap m : Nat) (w : World) (hm : m = L.length) (hL : IntA w a L) (hl : L.length ≤ 4000000) :
    Calls Tryd.prog 32 #[.slice a m cap, .int .i64 n] w fun e w' => e = .returned (.bool x) ∧ w = w' := by
  rw [← h, hm]; exact lyIn_any a cap L n w hL hl
/-- the block of an own slice lies between two numbers -/
def pBtw (v : Value) (A B : Nat) : Prop := ∀ k, v.ownBlock = some k → A ≤ k ∧ k < B
theorem OwnI.btw {w : World} {R : Nat} {v : Value} {L : List Int} (h : OwnI w R v L) : pBtw v R w.heap.size := fun k hk => h.lt k hk
theorem pBtw.apart {v u : Value} {A B C D : Nat} (hv : pBtw v A B) (hu : pBtw u C D) (h : B ≤ C ∨ D ≤ A) : v.ownBlock = none ∨ v.ownBlock ≠ u.ownBlock := by
  cases e : v.ownBlock with
  | none => exact .inl rfl
  | some k =>
    refine .inr fun e' => ?_
    have h1 := hv k e
    have h2 := hu k e'.symm
    omega
end Go.Proofs.YtnnmgbgkgnejlaaDoor

/-
  The exact laws of PathOk, PathHas, PathAdd, PathCmp: the walks.
-/
namespace Go.Proofs.YtnnmgbgkgnejlaaDoor
open Go.RowKit
set_option linter.unusedSimpArgs false
set_option linter.unusedVariables false

theorem padd_len (L : List Int) (h : Int) : (padd L h).1.length ≤ 5 := by
  by_cases k : Path (h :: L)
  · rw [padd_yes k]; exact k.len
  · rw [padd_no k]; simp

end Go.Proofs.YtnnmgbgkgnejlaaDoor

/-
  Drawn paths: some ints, not many, in memory of their own; whatever the bytes.
-/
namespace Go.Proofs.YtnnmgbgkgnejlaaDoor
open Go.RowKit
set_option linter.unusedSimpArgs false
set_option linter.unusedVariables false

def Pathed (w : World) (B p : Nat) (e : Ending) (w' : World) : Prop :=
  ∃ (v : Value) (L : List Int) (p' : Nat), e = .returned v ∧ L.length ≤ 5 ∧ OwnI w' w.heap.size v L ∧ Rd w' B p' ∧ p' ≤ p + 20 ∧ w.grownBy w' (some B)
theorem owni_pick {w w' : World} {R B : Nat} {v : Value} {L : List Int} (ho : OwnI w R v L) (hg : w.grownBy w' (some B)) (hB : B < R) : OwnI w' R v L :=
  ho.kept hg (by
    cases e : v.ownBlock with
    | none => exact .inl rfl
    | some k => exact .inr (fun h => by have := (ho.lt k e).1; simp at h; omega))
theorem OwnI.lt' {w : World} {R : Nat} {v : Value} {L : List Int} (h : OwnI w R v L) : ∀ k, v.ownBlock = some k → R ≤ k := fun k hk => (h.lt k hk).1
/-- a reader is kept where an own row is written -/
theorem prd_own {w w' : World} {B p R : Nat} {v : Value} (h : Rd w B p) (hg : w.grownBy w' v.ownBlock) (hv : ∀ k, v.ownBlock = some k → R ≤ k) (hB : B < R) : Rd w' B p := by
  have hBw := rd_lt h
  have ne : ∀ b, b ≤ B → some b ≠ v.ownBlock := fun b hb e => by have := hv b e.symm; omega
  obtain ⟨a, len, cap, z, c0, c1, hf, hp, hl, hz⟩ := h
  refine ⟨a, len, cap, z, hg.cell c0 (ne B (Nat.le_refl _)), hg.cell c1 (ne B (Nat.le_refl _)), (World.frozen?_of_block (w := w) (a := ⟨B, 1, none⟩) (hg.block B hBw (ne B (Nat.le_refl _)))).trans hf, hp, hl, ?_⟩
  rcases hz with h | ⟨b, off, rfl, hb', hc, hbd⟩
  · exact .inl h
  · exact .inr ⟨b, off, rfl, hb', fun i hi => hg.cell (hc i hi) (ne b (by omega)), hbd⟩
/-- seen from before, only new memory was written -/
theorem ponly_own {a w w' : World} {row : Option Nat} {v : Value} (h : a.grownBy w row) (hg : w.grownBy w' v.ownBlock) (hv : ∀ k, v.ownBlock = some k → a.heap.size ≤ k) : a.grownBy w' row :=
  ⟨hg.os.trans h.os, hg.tape.trans h.tape, hg.output.trans h.output, Nat.le_trans h.size hg.size, fun i hi hne =>
    (hg.block i (Nat.lt_of_lt_of_le hi h.size) (fun e => by have := hv i e.symm; omega)).trans (h.block i hi hne)⟩

/-- while a path is drawn -/
def PthI (w : World) (B q : Nat) (L : List Int) (v : Value) (W : World) : Prop := OwnI W w.heap.size v L ∧ (∃ q', Rd W B q' ∧ q' ≤ q) ∧ w.grownBy W (some B)
theorem PthI.more {w : World} {B q q2 : Nat} {L : List Int} {v : Value} {W : World} (h : PthI w B q L v W) (hq : q ≤ q2) : PthI w B q2 L v W := by
  obtain ⟨a, ⟨q', b, c⟩, d⟩ := h
  exact ⟨a, ⟨q', b, by omega⟩, d⟩
theorem pnews1 (W : World) (x : Int) : IntA (W.alloc (.cells #[.int .i64 x] 3)) (some ⟨W.heap.size, 0, none⟩) [x] := (OwnI.intA (owni_one W W.heap.size (Nat.le_refl _) x)).2.2

set_option maxRecDepth 100000 in
set_option maxHeartbeats 4000000 in
theorem path_any (w : World) (B p : Nat) (hp : p < 990000) (hr : Rd w B p) :
    Calls Tryd.prog 88 #[.pointer (some ⟨B, 0, none⟩)] w (Pathed w B p) := by
  have hBw := rd_lt hr
  have HO0 := Lib.hid (owni_empty w w.heap.size (Nat.le_refl _))
  have HR0 := Lib.hid (rd_alloc hr (.cells #[] 3))
  have HG0 := Lib.hid (only_alloc (World.grownBy.refl w (some B)) (.cells #[] 3))
  clear hr
  go_enter Tryd.func88, Tryd.ntmps88
  go_wp2_with fail
  refine (pick_any 5 _ B p (by omega) (by omega) HR0.out).mono ?_
  rintro e w1 ⟨x, x0, x1, rfl, hr1, hg1⟩
  have I1 : Hid (PthI w B (p + 1) [] (.slice (some ⟨w.heap.size, 0, none⟩) 0 0) w1) := Lib.hid ⟨owni_pick HO0.out hg1 hBw, ⟨p + 1, hr1, Nat.le_refl _⟩, only_on HG0.out hg1⟩
  obtain ⟨m, rfl⟩ := Int.eq_ofNat_of_zero_le x0
  clear hr1 hg1 HO0 HR0 HG0
  go_wp2_with fail
  go_loopw [3, 4] (fun v n wr => ∃ (k : Nat) (L : List Int), k ≤ 4 ∧ n = .int .i64 k ∧ L.length + k ≤ 4 ∧ PthI w B (p + 1 + 2 * (4 - k)) L v wr) (fun _ n _ => (intOf n).toNat)
  case atStart => exact ⟨m, [], by omega, rfl, by simp; omega, I1.out.more (by omega)⟩
  case round =>
    obtain ⟨k, L, hk, rfl, hl, ho, ⟨q, hr, hq⟩, hG⟩ := hrel
    clear I1
    obtain ⟨av, pv, rfl, hcv, tv⟩ := OwnI.tab ho
    by_cases hk0 : 0 < k
    · have HO := Lib.hid (And.intro ho (And.intro hr hG))
      have hsz := hG.size
      clear ho hr hG tv
      go_wp2_with fail
      refine (pick_any 5 _ B q (by omega) (by omega) HO.out.2.1).mono ?_
      rintro e w2 ⟨y, y0, y1, rfl, hr2, hg2⟩
      have HO2 := Lib.hid (And.intro (owni_pick HO.out.1 hg2 hBw) (And.intro hr2 (only_on HO.out.2.2 hg2)))
      clear hr2 hg2 HO
      by_cases hm : (1 + y) ∈ L
      · have hm' : decide ((1 + y) ∈ L) = true := decide_eq_true hm
        clear hm
        go_wp2_with fail
        refine (pshas_is hm' av pv _ _ rfl (OwnI.intA HO2.out.1).2.2 (by omega)).mono ?_
        rintro e w3 ⟨rfl, rfl⟩
        go_wp2_with fail
        refine (pick_any 30 _ B (q + 1) (by omega) (by omega) HO2.out.2.1).mono ?_
        rintro e w3 ⟨z, z0, z1, rfl, hr3, hg3⟩
        have HO3 := Lib.hid (And.intro (owni_pick HO2.out.1 hg3 hBw) (And.intro hr3 (only_on HO2.out.2.2 hg3)))
        have hs3 := HO3.out.2.2.size
        clear hr3 hg3 HO2
        by_cases hz : z = 0
        · subst hz
          go_wp2_with (first | (at_builtin; refine wpList_appI rfl (.tmp 25) (.tmp 27) rfl w.heap.size _ L rfl (HO3.out.1.alloc _) _ 1 [1 + y] rfl (pnews1 w3 _) (by simp) (by simp; omega) (by simp only [World.size_alloc]; omega) ?_; intro v5 w5 own5 grow5))
          have ho3 := HO3.out.1.alloc (.cells #[.int .i64 (1 + y)] 3)
          have R : Hid (PthI w B (q + 2) (L ++ [1 + y]) v5 w5) := Lib.hid ⟨own5, ⟨q + 1 + 1, prd_own (rd_alloc HO3.out.2.1 _) grow5 (OwnI.lt' ho3) hBw, by omega⟩, ponly_own (only_alloc HO3.out.2.2 _) grow5 (OwnI.lt' ho3)⟩
          clear own5 grow5 ho3 HO3
          go_wp2_with fail
          go_roundw
          case rel => exact ⟨k - 1, L ++ [1 + y], by omega, by go_num, by simp; omega, R.out.more (by omega)⟩
          case measure => simp [intOf]; omega
        · have hz' : (z == 0) = false := by simpa using hz
          have R : Hid (PthI w B (q + 2) L (.slice av L.length pv) w3) := Lib.hid ⟨HO3.out.1, ⟨q + 1 + 1, HO3.out.2.1, by omega⟩, HO3.out.2.2⟩
          clear HO3
          go_wp2_with fail
          go_roundw
          case rel => exact ⟨k - 1, L, by omega, by go_num, by omega, R.out.more (by omega)⟩
          case measure => simp [intOf]; omega
      · have hm' : decide ((1 + y) ∈ L) = false := decide_eq_false hm
        clear hm
        have hs3 := HO2.out.2.2.size
        go_wp2_with fail
        refine (pshas_is hm' av pv _ _ rfl (OwnI.intA HO2.out.1).2.2 (by omega)).mono ?_
        rintro e w3 ⟨rfl, rfl⟩
        go_wp2_with (first | (at_builtin; refine wpList_appI rfl (.tmp 25) (.tmp 27) rfl w.heap.size _ L rfl (HO2.out.1.alloc _) _ 1 [1 + y] rfl (pnews1 w2 _) (by simp) (by simp; omega) (by simp only [World.size_alloc]; omega) ?_; intro v5 w5 own5 grow5))
        have ho3 := HO2.out.1.alloc (.cells #[.int .i64 (1 + y)] 3)
        have R : Hid (PthI w B (q + 2) (L ++ [1 + y]) v5 w5) := Lib.hid ⟨own5, ⟨q + 1, prd_own (rd_alloc HO2.out.2.1 _) grow5 (OwnI.lt' ho3) hBw, by omega⟩, ponly_own (only_alloc HO2.out.2.2 _) grow5 (OwnI.lt' ho3)⟩
        clear own5 grow5 ho3 HO2
        go_wp2_with fail
        go_roundw
        case rel => exact ⟨k - 1, L ++ [1 + y], by omega, by go_num, by simp; omega, R.out.more (by omega)⟩
        case measure => simp [intOf]; omega
    · obtain rfl : k = 0 := by omega
      have HO := Lib.hid (And.intro ho (And.intro hr hG))
      clear ho hr hG tv
      go_wp2_with fail
      go_ret
      exact ⟨_, _, _, rfl, by omega, HO.out.1, HO.out.2.1, by omega, HO.out.2.2⟩

/-- a drawn path; a drawn path and a number; two drawn paths -/
def DrawnP (w : World) (e : Ending) (w' : World) : Prop := ∃ (v : Value) (L : List Int), e = .returned v ∧ L.length ≤ 6 ∧ OwnI w' w.heap.size v L ∧ Below w.heap.size w w'
def DrawnPH (w : World) (e : Ending) (w' : World) : Prop := ∃ (v : Value) (L : List Int) (h : Int), e = .returned (.tuple #[v, .int .i64 h]) ∧ L.length ≤ 6 ∧ OwnI w' w.heap.size v L ∧ Below w.heap.size w w'
def DrawnPP (w : World) (e : Ending) (w' : World) : Prop := ∃ (v u : Value) (L M : List Int), e = .returned (.tuple #[v, u]) ∧ L.length ≤ 6 ∧ M.length ≤ 6 ∧ OwnI w' w.heap.size v L ∧ OwnI w' w.heap.size u M ∧ Below w.heap.size w w'

end Go.Proofs.YtnnmgbgkgnejlaaDoor

