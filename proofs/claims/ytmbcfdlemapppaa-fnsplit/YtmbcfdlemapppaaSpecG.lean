/-
  What the model's functions on tables answer.
-/
import Derived.Test.YtmbcfdlemapppaaSpecF
import Derived.Laws.AppendOwnNone
namespace Go.Proofs.Ytmbcfdlemapppaa
open Go.RowKit
set_option linter.unusedSimpArgs false

set_option maxHeartbeats 1000000 in
theorem lsame_any (ad bd : Option Addr) (cap cap' : Nat) (A B : List E) (w : World) (hA : TabA w ad A) (hB : TabA w bd B) (la : A.length ≤ 2000) (lb : B.length ≤ 2000)
    (oa : ∀ e ∈ A, okB e.1 e.2.1 = true) (ob : ∀ e ∈ B, okB e.1 e.2.1 = true) :
    Calls Try.prog 67 #[.slice ad A.length cap, .slice bd B.length cap'] w fun e w' => e = .returned (.bool (sameM A B)) ∧ Below w.heap.size w w' := by
  have HA := Lib.hid (And.intro hA oa)
  have HB := Lib.hid (And.intro hB ob)
  clear hA hB oa ob
  go_enter Try.func67, Try.ntmps67
  go_wp2_with fail
  go_loopw [5] (fun i wr => ∃ k : Nat, k ≤ 256 ∧ i = .int .i64 k ∧ Hid (∀ n : Nat, n < k → findM A n = findM B n) ∧ Below w.heap.size w wr) (fun i _ => 256 - (intOf i).toNat)
  case atStart => exact ⟨0, by omega, rfl, Lib.hid (fun n h => by omega), Below.refl _ _⟩
  case round =>
    obtain ⟨k, hk, rfl, ha, hb⟩ := hrel
    have HBB := Lib.hid hb
    clear hb
    by_cases hlt : k < 256
    · have k0 : (0 : Int) ≤ k := by omega
      have k1 : (k : Int) ≤ 255 := by omega
      go_wp2_with fail
      refine (lfind_any ad cap A k _ (HA.out.1.below HBB.out) la HA.out.2 k0 k1).mono ?_
      rintro e w1 ⟨rfl, hb1⟩
      have HB1 := Lib.hid (next HBB.out hb1)
      clear hb1
      go_wp2_with fail
      refine (lfind_any bd cap' B k _ (HB.out.1.below HB1.out) lb HB.out.2 k0 k1).mono ?_
      rintro e w2 ⟨rfl, hb2⟩
      have HB2 := Lib.hid (next HB1.out hb2)
      clear hb2
      go_wp2_with fail
      · have hne : (findM A k != findM B k) = true := by assumption
        go_ret
        refine ⟨ret_bool ?_, HB2.out⟩
        symm
        rw [← Bool.not_eq_true, sameM_iff]
        intro h
        exact absurd (h k k0 k1) (by simpa using hne)
      · have heq : (findM A k != findM B k) = false := by assumption
        have heq' : findM A k = findM B k := by simpa using heq
        go_roundw
        case rel =>
          refine ⟨k + 1, by omega, by go_num, Lib.hid (fun n hn => ?_), HB2.out⟩
          by_cases e : n = k
          · rw [e]; exact heq'
          · exact ha.out n (by omega)
        case measure => simp [intOf]; omega
    · obtain rfl : k = 256 := by omega
      go_wp2_with fail
      go_ret
      refine ⟨ret_bool ?_, HBB.out⟩
      symm
      rw [sameM_iff]
      intro a a0 a1
      have := ha.out a.toNat (by omega)
      rwa [show ((a.toNat : Nat) : Int) = a by omega] at this
theorem stok_is {a : Option Addr} {cap : Nat} {T : List E} {x : Bool} (h : tabOk T = x) (w : World) (hT : TabA w a T) (hl : T.length ≤ 2000000) :
    Calls Try.prog 22 #[.slice a T.length cap] w fun e w' => e = .returned (.bool x) ∧ Below w.heap.size w w' := by
  rw [← h]; exact stok_any a cap T w hT hl

set_option maxHeartbeats 1000000 in
theorem sfind_any (a : Option Addr) (cap : Nat) (T : List E) (x : Int) (w : World) (hT : TabA w a T) (hl : T.length ≤ 2000000) :
    Calls Try.prog 34 #[.slice a T.length cap, .int .i64 x] w fun e w' => e = .returned (.int .i64 (tfindM T x)) ∧ Below w.heap.size w w' := by
  have HT := Lib.hid hT
  clear hT
  by_cases ho : tabOk T = true
  · obtain ⟨hg, h12⟩ := tab_good ho
    have hok := Lib.hid (tab_oks ho)
    clear hg
    cases hx : inR x 0 255 with
    | true =>
      have hx' : 0 ≤ x ∧ x ≤ 255 := by simpa [inR] using hx
      have hr := Lib.hid (show tfindM T x = findM T x by simp [tfindM, ho, hx'])
      go_enter Try.func34, Try.ntmps34
      go_wp2_with fail
      refine (stok_is ho _ HT.out hl).mono ?_
      rintro e w1 ⟨rfl, hb1⟩
      have HB1 := Lib.hid hb1
      clear hb1
      go_wp2_with fail
      refine (in_is hx _).mono ?_
      rintro e w2 ⟨rfl, rfl⟩
      go_wp2_with fail
      refine (lfind_any a cap T x _ (HT.out.below HB1.out) (by omega) hok.out hx'.1 hx'.2).mono ?_
      rintro e w3 ⟨rfl, hb3⟩
      have HB3 := Lib.hid (next HB1.out hb3)
      clear hb3
      go_wp2_with fail
      go_ret
      exact ⟨ret_int hr.out.symm, HB3.out⟩
    | false =>
      have hx' : ¬ (0 ≤ x ∧ x ≤ 255) := fun h => by rw [inR_yes h.1 h.2] at hx; cases hx
      have hr := Lib.hid (show tfindM T x = 0 by unfold tfindM; rw [if_neg (fun h => hx' h.2)])
      clear hx'
      go_enter Try.func34, Try.ntmps34
      go_wp2_with fail
      refine (stok_is ho _ HT.out hl).mono ?_
      rintro e w1 ⟨rfl, hb1⟩
      have HB1 := Lib.hid hb1
      clear hb1
      go_wp2_with fail
      refine (in_is hx _).mono ?_
      rintro e w2 ⟨rfl, rfl⟩
      go_wp2_with fail
      go_ret
      exact ⟨ret_int hr.out.symm, HB1.out⟩
  · have ho' : tabOk T = false := by simpa using ho
    have hr := Lib.hid (show tfindM T x = 0 by simp [tfindM, ho])
    clear ho
    go_enter Try.func34, Try.ntmps34
    go_wp2_with fail
    refine (stok_is ho' _ HT.out hl).mono ?_
    rintro e w1 ⟨rfl, hb1⟩
    have HB1 := Lib.hid hb1
    clear hb1
    go_wp2_with fail
    go_ret
    exact ⟨ret_int hr.out.symm, HB1.out⟩

set_option maxHeartbeats 1000000 in
theorem ssame_any (a b : Option Addr) (cap cap' : Nat) (A B : List E) (w : World) (hA : TabA w a A) (hB : TabA w b B) (la : A.length ≤ 2000000) (lb : B.length ≤ 2000000) :
    Calls Try.prog 36 #[.slice a A.length cap, .slice b B.length cap'] w fun e w' => e = .returned (.bool (tsameM A B)) ∧ Below w.heap.size w w' := by
  have HA := Lib.hid hA
  have HB := Lib.hid hB
  clear hA hB
  by_cases oa : tabOk A = true
  · by_cases ob : tabOk B = true
    · obtain ⟨ga, a12⟩ := tab_good oa
      obtain ⟨gb, b12⟩ := tab_good ob
      have hr := Lib.hid (show tsameM A B = sameM A B by simp [tsameM, oa, ob])
      have hka := Lib.hid (tab_oks oa)
      have hkb := Lib.hid (tab_oks ob)
      clear ga gb
      go_enter Try.func36, Try.ntmps36
      go_wp2_with fail
      refine (stok_is oa _ HA.out la).mono ?_
      rintro e w1 ⟨rfl, hb1⟩
      have HB1 := Lib.hid hb1
      clear hb1
      go_wp2_with fail
      refine (stok_is ob _ (HB.out.below HB1.out) lb).mono ?_
      rintro e w2 ⟨rfl, hb2⟩
      have HB2 := Lib.hid (next HB1.out hb2)
      clear hb2 HB1
      go_wp2_with fail
      refine (lsame_any a b cap cap' A B _ (HA.out.below HB2.out) (HB.out.below HB2.out) (by omega) (by omega) hka.out hkb.out).mono ?_
      rintro e w3 ⟨rfl, hb3⟩
      have HB3 := Lib.hid (next HB2.out hb3)
      clear hb3
      go_wp2_with fail
      go_ret
      exact ⟨ret_bool hr.out.symm, HB3.out⟩
    · have ob' : tabOk B = false := by simpa using ob
      have hr := Lib.hid (show tsameM A B = false by simp [tsameM, ob'])
      clear ob
      go_enter Try.func36, Try.ntmps36
      go_wp2_with fail
      refine (stok_is oa _ HA.out la).mono ?_
      rintro e w1 ⟨rfl, hb1⟩
      have HB1 := Lib.hid hb1
      clear hb1
      go_wp2_with fail
      refine (stok_is ob' _ (HB.out.below HB1.out) lb).mono ?_
      rintro e w2 ⟨rfl, hb2⟩
      have HB2 := Lib.hid (next HB1.out hb2)
      clear hb2 HB1
      go_wp2_with fail
      go_ret
      exact ⟨ret_bool hr.out.symm, HB2.out⟩
  · have oa' : tabOk A = false := by simpa using oa
    have hr := Lib.hid (show tsameM A B = false by simp [tsameM, oa'])
    clear oa
    go_enter Try.func36, Try.ntmps36
    go_wp2_with fail
    refine (stok_is oa' _ HA.out la).mono ?_
    rintro e w1 ⟨rfl, hb1⟩
    have HB1 := Lib.hid hb1
    clear hb1
    go_wp2_with fail
    go_ret
    exact ⟨ret_bool hr.out.symm, HB1.out⟩

/-- the cells of a slice of entries, one by one -/
theorem TabA.cells {w : World} {b off : Nat} {T : List E} (h : TabA w (some ⟨b, off, none⟩) T) (j : Nat) (u : Value) (hj : (cellsT T)[j]? = some u) : w.cell? ((⟨b, off, none⟩ : Addr).add j) = some u := by
  have hadd : (⟨b, off, none⟩ : Addr).add j = ⟨b, off + j, none⟩ := by unfold Addr.add; split <;> simp_all
  rw [hadd]
  have hlen : j < (cellsT T).length := (List.getElem?_eq_some_iff.1 hj).1
  rw [cellsT_len] at hlen
  obtain ⟨i, r, hij, hr, hi⟩ : ∃ i r, j = i * 3 + r ∧ r < 3 ∧ i < T.length := ⟨j / 3, j % 3, by omega, by omega, by omega⟩
  obtain ⟨x, e⟩ : ∃ x, T[i]? = some x := ⟨_, List.getElem?_eq_getElem hi⟩
  obtain ⟨k1, k2, k3⟩ := cellsT_at e
  subst hij
  rcases h with rfl | ⟨b', off', e', h⟩
  · simp at hi
  · obtain ⟨rfl, rfl⟩ : b = b' ∧ off = off' := by simpa using e'
    obtain ⟨d1, d2, d3⟩ := h _ _ e
    have hr3 : r = 0 ∨ r = 1 ∨ r = 2 := by omega
    rcases hr3 with rfl | rfl | rfl
    · simp only [Nat.add_zero] at hj ⊢; rw [k1] at hj; rw [← hj]; exact d1
    · rw [k2] at hj; rw [← hj, ← Nat.add_assoc]; exact d2
    · rw [k3] at hj; rw [← hj, ← Nat.add_assoc]; exact d3

end Go.Proofs.Ytmbcfdlemapppaa
