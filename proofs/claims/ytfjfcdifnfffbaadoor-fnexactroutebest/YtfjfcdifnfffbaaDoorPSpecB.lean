/-
  What the model's functions on paths answer: has, add, which stands ahead.
-/
import Derived.Test.YtfjfcdifnfffbaaDoorPSpec
namespace Go.Proofs.YtfjfcdifnfffbaaDoor
open Go.RowKit
set_option linter.unusedSimpArgs false
set_option linter.unusedVariables false

/-- what PathAdd answers -/
def padd (L : List Int) (h : Int) : List Int × Bool := if pOk (h :: L) = true then (h :: L, true) else ([], false)
theorem padd_yes {L : List Int} {h : Int} (k : Path (h :: L)) : padd L h = (h :: L, true) := by simp [padd, pOk_yes k]
theorem padd_no {L : List Int} {h : Int} (k : ¬ Path (h :: L)) : padd L h = ([], false) := by simp [padd, pOk_no k]
def OwnA (w : World) (r : List Int × Bool) (e : Ending) (w' : World) : Prop := ∃ v, e = .returned (.tuple #[v, .bool r.2]) ∧ OwnI w' w.heap.size v r.1 ∧ Below w.heap.size w w'

theorem cmpL_step {L M : List Int} {k : Nat} {x y : Int} (hx : L[k]? = some x) (hy : M[k]? = some y) (h : x = y) : cmpL (L.drop k) (M.drop k) = cmpL (L.drop (k + 1)) (M.drop (k + 1)) := by
  obtain ⟨h1, e1⟩ := List.getElem?_eq_some_iff.1 hx
  obtain ⟨h2, e2⟩ := List.getElem?_eq_some_iff.1 hy
  rw [List.drop_eq_getElem_cons h1, List.drop_eq_getElem_cons h2, e1, e2, h]
  simp [cmpL]
theorem cmpL_here {L M : List Int} {k : Nat} {x y : Int} (hx : L[k]? = some x) (hy : M[k]? = some y) : cmpL (L.drop k) (M.drop k) = if x < y then -1 else if y < x then 1 else cmpL (L.drop (k + 1)) (M.drop (k + 1)) := by
  obtain ⟨h1, e1⟩ := List.getElem?_eq_some_iff.1 hx
  obtain ⟨h2, e2⟩ := List.getElem?_eq_some_iff.1 hy
  rw [List.drop_eq_getElem_cons h1, List.drop_eq_getElem_cons h2, e1, e2]
  simp [cmpL]

set_option maxHeartbeats 2000000 in
theorem slcmp_any (a b : Option Addr) (cap cap' : Nat) (L M : List Int) (w : World) (hL : IntA w a L) (hM : IntA w b M) (hl : L.length ≤ 4000000) (hm : M.length ≤ 4000000) :
    Calls Tryd.prog 102 #[.slice a L.length cap, .slice b M.length cap'] w fun e w' => e = .returned (.int .i64 (lcmp L M)) ∧ Below w.heap.size w w' := by
  by_cases he : L.length = M.length
  · have he' : ((L.length : Int) != (M.length : Int)) = false := by simp [he]
    have HR := Lib.hid (show lcmp L M = cmpL L M by simp [lcmp, he])
    have HE := Lib.hid he
    clear he
    go_enter Tryd.func102, Tryd.ntmps102
    go_wp2_with fail
    go_loopw [5] (fun i wr => ∃ k : Nat, k ≤ L.length ∧ i = .int .i64 k ∧ Hid (cmpL L M = cmpL (L.drop k) (M.drop k)) ∧ Below w.heap.size w wr) (fun i _ => L.length - (intOf i).toNat)
    case atStart => exact ⟨0, Nat.zero_le _, rfl, Lib.hid (by simp), Below.refl _ _⟩
    case round =>
      obtain ⟨k, hk, rfl, hn, hb⟩ := hrel
      by_cases hlt : k < L.length
      · obtain ⟨b1, off1, x, rfl, hLk, c0⟩ := (hL.below hb).at hlt
        obtain ⟨b2, off2, y, rfl, hMk, d0⟩ := (hM.below hb).at (show k < M.length by rw [← HE.out]; exact hlt)
        have i0 : (0 : Int) ≤ (k : Int) := by omega
        have i1 : (k : Int) < (L.length : Int) := by omega
        have i2 : (k : Int) < (M.length : Int) := by have := HE.out; omega
        have HC := Lib.hid (hn.out.trans (cmpL_here hLk hMk))
        have HB := Lib.hid hb
        clear hn hLk hMk hL hM hb
        by_cases h1 : x < y
        · have HZ := Lib.hid (show lcmp L M = -1 by rw [HR.out, HC.out, if_pos h1])
          clear HC
          go_wp2_with fail
          go_quiet (fail)
          go_wp2_with fail
          go_ret
          exact ⟨ret_int HZ.out.symm, below_drewN HB.out _⟩
        · by_cases h2 : y < x
          · have HZ := Lib.hid (show lcmp L M = 1 by rw [HR.out, HC.out, if_neg h1, if_pos h2])
            clear HC
            go_wp2_with fail
            go_quiet (fail)
            go_wp2_with fail
            go_quiet (fail)
            go_wp2_with fail
            go_ret
            exact ⟨ret_int HZ.out.symm, below_drewN (below_drewN HB.out _) _⟩
          · have HZ := Lib.hid (show cmpL L M = cmpL (L.drop (k + 1)) (M.drop (k + 1)) by rw [HC.out, if_neg h1, if_neg h2])
            clear HC
            go_wp2_with fail
            go_quiet (fail)
            go_wp2_with fail
            go_quiet (fail)
            go_wp2_with fail
            go_roundw
            case rel => exact ⟨k + 1, by omega, by go_num, HZ, below_drewN HB.out _⟩
            case measure => simp [intOf]; omega
      · obtain rfl : k = L.length := by omega
        have HZ := Lib.hid (show lcmp L M = 0 by
          rw [HR.out, hn.out, List.drop_length, show L.length = M.length from HE.out, List.drop_length]; rfl)
        have HB := Lib.hid hb
        clear hn hL hM hb
        go_wp2_with fail
        go_ret
        exact ⟨ret_int HZ.out.symm, HB.out⟩
  · have he' : ((L.length : Int) != (M.length : Int)) = true := by simp; omega
    by_cases h1 : L.length < M.length
    · have h1' : (L.length : Int) < (M.length : Int) := by omega
      have HR := Lib.hid (show lcmp L M = -1 by simp [lcmp, h1])
      clear he h1
      go_enter Tryd.func102, Tryd.ntmps102
      go_wp2_with fail
      go_ret
      exact ⟨ret_int HR.out.symm, Below.refl _ _⟩
    · have h1' : ¬ (L.length : Int) < (M.length : Int) := by omega
      have HR := Lib.hid (show lcmp L M = 1 by simp [lcmp, h1]; intro; omega)
      clear he h1
      go_enter Tryd.func102, Tryd.ntmps102
      go_wp2_with fail
      go_ret
      exact ⟨ret_int HR.out.symm, Below.refl _ _⟩
theorem slcmp_is {L M : List Int} {z : Int} (h : lcmp L M = z) (a b : Option Addr) (cap cap' n m : Nat) (w : World) (hn : n = L.length) (hm : m = M.length) (hL : IntA w a L) (hM : IntA w b M) (hl : L.length ≤ 4000000) (hml : M.length ≤ 4000000) :
    Calls Tryd.prog 102 #[.slice a n cap, .slice b m cap'] w fun e w' => e = .returned (.int .i64 z) ∧ Below w.heap.size w w' := by
  rw [← h, hn, hm]; exact slcmp_any a b cap cap' L M w hL hM hl hml

end Go.Proofs.YtfjfcdifnfffbaaDoor
