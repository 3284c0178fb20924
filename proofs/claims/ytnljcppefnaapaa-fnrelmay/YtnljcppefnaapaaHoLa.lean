/-
  The laws on what houses are to each other: the walks.
-/
import Derived.Test.YtnljcppefnaapaaHoImp
import Derived.Test.YtnljcppefnaapaaHoDs
namespace Go.Proofs.Ytnljcppefnaapaa
open Go.RowKit
set_option linter.unusedSimpArgs false
set_option linter.unusedVariables false

theorem relOf_back {M : Mat} {x y : Int} (ho : relsOk M = true) : (0 ≤ relOf M x y ∧ relOf M x y ≤ 3) ∧ relOf M y x = relB (relOf M x y) := by
  have hg := (relsOk_iff M).1 ho
  by_cases h : (1 ≤ x ∧ x ≤ M.length) ∧ (1 ≤ y ∧ y ≤ M.length)
  · rw [relOf_yes ho h.1 h.2, relOf_yes ho h.2 h.1]
    exact ⟨hg.ran _ _ (by omega) (by omega), hg.back _ _ (by omega) (by omega)⟩
  · rw [relOf_no (fun q => h q.2), relOf_no (fun q => h ⟨q.2.2, q.2.1⟩)]
    exact ⟨by omega, rfl⟩
theorem relOf_self {M : Mat} (ho : relsOk M = true) (x : Int) : relOf M x x = 0 := by
  by_cases h : 1 ≤ x ∧ x ≤ M.length
  · rw [relOf_yes ho h h]; exact ((relsOk_iff M).1 ho).diag _ (by omega)
  · exact relOf_no (fun q => h q.2.1)
theorem relMay_of {M : Mat} {h f t : Int} (ho : relsOk M = true) (hh : 1 ≤ h ∧ h ≤ M.length) (hf : 0 ≤ f ∧ f ≤ M.length) (ht : 1 ≤ t ∧ t ≤ M.length) :
    relMay M h f t = (decide (relOf M h t ≠ 0) && (decide (f = 0) || decide (relOf M h f = 1) || decide (relOf M h t = 1))) := by
  rw [relMay_yes ho hh hf ht, may0, relOf_yes ho hh ht]
  by_cases h0 : f = 0
  · simp [h0]
  · rw [relOf_yes ho hh (by omega)]
set_option maxRecDepth 100000 in
set_option maxHeartbeats 4000000 in
theorem lawRelBack (a0 : Option Addr) (len0 cap0 : Nat) (zs0 : List Int) (w : World) (h0 : IsRow w a0 len0 cap0 zs0) :
    Calls Try.prog 3 #[.slice a0 len0 cap0] w fun e w' => e = .returned (.bool true) ∧ Below w.heap.size w w' := by
  have H0 := Lib.hid h0
  clear h0
  by_cases hl0 : (1048576 : Int) < (len0 : Int)
  · go_enter Try.func3, Try.ntmps3
    go_wp2_with fail
    go_ret
    exact ⟨rfl, Below.refl _ _⟩
  have HB0 := Lib.hid (Below.refl w.heap.size w)
  go_enter Try.func3, Try.ntmps3
  go_wp2_with fail
  refine (dRelOf_any a0 len0 cap0 zs0 _ H0.out).mono ?_
  rintro en w1 ⟨a, c, L, x, y, rfl, hx, hy, hD⟩
  have HB1 := Lib.hid hD.bel
  have Aq_1 := Lib.hid hD.par.mat
  have hlen := hD.len
  have HSQ := Lib.hid hD.sq
  clear hD
  obtain ⟨r, hr⟩ : ∃ r, relOf (matP L) x y = r := ⟨_, rfl⟩
  have HR := Lib.hid hr
  have hrr : (r != r) = false := by simp
  have hre : (r == r) = true := by simp
  clear hr
  go_wp2_with fail
  refine (irelof_is L x y (iwL (by omega) (by omega)) (iwL (by omega) (by omega)) HR.out a c _ _ rfl Aq_1.out (by omega)).mono ?_
  rintro en w2 ⟨rfl, b⟩
  have HB2 := Lib.hid (HB1.out.trans (b.mono HB1.out.size))
  have Aq_2 := Lib.hid (Aq_1.out.below b)
  clear b
  go_wp2_with fail
  refine (srelof_is L x y HR.out a c _ _ rfl Aq_2.out (by omega)).mono ?_
  rintro en w3 ⟨rfl, b⟩
  have HB3 := Lib.hid (HB2.out.trans (b.mono HB2.out.size))
  have Aq_3 := Lib.hid (Aq_2.out.below b)
  clear b
  go_wp2_with fail
  cases ho : relsOk (matP L) with
  | false =>
    refine (srelsok_is L ho a c _ _ rfl Aq_3.out (by omega)).mono ?_
    rintro en w4 ⟨rfl, b⟩
    have HB4 := Lib.hid (HB3.out.trans (b.mono HB3.out.size))
    have Aq_4 := Lib.hid (Aq_3.out.below b)
    clear b
    go_wp2_with fail
    refine (srelof_is L x y HR.out a c _ _ rfl Aq_4.out (by omega)).mono ?_
    rintro en w5 ⟨rfl, b⟩
    have HB5 := Lib.hid (HB4.out.trans (b.mono HB4.out.size))
    have Aq_5 := Lib.hid (Aq_4.out.below b)
    clear b
    go_wp2_with fail
    go_ret
    exact ⟨rfl, HB5.out⟩
  | true =>
    refine (srelsok_is L ho a c _ _ rfl Aq_3.out (by omega)).mono ?_
    rintro en w4 ⟨rfl, b⟩
    have HB4 := Lib.hid (HB3.out.trans (b.mono HB3.out.size))
    have Aq_4 := Lib.hid (Aq_3.out.below b)
    clear b
    obtain ⟨s, hs⟩ : ∃ s, relOf (matP L) y x = s := ⟨_, rfl⟩
    have HQ := Lib.hid hs
    have hsr : (0 ≤ r ∧ r ≤ 3) ∧ s = relB r := by rw [← HR.out, ← hs]; exact relOf_back ho
    have hxy : x = y → r = 0 := fun e => by rw [← HR.out, e]; exact relOf_self ho y
    clear hs
    go_wp2_with fail
    refine (irelof_is L y x (iwL (by omega) (by omega)) (iwL (by omega) (by omega)) HQ.out a c _ _ rfl Aq_4.out (by omega)).mono ?_
    rintro en w5 ⟨rfl, b⟩
    have HB5 := Lib.hid (HB4.out.trans (b.mono HB4.out.size))
    have Aq_5 := Lib.hid (Aq_4.out.below b)
    clear b
    obtain ⟨⟨hr0, hr3⟩, hs⟩ := hsr
    by_cases e : x = y
    · have e1 : (x != y) = false := by simp [e]
      obtain rfl : r = 0 := hxy e
      obtain rfl : s = 0 := hs
      clear e hxy
      go_wp2_with fail
      go_ret
      exact ⟨rfl, HB5.out⟩
    · have e1 : (x != y) = true := by simp [e]
      clear e hxy
      obtain rfl | rfl | rfl | rfl : r = 0 ∨ r = 1 ∨ r = 2 ∨ r = 3 := by omega
      · obtain rfl : s = 0 := hs
        go_wp2_with fail
        go_ret
        exact ⟨rfl, HB5.out⟩
      · obtain rfl : s = 3 := hs
        go_wp2_with fail
        go_ret
        exact ⟨rfl, HB5.out⟩
      · obtain rfl : s = 2 := hs
        go_wp2_with fail
        go_ret
        exact ⟨rfl, HB5.out⟩
      · obtain rfl : s = 1 := hs
        go_wp2_with fail
        go_ret
        exact ⟨rfl, HB5.out⟩
end Go.Proofs.Ytnljcppefnaapaa
