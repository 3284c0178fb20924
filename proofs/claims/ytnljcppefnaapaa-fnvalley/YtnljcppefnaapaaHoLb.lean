/-
  The laws on what a house tells: FnRelMay, FnValley, FnRelTell: the walks.
-/
import Derived.Test.YtnljcppefnaapaaHoLa
namespace Go.Proofs.Ytnljcppefnaapaa
open Go.RowKit
set_option linter.unusedSimpArgs false
set_option linter.unusedVariables false

theorem valley_of {M : Mat} {h f t : Int} (hz : relMay M h f t = true) (hf0 : f ≠ 0) : relOf M h f = 1 ∨ relOf M h t = 1 := by
  have hz2 := hz
  simp only [relMay, Bool.and_eq_true, decide_eq_true_eq] at hz2
  obtain ⟨⟨⟨⟨ho, hh⟩, hf⟩, ht⟩, _⟩ := hz2
  rw [relMay_of ho hh hf ht] at hz
  simp only [Bool.and_eq_true, Bool.or_eq_true, decide_eq_true_eq] at hz
  rcases hz.2 with (q | q) | q
  · exact (hf0 q).elim
  · exact .inl q
  · exact .inr q
set_option maxRecDepth 100000 in
set_option maxHeartbeats 4000000 in
theorem lawRelMay (a0 : Option Addr) (len0 cap0 : Nat) (zs0 : List Int) (w : World) (h0 : IsRow w a0 len0 cap0 zs0) :
    Calls Try.prog 4 #[.slice a0 len0 cap0] w fun e w' => e = .returned (.bool true) ∧ Below w.heap.size w w' := by
  have H0 := Lib.hid h0
  clear h0
  by_cases hl0 : (1048576 : Int) < (len0 : Int)
  · go_enter Try.func4, Try.ntmps4
    go_wp2_with fail
    go_ret
    exact ⟨rfl, Below.refl _ _⟩
  have HB0 := Lib.hid (Below.refl w.heap.size w)
  go_enter Try.func4, Try.ntmps4
  go_wp2_with fail
  refine (dRelMay_any a0 len0 cap0 zs0 _ H0.out).mono ?_
  rintro en w1 ⟨a, c, L, h, f, t, rfl, hh, hf, ht, hD⟩
  have HB1 := Lib.hid hD.bel
  have Aq_1 := Lib.hid hD.par.mat
  have hlen := hD.len
  clear hD
  obtain ⟨r, hr⟩ : ∃ r, relOf (matP L) h t = r := ⟨_, rfl⟩
  obtain ⟨s, hs⟩ : ∃ s, relOf (matP L) h f = s := ⟨_, rfl⟩
  obtain ⟨z, hz⟩ : ∃ z, relMay (matP L) h f t = z := ⟨_, rfl⟩
  have HR := Lib.hid hr
  have HS := Lib.hid hs
  have HZ := Lib.hid hz
  have hzz : (z != z) = false := by simp
  have hze : (z == z) = true := by simp
  cases ho : relsOk (matP L) with
  | false =>
    clear hr hs hz
    go_wp2_with fail
    refine (irelmay_is L h f t (iwL (by omega) (by omega)) (iwL (by omega) (by omega)) (iwL (by omega) (by omega)) HZ.out a c _ _ rfl Aq_1.out (by omega)).mono ?_
    rintro en w2 ⟨rfl, b⟩
    have HB2 := Lib.hid (HB1.out.trans (b.mono HB1.out.size))
    have Aq_2 := Lib.hid (Aq_1.out.below b)
    clear b
    go_wp2_with fail
    refine (srelmay_is L h f t HZ.out a c _ _ rfl Aq_2.out (by omega)).mono ?_
    rintro en w3 ⟨rfl, b⟩
    have HB3 := Lib.hid (HB2.out.trans (b.mono HB2.out.size))
    have Aq_3 := Lib.hid (Aq_2.out.below b)
    clear b
    go_wp2_with fail
    refine (srelsok_is L ho a c _ _ rfl Aq_3.out (by omega)).mono ?_
    rintro en w4 ⟨rfl, b⟩
    have HB4 := Lib.hid (HB3.out.trans (b.mono HB3.out.size))
    have Aq_4 := Lib.hid (Aq_3.out.below b)
    clear b
    go_wp2_with fail
    refine (srelmay_is L h f t HZ.out a c _ _ rfl Aq_4.out (by omega)).mono ?_
    rintro en w5 ⟨rfl, b⟩
    have HB5 := Lib.hid (HB4.out.trans (b.mono HB4.out.size))
    have Aq_5 := Lib.hid (Aq_4.out.below b)
    clear b
    go_wp2_with fail
    go_ret
    exact ⟨rfl, HB5.out⟩
  | true =>
    by_cases hhl : h ≤ L.length
    · have hgt : ¬ h > (L.length : Int) := by omega
      have hv : z = (decide (r ≠ 0) && (decide (f = 0) || decide (s = 1) || decide (r = 1))) := by rw [← hz, ← hr, ← hs]; exact relMay_of ho (by rw [matP_len]; omega) (by rw [matP_len]; exact hf) (by rw [matP_len]; exact ht)
      by_cases hr0 : r = 0
      · have e0 : (r != 0) = false := by simp [hr0]
        obtain rfl : z = false := by rw [hv]; simp [hr0]
        clear hv hr hs hz hr0
        go_wp2_with fail
        refine (irelmay_is L h f t (iwL (by omega) (by omega)) (iwL (by omega) (by omega)) (iwL (by omega) (by omega)) HZ.out a c _ _ rfl Aq_1.out (by omega)).mono ?_
        rintro en w2 ⟨rfl, b⟩
        have HB2 := Lib.hid (HB1.out.trans (b.mono HB1.out.size))
        have Aq_2 := Lib.hid (Aq_1.out.below b)
        clear b
        go_wp2_with fail
        refine (srelmay_is L h f t HZ.out a c _ _ rfl Aq_2.out (by omega)).mono ?_
        rintro en w3 ⟨rfl, b⟩
        have HB3 := Lib.hid (HB2.out.trans (b.mono HB2.out.size))
        have Aq_3 := Lib.hid (Aq_2.out.below b)
        clear b
        go_wp2_with fail
        refine (srelsok_is L ho a c _ _ rfl Aq_3.out (by omega)).mono ?_
        rintro en w4 ⟨rfl, b⟩
        have HB4 := Lib.hid (HB3.out.trans (b.mono HB3.out.size))
        have Aq_4 := Lib.hid (Aq_3.out.below b)
        clear b
        go_wp2_with fail
        refine (irelof_is L h t (iwL (by omega) (by omega)) (iwL (by omega) (by omega)) HR.out a c _ _ rfl Aq_4.out (by omega)).mono ?_
        rintro en w5 ⟨rfl, b⟩
        have HB5 := Lib.hid (HB4.out.trans (b.mono HB4.out.size))
        have Aq_5 := Lib.hid (Aq_4.out.below b)
        clear b
        go_wp2_with fail
        go_ret
        exact ⟨rfl, HB5.out⟩
      have e0 : (r != 0) = true := by simp [hr0]
      by_cases hf0 : f = 0
      · have e1 : (f == 0) = true := by simp [hf0]
        obtain rfl : z = true := by rw [hv]; simp [hr0, hf0]
        clear hv hr hs hz hr0 hf0
        go_wp2_with fail
        refine (irelmay_is L h f t (iwL (by omega) (by omega)) (iwL (by omega) (by omega)) (iwL (by omega) (by omega)) HZ.out a c _ _ rfl Aq_1.out (by omega)).mono ?_
        rintro en w2 ⟨rfl, b⟩
        have HB2 := Lib.hid (HB1.out.trans (b.mono HB1.out.size))
        have Aq_2 := Lib.hid (Aq_1.out.below b)
        clear b
        go_wp2_with fail
        refine (srelmay_is L h f t HZ.out a c _ _ rfl Aq_2.out (by omega)).mono ?_
        rintro en w3 ⟨rfl, b⟩
        have HB3 := Lib.hid (HB2.out.trans (b.mono HB2.out.size))
        have Aq_3 := Lib.hid (Aq_2.out.below b)
        clear b
        go_wp2_with fail
        refine (srelsok_is L ho a c _ _ rfl Aq_3.out (by omega)).mono ?_
        rintro en w4 ⟨rfl, b⟩
        have HB4 := Lib.hid (HB3.out.trans (b.mono HB3.out.size))
        have Aq_4 := Lib.hid (Aq_3.out.below b)
        clear b
        go_wp2_with fail
        refine (irelof_is L h t (iwL (by omega) (by omega)) (iwL (by omega) (by omega)) HR.out a c _ _ rfl Aq_4.out (by omega)).mono ?_
        rintro en w5 ⟨rfl, b⟩
        have HB5 := Lib.hid (HB4.out.trans (b.mono HB4.out.size))
        have Aq_5 := Lib.hid (Aq_4.out.below b)
        clear b
        go_wp2_with fail
        go_ret
        exact ⟨rfl, HB5.out⟩
      have e1 : (f == 0) = false := by simp [hf0]
      by_cases hs1 : s = 1
      · have e2 : (s == 1) = true := by simp [hs1]
        obtain rfl : z = true := by rw [hv]; simp [hr0, hs1]
        clear hv hr hs hz hr0 hf0 hs1
        go_wp2_with fail
        refine (irelmay_is L h f t (iwL (by omega) (by omega)) (iwL (by omega) (by omega)) (iwL (by omega) (by omega)) HZ.out a c _ _ rfl Aq_1.out (by omega)).mono ?_
        rintro en w2 ⟨rfl, b⟩
        have HB2 := Lib.hid (HB1.out.trans (b.mono HB1.out.size))
        have Aq_2 := Lib.hid (Aq_1.out.below b)
        clear b
        go_wp2_with fail
        refine (srelmay_is L h f t HZ.out a c _ _ rfl Aq_2.out (by omega)).mono ?_
        rintro en w3 ⟨rfl, b⟩
        have HB3 := Lib.hid (HB2.out.trans (b.mono HB2.out.size))
        have Aq_3 := Lib.hid (Aq_2.out.below b)
        clear b
        go_wp2_with fail
        refine (srelsok_is L ho a c _ _ rfl Aq_3.out (by omega)).mono ?_
        rintro en w4 ⟨rfl, b⟩
        have HB4 := Lib.hid (HB3.out.trans (b.mono HB3.out.size))
        have Aq_4 := Lib.hid (Aq_3.out.below b)
        clear b
        go_wp2_with fail
        refine (irelof_is L h t (iwL (by omega) (by omega)) (iwL (by omega) (by omega)) HR.out a c _ _ rfl Aq_4.out (by omega)).mono ?_
        rintro en w5 ⟨rfl, b⟩
        have HB5 := Lib.hid (HB4.out.trans (b.mono HB4.out.size))
        have Aq_5 := Lib.hid (Aq_4.out.below b)
        clear b
        go_wp2_with fail
        refine (irelof_is L h f (iwL (by omega) (by omega)) (iwL (by omega) (by omega)) HS.out a c _ _ rfl Aq_5.out (by omega)).mono ?_
        rintro en w6 ⟨rfl, b⟩
        have HB6 := Lib.hid (HB5.out.trans (b.mono HB5.out.size))
        have Aq_6 := Lib.hid (Aq_5.out.below b)
        clear b
        go_wp2_with fail
        go_ret
        exact ⟨rfl, HB6.out⟩
      have e2 : (s == 1) = false := by simp [hs1]
      by_cases hr1 : r = 1
      · have e3 : (r == 1) = true := by simp [hr1]
        obtain rfl : z = true := by rw [hv]; simp [hr0, hr1]
        clear hv hr hs hz hr0 hf0 hs1 hr1
        go_wp2_with fail
        refine (irelmay_is L h f t (iwL (by omega) (by omega)) (iwL (by omega) (by omega)) (iwL (by omega) (by omega)) HZ.out a c _ _ rfl Aq_1.out (by omega)).mono ?_
        rintro en w2 ⟨rfl, b⟩
        have HB2 := Lib.hid (HB1.out.trans (b.mono HB1.out.size))
        have Aq_2 := Lib.hid (Aq_1.out.below b)
        clear b
        go_wp2_with fail
        refine (srelmay_is L h f t HZ.out a c _ _ rfl Aq_2.out (by omega)).mono ?_
        rintro en w3 ⟨rfl, b⟩
        have HB3 := Lib.hid (HB2.out.trans (b.mono HB2.out.size))
        have Aq_3 := Lib.hid (Aq_2.out.below b)
        clear b
        go_wp2_with fail
        refine (srelsok_is L ho a c _ _ rfl Aq_3.out (by omega)).mono ?_
        rintro en w4 ⟨rfl, b⟩
        have HB4 := Lib.hid (HB3.out.trans (b.mono HB3.out.size))
        have Aq_4 := Lib.hid (Aq_3.out.below b)
        clear b
        go_wp2_with fail
        refine (irelof_is L h t (iwL (by omega) (by omega)) (iwL (by omega) (by omega)) HR.out a c _ _ rfl Aq_4.out (by omega)).mono ?_
        rintro en w5 ⟨rfl, b⟩
        have HB5 := Lib.hid (HB4.out.trans (b.mono HB4.out.size))
        have Aq_5 := Lib.hid (Aq_4.out.below b)
        clear b
        go_wp2_with fail
        refine (irelof_is L h f (iwL (by omega) (by omega)) (iwL (by omega) (by omega)) HS.out a c _ _ rfl Aq_5.out (by omega)).mono ?_
        rintro en w6 ⟨rfl, b⟩
        have HB6 := Lib.hid (HB5.out.trans (b.mono HB5.out.size))
        have Aq_6 := Lib.hid (Aq_5.out.below b)
        clear b
        go_wp2_with fail
        refine (irelof_is L h t (iwL (by omega) (by omega)) (iwL (by omega) (by omega)) HR.out a c _ _ rfl Aq_6.out (by omega)).mono ?_
        rintro en w7 ⟨rfl, b⟩
        have HB7 := Lib.hid (HB6.out.trans (b.mono HB6.out.size))
        have Aq_7 := Lib.hid (Aq_6.out.below b)
        clear b
        go_wp2_with fail
        go_ret
        exact ⟨rfl, HB7.out⟩
      have e3 : (r == 1) = false := by simp [hr1]
      obtain rfl : z = false := by rw [hv]; simp [hf0, hs1, hr1]
      clear hv hr hs hz hr0 hf0 hs1 hr1
      go_wp2_with fail
      refine (irelmay_is L h f t (iwL (by omega) (by omega)) (iwL (by omega) (by omega)) (iwL (by omega) (by omega)) HZ.out a c _ _ rfl Aq_1.out (by omega)).mono ?_
      rintro en w2 ⟨rfl, b⟩
      have HB2 := Lib.hid (HB1.out.trans (b.mono HB1.out.size))
      have Aq_2 := Lib.hid (Aq_1.out.below b)
      clear b
      go_wp2_with fail
      refine (srelmay_is L h f t HZ.out a c _ _ rfl Aq_2.out (by omega)).mono ?_
      rintro en w3 ⟨rfl, b⟩
      have HB3 := Lib.hid (HB2.out.trans (b.mono HB2.out.size))
      have Aq_3 := Lib.hid (Aq_2.out.below b)
      clear b
      go_wp2_with fail
      refine (srelsok_is L ho a c _ _ rfl Aq_3.out (by omega)).mono ?_
      rintro en w4 ⟨rfl, b⟩
      have HB4 := Lib.hid (HB3.out.trans (b.mono HB3.out.size))
      have Aq_4 := Lib.hid (Aq_3.out.below b)
      clear b
      go_wp2_with fail
      refine (irelof_is L h t (iwL (by omega) (by omega)) (iwL (by omega) (by omega)) HR.out a c _ _ rfl Aq_4.out (by omega)).mono ?_
      rintro en w5 ⟨rfl, b⟩
      have HB5 := Lib.hid (HB4.out.trans (b.mono HB4.out.size))
      have Aq_5 := Lib.hid (Aq_4.out.below b)
      clear b
      go_wp2_with fail
      refine (irelof_is L h f (iwL (by omega) (by omega)) (iwL (by omega) (by omega)) HS.out a c _ _ rfl Aq_5.out (by omega)).mono ?_
      rintro en w6 ⟨rfl, b⟩
      have HB6 := Lib.hid (HB5.out.trans (b.mono HB5.out.size))
      have Aq_6 := Lib.hid (Aq_5.out.below b)
      clear b
      go_wp2_with fail
      refine (irelof_is L h t (iwL (by omega) (by omega)) (iwL (by omega) (by omega)) HR.out a c _ _ rfl Aq_6.out (by omega)).mono ?_
      rintro en w7 ⟨rfl, b⟩
      have HB7 := Lib.hid (HB6.out.trans (b.mono HB6.out.size))
      have Aq_7 := Lib.hid (Aq_6.out.below b)
      clear b
      go_wp2_with fail
      go_ret
      exact ⟨rfl, HB7.out⟩
    · have hgt : h > (L.length : Int) := by omega
      clear hr hs hz
      go_wp2_with fail
      refine (irelmay_is L h f t (iwL (by omega) (by omega)) (iwL (by omega) (by omega)) (iwL (by omega) (by omega)) HZ.out a c _ _ rfl Aq_1.out (by omega)).mono ?_
      rintro en w2 ⟨rfl, b⟩
      have HB2 := Lib.hid (HB1.out.trans (b.mono HB1.out.size))
      have Aq_2 := Lib.hid (Aq_1.out.below b)
      clear b
      go_wp2_with fail
      refine (srelmay_is L h f t HZ.out a c _ _ rfl Aq_2.out (by omega)).mono ?_
      rintro en w3 ⟨rfl, b⟩
      have HB3 := Lib.hid (HB2.out.trans (b.mono HB2.out.size))
      have Aq_3 := Lib.hid (Aq_2.out.below b)
      clear b
      go_wp2_with fail
      refine (srelsok_is L ho a c _ _ rfl Aq_3.out (by omega)).mono ?_
      rintro en w4 ⟨rfl, b⟩
      have HB4 := Lib.hid (HB3.out.trans (b.mono HB3.out.size))
      have Aq_4 := Lib.hid (Aq_3.out.below b)
      clear b
      go_wp2_with fail
      refine (srelmay_is L h f t HZ.out a c _ _ rfl Aq_4.out (by omega)).mono ?_
      rintro en w5 ⟨rfl, b⟩
      have HB5 := Lib.hid (HB4.out.trans (b.mono HB4.out.size))
      have Aq_5 := Lib.hid (Aq_4.out.below b)
      clear b
      go_wp2_with fail
      go_ret
      exact ⟨rfl, HB5.out⟩
set_option maxRecDepth 100000 in
set_option maxHeartbeats 4000000 in
theorem lawRelTell (a0 : Option Addr) (len0 cap0 : Nat) (zs0 : List Int) (w : World) (h0 : IsRow w a0 len0 cap0 zs0) :
    Calls Try.prog 9 #[.slice a0 len0 cap0] w fun e w' => e = .returned (.bool true) ∧ Below w.heap.size w w' := by
  have H0 := Lib.hid h0
  clear h0
  by_cases hl0 : (1048576 : Int) < (len0 : Int)
  · go_enter Try.func9, Try.ntmps9
    go_wp2_with fail
    go_ret
    exact ⟨rfl, Below.refl _ _⟩
  have HB0 := Lib.hid (Below.refl w.heap.size w)
  go_enter Try.func9, Try.ntmps9
  go_wp2_with fail
  refine (dRelMay_any a0 len0 cap0 zs0 _ H0.out).mono ?_
  rintro en w1 ⟨a, c, L, h, f, t, rfl, hh, hf, ht, hD⟩
  have HB1 := Lib.hid hD.bel
  have Aq_1 := Lib.hid hD.par.mat
  have hlen := hD.len
  clear hD
  obtain ⟨r, hr⟩ : ∃ r, relOf (matP L) h t = r := ⟨_, rfl⟩
  obtain ⟨s, hs⟩ : ∃ s, relOf (matP L) h f = s := ⟨_, rfl⟩
  obtain ⟨z, hz⟩ : ∃ z, relMay (matP L) h f t = z := ⟨_, rfl⟩
  have HR := Lib.hid hr
  have HS := Lib.hid hs
  have HZ := Lib.hid hz
  have hzz : (z != z) = false := by simp
  have hze : (z == z) = true := by simp
  cases ho : relsOk (matP L) with
  | false =>
    clear hr hs hz
    go_wp2_with fail
    refine (irelmay_is L h f t (iwL (by omega) (by omega)) (iwL (by omega) (by omega)) (iwL (by omega) (by omega)) HZ.out a c _ _ rfl Aq_1.out (by omega)).mono ?_
    rintro en w2 ⟨rfl, b⟩
    have HB2 := Lib.hid (HB1.out.trans (b.mono HB1.out.size))
    have Aq_2 := Lib.hid (Aq_1.out.below b)
    clear b
    go_wp2_with fail
    refine (srelmay_is L h f t HZ.out a c _ _ rfl Aq_2.out (by omega)).mono ?_
    rintro en w3 ⟨rfl, b⟩
    have HB3 := Lib.hid (HB2.out.trans (b.mono HB2.out.size))
    have Aq_3 := Lib.hid (Aq_2.out.below b)
    clear b
    go_wp2_with fail
    refine (srelsok_is L ho a c _ _ rfl Aq_3.out (by omega)).mono ?_
    rintro en w4 ⟨rfl, b⟩
    have HB4 := Lib.hid (HB3.out.trans (b.mono HB3.out.size))
    have Aq_4 := Lib.hid (Aq_3.out.below b)
    clear b
    go_wp2_with fail
    refine (srelmay_is L h f t HZ.out a c _ _ rfl Aq_4.out (by omega)).mono ?_
    rintro en w5 ⟨rfl, b⟩
    have HB5 := Lib.hid (HB4.out.trans (b.mono HB4.out.size))
    have Aq_5 := Lib.hid (Aq_4.out.below b)
    clear b
    go_wp2_with fail
    go_ret
    exact ⟨rfl, HB5.out⟩
  | true =>
    by_cases hhl : h ≤ L.length
    · have hgt : ¬ h > (L.length : Int) := by omega
      have hv : z = (decide (r ≠ 0) && (decide (f = 0) || decide (s = 1) || decide (r = 1))) := by rw [← hz, ← hr, ← hs]; exact relMay_of ho (by rw [matP_len]; omega) (by rw [matP_len]; exact hf) (by rw [matP_len]; exact ht)
      by_cases hr0 : r = 0
      · have e0 : (r != 0) = false := by simp [hr0]
        have e1 : (r != 1) = true := by simp [hr0]
        obtain rfl : z = false := by rw [hv]; simp [hr0]
        clear hv hr hs hz hr0
        go_wp2_with fail
        refine (irelmay_is L h f t (iwL (by omega) (by omega)) (iwL (by omega) (by omega)) (iwL (by omega) (by omega)) HZ.out a c _ _ rfl Aq_1.out (by omega)).mono ?_
        rintro en w2 ⟨rfl, b⟩
        have HB2 := Lib.hid (HB1.out.trans (b.mono HB1.out.size))
        have Aq_2 := Lib.hid (Aq_1.out.below b)
        clear b
        go_wp2_with fail
        refine (srelmay_is L h f t HZ.out a c _ _ rfl Aq_2.out (by omega)).mono ?_
        rintro en w3 ⟨rfl, b⟩
        have HB3 := Lib.hid (HB2.out.trans (b.mono HB2.out.size))
        have Aq_3 := Lib.hid (Aq_2.out.below b)
        clear b
        go_wp2_with fail
        refine (srelsok_is L ho a c _ _ rfl Aq_3.out (by omega)).mono ?_
        rintro en w4 ⟨rfl, b⟩
        have HB4 := Lib.hid (HB3.out.trans (b.mono HB3.out.size))
        have Aq_4 := Lib.hid (Aq_3.out.below b)
        clear b
        go_wp2_with fail
        refine (irelof_is L h t (iwL (by omega) (by omega)) (iwL (by omega) (by omega)) HR.out a c _ _ rfl Aq_4.out (by omega)).mono ?_
        rintro en w5 ⟨rfl, b⟩
        have HB5 := Lib.hid (HB4.out.trans (b.mono HB4.out.size))
        have Aq_5 := Lib.hid (Aq_4.out.below b)
        clear b
        go_wp2_with fail
        go_ret
        exact ⟨rfl, HB5.out⟩
      have e0 : (r != 0) = true := by simp [hr0]
      by_cases hr1 : r = 1
      · have e1 : (r != 1) = false := by simp [hr1]
        obtain rfl : z = true := by rw [hv]; simp [hr0, hr1]
        clear hv hr hs hz hr0 hr1
        go_wp2_with fail
        refine (irelmay_is L h f t (iwL (by omega) (by omega)) (iwL (by omega) (by omega)) (iwL (by omega) (by omega)) HZ.out a c _ _ rfl Aq_1.out (by omega)).mono ?_
        rintro en w2 ⟨rfl, b⟩
        have HB2 := Lib.hid (HB1.out.trans (b.mono HB1.out.size))
        have Aq_2 := Lib.hid (Aq_1.out.below b)
        clear b
        go_wp2_with fail
        refine (srelmay_is L h f t HZ.out a c _ _ rfl Aq_2.out (by omega)).mono ?_
        rintro en w3 ⟨rfl, b⟩
        have HB3 := Lib.hid (HB2.out.trans (b.mono HB2.out.size))
        have Aq_3 := Lib.hid (Aq_2.out.below b)
        clear b
        go_wp2_with fail
        refine (srelsok_is L ho a c _ _ rfl Aq_3.out (by omega)).mono ?_
        rintro en w4 ⟨rfl, b⟩
        have HB4 := Lib.hid (HB3.out.trans (b.mono HB3.out.size))
        have Aq_4 := Lib.hid (Aq_3.out.below b)
        clear b
        go_wp2_with fail
        refine (irelof_is L h t (iwL (by omega) (by omega)) (iwL (by omega) (by omega)) HR.out a c _ _ rfl Aq_4.out (by omega)).mono ?_
        rintro en w5 ⟨rfl, b⟩
        have HB5 := Lib.hid (HB4.out.trans (b.mono HB4.out.size))
        have Aq_5 := Lib.hid (Aq_4.out.below b)
        clear b
        go_wp2_with fail
        go_ret
        exact ⟨rfl, HB5.out⟩
      have e1 : (r != 1) = true := by simp [hr1]
      clear hv hr hs hz hr0 hr1
      go_wp2_with fail
      refine (irelmay_is L h f t (iwL (by omega) (by omega)) (iwL (by omega) (by omega)) (iwL (by omega) (by omega)) HZ.out a c _ _ rfl Aq_1.out (by omega)).mono ?_
      rintro en w2 ⟨rfl, b⟩
      have HB2 := Lib.hid (HB1.out.trans (b.mono HB1.out.size))
      have Aq_2 := Lib.hid (Aq_1.out.below b)
      clear b
      go_wp2_with fail
      refine (srelmay_is L h f t HZ.out a c _ _ rfl Aq_2.out (by omega)).mono ?_
      rintro en w3 ⟨rfl, b⟩
      have HB3 := Lib.hid (HB2.out.trans (b.mono HB2.out.size))
      have Aq_3 := Lib.hid (Aq_2.out.below b)
      clear b
      go_wp2_with fail
      refine (srelsok_is L ho a c _ _ rfl Aq_3.out (by omega)).mono ?_
      rintro en w4 ⟨rfl, b⟩
      have HB4 := Lib.hid (HB3.out.trans (b.mono HB3.out.size))
      have Aq_4 := Lib.hid (Aq_3.out.below b)
      clear b
      go_wp2_with fail
      refine (irelof_is L h t (iwL (by omega) (by omega)) (iwL (by omega) (by omega)) HR.out a c _ _ rfl Aq_4.out (by omega)).mono ?_
      rintro en w5 ⟨rfl, b⟩
      have HB5 := Lib.hid (HB4.out.trans (b.mono HB4.out.size))
      have Aq_5 := Lib.hid (Aq_4.out.below b)
      clear b
      go_wp2_with fail
      go_ret
      exact ⟨rfl, HB5.out⟩
    · have hgt : h > (L.length : Int) := by omega
      clear hr hs hz
      go_wp2_with fail
      refine (irelmay_is L h f t (iwL (by omega) (by omega)) (iwL (by omega) (by omega)) (iwL (by omega) (by omega)) HZ.out a c _ _ rfl Aq_1.out (by omega)).mono ?_
      rintro en w2 ⟨rfl, b⟩
      have HB2 := Lib.hid (HB1.out.trans (b.mono HB1.out.size))
      have Aq_2 := Lib.hid (Aq_1.out.below b)
      clear b
      go_wp2_with fail
      refine (srelmay_is L h f t HZ.out a c _ _ rfl Aq_2.out (by omega)).mono ?_
      rintro en w3 ⟨rfl, b⟩
      have HB3 := Lib.hid (HB2.out.trans (b.mono HB2.out.size))
      have Aq_3 := Lib.hid (Aq_2.out.below b)
      clear b
      go_wp2_with fail
      refine (srelsok_is L ho a c _ _ rfl Aq_3.out (by omega)).mono ?_
      rintro en w4 ⟨rfl, b⟩
      have HB4 := Lib.hid (HB3.out.trans (b.mono HB3.out.size))
      have Aq_4 := Lib.hid (Aq_3.out.below b)
      clear b
      go_wp2_with fail
      refine (srelmay_is L h f t HZ.out a c _ _ rfl Aq_4.out (by omega)).mono ?_
      rintro en w5 ⟨rfl, b⟩
      have HB5 := Lib.hid (HB4.out.trans (b.mono HB4.out.size))
      have Aq_5 := Lib.hid (Aq_4.out.below b)
      clear b
      go_wp2_with fail
      go_ret
      exact ⟨rfl, HB5.out⟩
set_option maxRecDepth 100000 in
set_option maxHeartbeats 4000000 in
theorem lawValley (a0 : Option Addr) (len0 cap0 : Nat) (zs0 : List Int) (w : World) (h0 : IsRow w a0 len0 cap0 zs0) :
    Calls Try.prog 5 #[.slice a0 len0 cap0] w fun e w' => e = .returned (.bool true) ∧ Below w.heap.size w w' := by
  have H0 := Lib.hid h0
  clear h0
  by_cases hl0 : (1048576 : Int) < (len0 : Int)
  · go_enter Try.func5, Try.ntmps5
    go_wp2_with fail
    go_ret
    exact ⟨rfl, Below.refl _ _⟩
  have HB0 := Lib.hid (Below.refl w.heap.size w)
  go_enter Try.func5, Try.ntmps5
  go_wp2_with fail
  refine (dRelMay_any a0 len0 cap0 zs0 _ H0.out).mono ?_
  rintro en w1 ⟨a, c, L, h, f, t, rfl, hh, hf, ht, hD⟩
  have HB1 := Lib.hid hD.bel
  have Aq_1 := Lib.hid hD.par.mat
  have hlen := hD.len
  clear hD
  obtain ⟨r, hr⟩ : ∃ r, relOf (matP L) h t = r := ⟨_, rfl⟩
  obtain ⟨s, hs⟩ : ∃ s, relOf (matP L) h f = s := ⟨_, rfl⟩
  obtain ⟨z, hz⟩ : ∃ z, relMay (matP L) h f t = z := ⟨_, rfl⟩
  have HR := Lib.hid hr
  have HS := Lib.hid hs
  have HZ := Lib.hid hz
  have hzz : (z != z) = false := by simp
  have hze : (z == z) = true := by simp
  by_cases hf0 : f = 0
  · have e1 : (f == 0) = true := by simp [hf0]
    clear hr hs hz hf0
    go_wp2_with fail
    refine (irelmay_is L h f t (iwL (by omega) (by omega)) (iwL (by omega) (by omega)) (iwL (by omega) (by omega)) HZ.out a c _ _ rfl Aq_1.out (by omega)).mono ?_
    rintro en w2 ⟨rfl, b⟩
    have HB2 := Lib.hid (HB1.out.trans (b.mono HB1.out.size))
    have Aq_2 := Lib.hid (Aq_1.out.below b)
    clear b
    go_wp2_with fail
    refine (srelmay_is L h f t HZ.out a c _ _ rfl Aq_2.out (by omega)).mono ?_
    rintro en w3 ⟨rfl, b⟩
    have HB3 := Lib.hid (HB2.out.trans (b.mono HB2.out.size))
    have Aq_3 := Lib.hid (Aq_2.out.below b)
    clear b
    go_wp2_with fail
    refine (srelmay_is L h f t HZ.out a c _ _ rfl Aq_3.out (by omega)).mono ?_
    rintro en w4 ⟨rfl, b⟩
    have HB4 := Lib.hid (HB3.out.trans (b.mono HB3.out.size))
    have Aq_4 := Lib.hid (Aq_3.out.below b)
    clear b
    go_wp2_with fail
    go_ret
    exact ⟨rfl, HB4.out⟩
  have e1 : (f == 0) = false := by simp [hf0]
  have hv : z = true → s = 1 ∨ r = 1 := fun q => by rw [← hs, ← hr]; exact valley_of (hz.trans q) hf0
  clear hr hs hz hf0
  cases z with
  | false =>
    clear hv
    go_wp2_with fail
    refine (irelmay_is L h f t (iwL (by omega) (by omega)) (iwL (by omega) (by omega)) (iwL (by omega) (by omega)) HZ.out a c _ _ rfl Aq_1.out (by omega)).mono ?_
    rintro en w2 ⟨rfl, b⟩
    have HB2 := Lib.hid (HB1.out.trans (b.mono HB1.out.size))
    have Aq_2 := Lib.hid (Aq_1.out.below b)
    clear b
    go_wp2_with fail
    refine (srelmay_is L h f t HZ.out a c _ _ rfl Aq_2.out (by omega)).mono ?_
    rintro en w3 ⟨rfl, b⟩
    have HB3 := Lib.hid (HB2.out.trans (b.mono HB2.out.size))
    have Aq_3 := Lib.hid (Aq_2.out.below b)
    clear b
    go_wp2_with fail
    refine (irelof_is L h f (iwL (by omega) (by omega)) (iwL (by omega) (by omega)) HS.out a c _ _ rfl Aq_3.out (by omega)).mono ?_
    rintro en w4 ⟨rfl, b⟩
    have HB4 := Lib.hid (HB3.out.trans (b.mono HB3.out.size))
    have Aq_4 := Lib.hid (Aq_3.out.below b)
    clear b
    go_wp2_with fail
    refine (irelof_is L h t (iwL (by omega) (by omega)) (iwL (by omega) (by omega)) HR.out a c _ _ rfl Aq_4.out (by omega)).mono ?_
    rintro en w5 ⟨rfl, b⟩
    have HB5 := Lib.hid (HB4.out.trans (b.mono HB4.out.size))
    have Aq_5 := Lib.hid (Aq_4.out.below b)
    clear b
    go_wp2_with fail
    go_ret
    exact ⟨rfl, HB5.out⟩
  | true =>
    have hv2 := hv rfl
    clear hv
    by_cases hs1 : s = 1
    · have e2 : (s == 1) = true := by simp [hs1]
      clear hs1 hv2
      go_wp2_with fail
      refine (irelmay_is L h f t (iwL (by omega) (by omega)) (iwL (by omega) (by omega)) (iwL (by omega) (by omega)) HZ.out a c _ _ rfl Aq_1.out (by omega)).mono ?_
      rintro en w2 ⟨rfl, b⟩
      have HB2 := Lib.hid (HB1.out.trans (b.mono HB1.out.size))
      have Aq_2 := Lib.hid (Aq_1.out.below b)
      clear b
      go_wp2_with fail
      refine (srelmay_is L h f t HZ.out a c _ _ rfl Aq_2.out (by omega)).mono ?_
      rintro en w3 ⟨rfl, b⟩
      have HB3 := Lib.hid (HB2.out.trans (b.mono HB2.out.size))
      have Aq_3 := Lib.hid (Aq_2.out.below b)
      clear b
      go_wp2_with fail
      refine (irelof_is L h f (iwL (by omega) (by omega)) (iwL (by omega) (by omega)) HS.out a c _ _ rfl Aq_3.out (by omega)).mono ?_
      rintro en w4 ⟨rfl, b⟩
      have HB4 := Lib.hid (HB3.out.trans (b.mono HB3.out.size))
      have Aq_4 := Lib.hid (Aq_3.out.below b)
      clear b
      go_wp2_with fail
      refine (irelof_is L h t (iwL (by omega) (by omega)) (iwL (by omega) (by omega)) HR.out a c _ _ rfl Aq_4.out (by omega)).mono ?_
      rintro en w5 ⟨rfl, b⟩
      have HB5 := Lib.hid (HB4.out.trans (b.mono HB4.out.size))
      have Aq_5 := Lib.hid (Aq_4.out.below b)
      clear b
      go_wp2_with fail
      go_ret
      exact ⟨rfl, HB5.out⟩
    have e2 : (s == 1) = false := by simp [hs1]
    have e3 : (r == 1) = true := by rcases hv2 with q | q; exact (hs1 q).elim; simp [q]
    clear hs1 hv2
    go_wp2_with fail
    refine (irelmay_is L h f t (iwL (by omega) (by omega)) (iwL (by omega) (by omega)) (iwL (by omega) (by omega)) HZ.out a c _ _ rfl Aq_1.out (by omega)).mono ?_
    rintro en w2 ⟨rfl, b⟩
    have HB2 := Lib.hid (HB1.out.trans (b.mono HB1.out.size))
    have Aq_2 := Lib.hid (Aq_1.out.below b)
    clear b
    go_wp2_with fail
    refine (srelmay_is L h f t HZ.out a c _ _ rfl Aq_2.out (by omega)).mono ?_
    rintro en w3 ⟨rfl, b⟩
    have HB3 := Lib.hid (HB2.out.trans (b.mono HB2.out.size))
    have Aq_3 := Lib.hid (Aq_2.out.below b)
    clear b
    go_wp2_with fail
    refine (irelof_is L h f (iwL (by omega) (by omega)) (iwL (by omega) (by omega)) HS.out a c _ _ rfl Aq_3.out (by omega)).mono ?_
    rintro en w4 ⟨rfl, b⟩
    have HB4 := Lib.hid (HB3.out.trans (b.mono HB3.out.size))
    have Aq_4 := Lib.hid (Aq_3.out.below b)
    clear b
    go_wp2_with fail
    refine (irelof_is L h t (iwL (by omega) (by omega)) (iwL (by omega) (by omega)) HR.out a c _ _ rfl Aq_4.out (by omega)).mono ?_
    rintro en w5 ⟨rfl, b⟩
    have HB5 := Lib.hid (HB4.out.trans (b.mono HB4.out.size))
    have Aq_5 := Lib.hid (Aq_4.out.below b)
    clear b
    go_wp2_with fail
    go_ret
    exact ⟨rfl, HB5.out⟩
end Go.Proofs.Ytnljcppefnaapaa
