/-
  Relations between houses, by the document's model: RelOf, RelMay.
-/
import Derived.Test.YtnljcppefnaapaaHoSpec
namespace Go.Proofs.Ytnljcppefnaapaa
open Go.RowKit
set_option linter.unusedSimpArgs false
set_option linter.unusedVariables false

/-- the element there is -/
theorem good_at {L : List IR} (hg : RelsGood (matP L)) {i k : Nat} (hi : i < L.length) (hk : k < L.length) : ∃ x : IR, L[i]? = some x ∧ x.P[k]? = some (mAt (matP L) i k) ∧ x.P.length = L.length := by
  have hx : L[i]? = some L[i] := List.getElem?_eq_getElem hi
  have hs := hg.sq i (by rw [matP_len]; exact hi)
  rw [matP_at hx, matP_len] at hs
  refine ⟨L[i], hx, ?_, hs⟩
  have : L[i].P[k]? = some L[i].P[k] := List.getElem?_eq_getElem (by omega)
  rw [this, mAt_at hx, getD_at this]
theorem relOf_no {M : Mat} {a b : Int} (h : ¬ (relsOk M = true ∧ (1 ≤ a ∧ a ≤ M.length) ∧ (1 ≤ b ∧ b ≤ M.length))) : relOf M a b = 0 := by rw [relOf, if_neg h]
theorem relOf_yes {M : Mat} {a b : Int} (h : relsOk M = true) (ha : 1 ≤ a ∧ a ≤ M.length) (hb : 1 ≤ b ∧ b ≤ M.length) : relOf M a b = mAt M (a - 1).toNat (b - 1).toNat := by rw [relOf, if_pos ⟨h, ha, hb⟩]
/-- l12Of, on a good matrix -/
theorem ofG_is (L : List IR) (hg : RelsGood (matP L)) (a : Option Addr) (cap n : Nat) (p q : Int) (hp : 1 ≤ p ∧ p ≤ L.length) (hq : 1 ≤ q ∧ q ≤ L.length) {r : Int} (hr : mAt (matP L) (p - 1).toNat (q - 1).toNat = r) (w : World) (hn : n = L.length) (hA : MatA w a L) :
    Calls Try.prog 47 #[.slice a n cap, .int .i64 p, .int .i64 q] w fun e w' => e = .returned (.int .i64 r) ∧ w = w' := by
  have h5 := hg.len
  rw [matP_len] at h5
  obtain ⟨x, hx, hxr, hxl⟩ := good_at hg (i := (p - 1).toNat) (k := (q - 1).toNat) (by omega) (by omega)
  rw [hr] at hxr
  exact of_is L a cap n _ _ hx hxr p q (by omega) (by omega) w hn hA (by omega) (by omega)
set_option maxRecDepth 100000 in
set_option maxHeartbeats 2000000 in
theorem srelof_is (L : List IR) (x y : Int) {z : Int} (hz : relOf (matP L) x y = z) (a : Option Addr) (cap n : Nat) (w : World) (hn : n = L.length) (hA : MatA w a L) (hl : L.length ≤ 2000000) :
    Calls Try.prog 19 #[.slice a n cap, .int .i64 x, .int .i64 y] w fun e w' => e = .returned (.int .i64 z) ∧ Below w.heap.size w w' := by
  subst hn
  have HX := Lib.hid hz
  have HA := Lib.hid hA
  clear hz hA
  go_enter Try.func19, Try.ntmps19
  go_wp2_with fail
  cases ho : relsOk (matP L) with
  | false =>
    have HZ := Lib.hid (show 0 = z by rw [← HX.out, relOf_no (by rw [ho]; simp)])
    refine (srelsok_is L ho a cap _ _ rfl HA.out hl).mono ?_
    rintro e w1 ⟨rfl, b1⟩
    have HB := Lib.hid b1
    clear b1
    go_wp2_with fail
    go_ret
    exact ⟨ret_int HZ.out, HB.out⟩
  | true =>
    refine (srelsok_is L ho a cap _ _ rfl HA.out hl).mono ?_
    rintro e w1 ⟨rfl, b1⟩
    have HB := Lib.hid b1
    have HA1 := Lib.hid (HA.out.below b1)
    clear b1
    go_wp2_with fail
    by_cases hx : 1 ≤ x ∧ x ≤ L.length
    · refine (hin_is (inR_yes hx.1 hx.2) _).mono ?_
      rintro e wq ⟨rfl, rfl⟩
      go_wp2_with fail
      by_cases hy : 1 ≤ y ∧ y ≤ L.length
      · refine (hin_is (inR_yes hy.1 hy.2) _).mono ?_
        rintro e wq ⟨rfl, rfl⟩
        have HZ := Lib.hid (show mAt (matP L) (x - 1).toNat (y - 1).toNat = z by rw [← HX.out, relOf_yes ho (by rw [matP_len]; exact hx) (by rw [matP_len]; exact hy)])
        go_wp2_with fail
        refine (ofG_is L ((relsOk_iff _).1 ho) a cap _ x y hx hy HZ.out _ rfl HA1.out).mono ?_
        rintro e wq ⟨rfl, rfl⟩
        go_wp2_with fail
        go_ret
        exact ⟨rfl, HB.out⟩
      · refine (hin_is (inR_no hy) _).mono ?_
        rintro e wq ⟨rfl, rfl⟩
        have HZ := Lib.hid (show 0 = z by rw [← HX.out, relOf_no (by rw [matP_len]; exact fun h => hy h.2.2)])
        go_wp2_with fail
        go_ret
        exact ⟨ret_int HZ.out, HB.out⟩
    · refine (hin_is (inR_no hx) _).mono ?_
      rintro e wq ⟨rfl, rfl⟩
      have HZ := Lib.hid (show 0 = z by rw [← HX.out, relOf_no (by rw [matP_len]; exact fun h => hx h.2.1)])
      go_wp2_with fail
      go_ret
      exact ⟨ret_int HZ.out, HB.out⟩
set_option maxRecDepth 100000 in
set_option maxHeartbeats 2000000 in
theorem smay0_is (L : List IR) (hg : RelsGood (matP L)) (h f t : Int) (hh : 1 ≤ h ∧ h ≤ L.length) (hf : 0 ≤ f ∧ f ≤ L.length) (ht : 1 ≤ t ∧ t ≤ L.length) {z : Bool} (hz : may0 (matP L) h f t = z) (a : Option Addr) (cap n : Nat) (w : World) (hn : n = L.length) (hA : MatA w a L) :
    Calls Try.prog 51 #[.slice a n cap, .int .i64 h, .int .i64 f, .int .i64 t] w fun e w' => e = .returned (.bool z) ∧ w = w' := by
  subst hn
  have HX := Lib.hid hz
  have HA := Lib.hid hA
  have HG := Lib.hid hg
  obtain ⟨r, hr⟩ : ∃ r, mAt (matP L) (h - 1).toNat (t - 1).toNat = r := ⟨_, rfl⟩
  have HR := Lib.hid hr
  clear hz hA hg hr
  go_enter Try.func51, Try.ntmps51
  go_wp2_with fail
  refine (ofG_is L HG.out a cap _ h t hh ht HR.out _ rfl HA.out).mono ?_
  rintro e wq ⟨rfl, rfl⟩
  by_cases hr0 : r = 0
  · have e0 : (r == 0) = true := by simp [hr0]
    have HZ := Lib.hid (show false = z by rw [← HX.out, may0, HR.out]; simp [hr0])
    clear hr0
    go_wp2_with fail
    go_ret
    exact ⟨ret_bool HZ.out, rfl⟩
  · have e0 : (r == 0) = false := by simp [hr0]
    by_cases hf0 : f = 0
    · have e1 : (f == 0) = true := by simp [hf0]
      have HZ := Lib.hid (show true = z by rw [← HX.out, may0, HR.out]; simp [hr0, hf0])
      clear hr0 hf0
      go_wp2_with fail
      go_ret
      exact ⟨ret_bool HZ.out, rfl⟩
    · have e1 : (f == 0) = false := by simp [hf0]
      obtain ⟨s, hs⟩ : ∃ s, mAt (matP L) (h - 1).toNat (f - 1).toNat = s := ⟨_, rfl⟩
      have HS := Lib.hid hs
      have hff : 1 ≤ f ∧ f ≤ L.length := by omega
      clear hs
      by_cases hs1 : s = 1
      · have e2 : (s == 1) = true := by simp [hs1]
        have HZ := Lib.hid (show true = z by rw [← HX.out, may0, HR.out, HS.out]; simp [hr0, hs1])
        clear hr0 hs1 hf0
        go_wp2_with fail
        refine (ofG_is L HG.out a cap _ h f hh hff HS.out _ rfl HA.out).mono ?_
        rintro e wq ⟨rfl, rfl⟩
        go_wp2_with fail
        go_ret
        exact ⟨ret_bool HZ.out, rfl⟩
      · have e2 : (s == 1) = false := by simp [hs1]
        have HZ := Lib.hid (show (r == 1) = z by rw [← HX.out, may0, HR.out, HS.out]; simp [hr0, hf0, hs1]; by_cases e : r = 1 <;> simp [e])
        clear hr0 hs1 hf0
        go_wp2_with fail
        refine (ofG_is L HG.out a cap _ h f hh hff HS.out _ rfl HA.out).mono ?_
        rintro e wq ⟨rfl, rfl⟩
        go_wp2_with fail
        refine (ofG_is L HG.out a cap _ h t hh ht HR.out _ rfl HA.out).mono ?_
        rintro e wq ⟨rfl, rfl⟩
        go_wp2_with fail
        go_ret
        exact ⟨ret_bool HZ.out, rfl⟩
theorem relMay_no {M : Mat} {h f t : Int} (k : ¬ (relsOk M = true ∧ (1 ≤ h ∧ h ≤ M.length) ∧ (0 ≤ f ∧ f ≤ M.length) ∧ (1 ≤ t ∧ t ≤ M.length))) : relMay M h f t = false := by
  rw [← Bool.not_eq_true]; intro q
  simp only [relMay, Bool.and_eq_true, decide_eq_true_eq] at q
  exact k ⟨q.1.1.1.1, q.1.1.1.2, q.1.1.2, q.1.2⟩
theorem relMay_yes {M : Mat} {h f t : Int} (k : relsOk M = true) (hh : 1 ≤ h ∧ h ≤ M.length) (hf : 0 ≤ f ∧ f ≤ M.length) (ht : 1 ≤ t ∧ t ≤ M.length) : relMay M h f t = may0 M h f t := by simp only [relMay, k, decide_eq_true hh, decide_eq_true hf, decide_eq_true ht, Bool.true_and]
set_option maxRecDepth 100000 in
set_option maxHeartbeats 2000000 in
theorem srelmay_is (L : List IR) (h f t : Int) {z : Bool} (hz : relMay (matP L) h f t = z) (a : Option Addr) (cap n : Nat) (w : World) (hn : n = L.length) (hA : MatA w a L) (hl : L.length ≤ 2000000) :
    Calls Try.prog 23 #[.slice a n cap, .int .i64 h, .int .i64 f, .int .i64 t] w fun e w' => e = .returned (.bool z) ∧ Below w.heap.size w w' := by
  subst hn
  have HX := Lib.hid hz
  have HA := Lib.hid hA
  clear hz hA
  go_enter Try.func23, Try.ntmps23
  go_wp2_with fail
  cases ho : relsOk (matP L) with
  | false =>
    have HZ := Lib.hid (show false = z by rw [← HX.out, relMay_no (by rw [ho]; simp)])
    refine (srelsok_is L ho a cap _ _ rfl HA.out hl).mono ?_
    rintro e w1 ⟨rfl, b1⟩
    have HB := Lib.hid b1
    clear b1
    go_wp2_with fail
    go_ret
    exact ⟨ret_bool HZ.out, HB.out⟩
  | true =>
    refine (srelsok_is L ho a cap _ _ rfl HA.out hl).mono ?_
    rintro e w1 ⟨rfl, b1⟩
    have HB := Lib.hid b1
    have HA1 := Lib.hid (HA.out.below b1)
    clear b1
    go_wp2_with fail
    by_cases hx : 1 ≤ h ∧ h ≤ L.length
    · refine (hin_is (inR_yes hx.1 hx.2) _).mono ?_
      rintro e wq ⟨rfl, rfl⟩
      go_wp2_with fail
      by_cases hy : 0 ≤ f ∧ f ≤ L.length
      · refine (hin_is (inR_yes hy.1 hy.2) _).mono ?_
        rintro e wq ⟨rfl, rfl⟩
        go_wp2_with fail
        by_cases ht : 1 ≤ t ∧ t ≤ L.length
        · refine (hin_is (inR_yes ht.1 ht.2) _).mono ?_
          rintro e wq ⟨rfl, rfl⟩
          have HZ := Lib.hid (show may0 (matP L) h f t = z by rw [← HX.out, relMay_yes ho (by rw [matP_len]; exact hx) (by rw [matP_len]; exact hy) (by rw [matP_len]; exact ht)])
          go_wp2_with fail
          refine (smay0_is L ((relsOk_iff _).1 ho) h f t hx hy ht HZ.out a cap _ _ rfl HA1.out).mono ?_
          rintro e wq ⟨rfl, rfl⟩
          go_wp2_with fail
          go_ret
          exact ⟨rfl, HB.out⟩
        · refine (hin_is (inR_no ht) _).mono ?_
          rintro e wq ⟨rfl, rfl⟩
          have HZ := Lib.hid (show false = z by rw [← HX.out, relMay_no (by rw [matP_len]; exact fun q => ht q.2.2.2)])
          go_wp2_with fail
          go_ret
          exact ⟨ret_bool HZ.out, HB.out⟩
      · refine (hin_is (inR_no hy) _).mono ?_
        rintro e wq ⟨rfl, rfl⟩
        have HZ := Lib.hid (show false = z by rw [← HX.out, relMay_no (by rw [matP_len]; exact fun q => hy q.2.2.1)])
        go_wp2_with fail
        go_ret
        exact ⟨ret_bool HZ.out, HB.out⟩
    · refine (hin_is (inR_no hx) _).mono ?_
      rintro e wq ⟨rfl, rfl⟩
      have HZ := Lib.hid (show false = z by rw [← HX.out, relMay_no (by rw [matP_len]; exact fun q => hx q.2.1)])
      go_wp2_with fail
      go_ret
      exact ⟨ret_bool HZ.out, HB.out⟩
end Go.Proofs.Ytnljcppefnaapaa
