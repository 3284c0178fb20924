/-
  Relations between houses, by the program: RelsOk, RelOf, RelMay, RelsOrder, RelsFree.
-/
import Derived.Test.YtnljcppefnaapaaHoPe
namespace Go.Proofs.Ytnljcppefnaapaa
open Go.RowKit
open Go.Maps (Keyed)
set_option linter.unusedSimpArgs false
set_option linter.unusedVariables false

set_option maxRecDepth 100000 in
set_option maxHeartbeats 2000000 in
theorem irelsok_is (L : List IR) {z : Bool} (hz : relsOk (matP L) = z) (a : Option Addr) (cap n : Nat) (w : World) (hn : n = L.length) (hA : MatA w a L) (hl : L.length ≤ 2000000) :
    Calls Try.prog 33 #[.slice a n cap] w fun e w' => e = .returned (.bool z) ∧ Below w.heap.size w w' := by
  subst hn
  have HA := Lib.hid hA
  clear hA
  go_enter Try.func33, Try.ntmps33
  go_wp2_with fail
  refine (irels_is L hz a cap _ _ rfl HA.out hl).mono ?_
  rintro e w1 ⟨k, o, rfl, b1, _⟩
  have HB := Lib.hid (b1.alloc b1.size (.cells #[.int .i64 k, .map o] 50))
  clear b1
  go_wp2_with fail
  go_ret
  exact ⟨rfl, HB.out⟩
set_option maxRecDepth 100000 in
set_option maxHeartbeats 2000000 in
theorem irelof_is (L : List IR) (x y : Int) (hx : Iw x) (hy : Iw y) {z : Int} (hz : relOf (matP L) x y = z) (a : Option Addr) (cap n : Nat) (w : World) (hn : n = L.length) (hA : MatA w a L) (hl : L.length ≤ 2000000) :
    Calls Try.prog 18 #[.slice a n cap, .int .i64 x, .int .i64 y] w fun e w' => e = .returned (.int .i64 z) ∧ Below w.heap.size w w' := by
  subst hn
  have HX := Lib.hid hz
  have HA := Lib.hid hA
  clear hz hA
  go_enter Try.func18, Try.ntmps18
  go_wp2_with fail
  cases ho : relsOk (matP L) with
  | false =>
    have HZ := Lib.hid (show 0 = z by rw [← HX.out, relOf_no (by rw [ho]; simp)])
    refine (irels_is L ho a cap _ _ rfl HA.out hl).mono ?_
    rintro e w1 ⟨k, o, rfl, b1, _⟩
    have HB := Lib.hid (b1.alloc b1.size (.cells #[.int .i64 k, .map o] 50))
    clear b1
    go_wp2_with fail
    go_ret
    exact ⟨ret_int HZ.out, HB.out⟩
  | true =>
    refine (irels_is L ho a cap _ _ rfl HA.out hl).mono ?_
    rintro e w1 ⟨k, o, rfl, b1, hk⟩
    obtain ⟨rfl, b, rfl, hR⟩ := hk rfl
    have HB := Lib.hid (b1.alloc b1.size (.cells #[.int .i64 ((matP L).length : Int), .map (some b)] 50))
    have HR := Lib.hid (hR.below ((Below.refl _ w1).alloc (Nat.le_refl _) (.cells #[.int .i64 ((matP L).length : Int), .map (some b)] 50)))
    have HZ := Lib.hid ((relOf_fM ho x y).symm.trans HX.out)
    clear b1 hR hk
    go_wp2_with fail
    refine (between_is HZ.out (matP L).length b _ HR.out hx hy).mono ?_
    rintro e w2 ⟨rfl, b2⟩
    have HB2 := Lib.hid (next HB.out b2)
    clear b2
    go_wp2_with fail
    go_ret
    exact ⟨rfl, HB2.out⟩
theorem relMay_mayF {M : Mat} {h f t : Int} (ho : relsOk M = true) (hh : 1 ≤ h ∧ h ≤ M.length) (hf : 0 ≤ f ∧ f ≤ M.length) (ht : 1 ≤ t ∧ t ≤ M.length) : mayF (fM M) h f t = relMay M h f t := by
  rw [relMay_yes ho hh hf ht, may0, mayF]
  have e1 : fM M h t = mAt M (h - 1).toNat (t - 1).toNat := by unfold fM; rw [if_pos ⟨hh, ht⟩]
  rw [e1]
  by_cases h0 : f = 0
  · simp [h0]
  · have e2 : fM M h f = mAt M (h - 1).toNat (f - 1).toNat := by unfold fM; rw [if_pos ⟨hh, by omega⟩]
    rw [e2]
set_option maxRecDepth 100000 in
set_option maxHeartbeats 2000000 in
theorem irelmay_is (L : List IR) (h f t : Int) (ph : Iw h) (pf : Iw f) (pt : Iw t) {z : Bool} (hz : relMay (matP L) h f t = z) (a : Option Addr) (cap n : Nat) (w : World) (hn : n = L.length) (hA : MatA w a L) (hl : L.length ≤ 2000000) :
    Calls Try.prog 22 #[.slice a n cap, .int .i64 h, .int .i64 f, .int .i64 t] w fun e w' => e = .returned (.bool z) ∧ Below w.heap.size w w' := by
  subst hn
  have HX := Lib.hid hz
  have HA := Lib.hid hA
  clear hz hA
  go_enter Try.func22, Try.ntmps22
  go_wp2_with fail
  cases ho : relsOk (matP L) with
  | false =>
    have HZ := Lib.hid (show false = z by rw [← HX.out, relMay_no (by rw [ho]; simp)])
    refine (irels_is L ho a cap _ _ rfl HA.out hl).mono ?_
    rintro e w1 ⟨k, o, rfl, b1, _⟩
    have HB := Lib.hid (b1.alloc b1.size (.cells #[.int .i64 k, .map o] 50))
    clear b1
    go_wp2_with fail
    go_ret
    exact ⟨ret_bool HZ.out, HB.out⟩
  | true =>
    refine (irels_is L ho a cap _ _ rfl HA.out hl).mono ?_
    rintro e w1 ⟨k, o, rfl, b1, hk⟩
    obtain ⟨rfl, b, rfl, hR⟩ := hk rfl
    obtain ⟨N, hN⟩ : ∃ N, (matP L).length = N := ⟨_, rfl⟩
    obtain ⟨hb2, hc, _⟩ := rbox w1 N b
    rw [hN]
    obtain ⟨W, hW⟩ : ∃ W, w1.alloc (.cells #[.int .i64 (N : Int), .map (some b)] 50) = W := ⟨_, rfl⟩
    rw [hW] at hb2 hc
    have HB := Lib.hid (next b1 hb2)
    have HR := Lib.hid (hR.below hb2)
    obtain ⟨c0, c1⟩ := hc
    have HN := Lib.hid hN
    clear b1 hR hk hb2 hN
    cases hh : decide (1 ≤ h ∧ h ≤ (N : Int)) with
    | false =>
      have HZ := Lib.hid (show false = z by rw [← HX.out, relMay_no (fun q => of_decide_eq_false hh (by rw [← HN.out]; exact q.2.1))])
      have HH := Lib.hid hh
      clear hh
      go_wp2_with fail
      refine (rhas_is HH.out _).mono ?_
      rintro e w2 ⟨rfl, b2⟩
      have HB2 := Lib.hid (next HB.out b2)
      clear b2
      go_wp2_with fail
      go_ret
      exact ⟨ret_bool HZ.out, HB2.out⟩
    | true =>
      have HH := Lib.hid hh
      have HHp := Lib.hid (of_decide_eq_true hh)
      clear hh
      go_wp2_with fail
      refine (rhas_is HH.out _).mono ?_
      rintro e w2 ⟨rfl, b2⟩
      have HB2 := Lib.hid (next HB.out b2)
      have HR2 := Lib.hid (HR.out.below b2)
      have d0 := cell_later b2 c0
      have d1 := cell_later b2 c1
      clear b2 c0 c1 hW
      cases ht : decide (1 ≤ t ∧ t ≤ (N : Int)) with
      | false =>
        have HZ := Lib.hid (show false = z by rw [← HX.out, relMay_no (fun q => of_decide_eq_false ht (by rw [← HN.out]; exact q.2.2.2))])
        have HT := Lib.hid ht
        clear ht
        go_wp2_with fail
        refine (rhas_is HT.out _).mono ?_
        rintro e w3 ⟨rfl, b3⟩
        have HB3 := Lib.hid (next HB2.out b3)
        clear b3
        go_wp2_with fail
        go_ret
        exact ⟨ret_bool HZ.out, HB3.out⟩
      | true =>
        have HT := Lib.hid ht
        have HTp := Lib.hid (of_decide_eq_true ht)
        clear ht
        go_wp2_with fail
        refine (rhas_is HT.out _).mono ?_
        rintro e w3 ⟨rfl, b3⟩
        have HB3 := Lib.hid (next HB2.out b3)
        have HR3 := Lib.hid (HR2.out.below b3)
        have f0 := cell_later b3 d0
        have f1 := cell_later b3 d1
        clear b3 d0 d1
        by_cases hf0 : f = 0
        · have e0 : (f != 0) = false := by simp [hf0]
          have HZ := Lib.hid (show mayF (fM (matP L)) h f t = z by rw [← HX.out]; exact relMay_mayF ho (by rw [HN.out]; exact HHp.out) (by rw [HN.out]; omega) (by rw [HN.out]; exact HTp.out))
          clear hf0
          go_wp2_with fail
          refine (rmay_is HZ.out N b _ HR3.out ph pf pt).mono ?_
          rintro e w4 ⟨rfl, b4⟩
          have HB4 := Lib.hid (next HB3.out b4)
          clear b4
          go_wp2_with fail
          go_ret
          exact ⟨rfl, HB4.out⟩
        · have e0 : (f != 0) = true := by simp [hf0]
          cases hf : decide (1 ≤ f ∧ f ≤ (N : Int)) with
          | false =>
            have HZ := Lib.hid (show false = z by rw [← HX.out, relMay_no (fun q => of_decide_eq_false hf (by have := q.2.2.1; rw [HN.out] at this; omega))])
            have HF := Lib.hid hf
            clear hf hf0
            go_wp2_with fail
            refine (rhas_is HF.out _).mono ?_
            rintro e w4 ⟨rfl, b4⟩
            have HB4 := Lib.hid (next HB3.out b4)
            clear b4
            go_wp2_with fail
            go_ret
            exact ⟨ret_bool HZ.out, HB4.out⟩
          | true =>
            have HF := Lib.hid hf
            have HZ := Lib.hid (show mayF (fM (matP L)) h f t = z by rw [← HX.out]; exact relMay_mayF ho (by rw [HN.out]; exact HHp.out) (by have := of_decide_eq_true hf; rw [HN.out]; omega) (by rw [HN.out]; exact HTp.out))
            clear hf hf0
            go_wp2_with fail
            refine (rhas_is HF.out _).mono ?_
            rintro e w4 ⟨rfl, b4⟩
            have HB4 := Lib.hid (next HB3.out b4)
            have HR4 := Lib.hid (HR3.out.below b4)
            have g0 := cell_later b4 f0
            have g1 := cell_later b4 f1
            clear b4 f0 f1
            go_wp2_with fail
            refine (rmay_is HZ.out N b _ HR4.out ph pf pt).mono ?_
            rintro e w5 ⟨rfl, b5⟩
            have HB5 := Lib.hid (next HB4.out b5)
            clear b5
            go_wp2_with fail
            go_ret
            exact ⟨rfl, HB5.out⟩
theorem relsOrder_ordP {M : Mat} (ho : relsOk M = true) : relsOrder M = ordP M := by
  unfold relsOrder ordP relsFree
  by_cases e : (orderM M).length = M.length <;> simp [ho, e]
theorem relsOrder_no {M : Mat} (ho : relsOk M = false) : relsOrder M = ([], false) := by simp [relsOrder, relsFree, ho]
theorem relsOrder_free (M : Mat) : (relsOrder M).2 = relsFree M := by unfold relsOrder; split <;> simp_all
set_option maxRecDepth 100000 in
set_option maxHeartbeats 2000000 in
theorem irelsorder_is (L : List IR) {U : List Int} {x : Bool} (hz : relsOrder (matP L) = (U, x)) (a : Option Addr) (cap n : Nat) (w : World) (hn : n = L.length) (hA : MatA w a L) (hl : L.length ≤ 2000000) :
    Calls Try.prog 26 #[.slice a n cap] w fun e w' => ∃ v, e = .returned (.tuple #[v, .bool x]) ∧ HvI w U v w' := by
  subst hn
  have HX := Lib.hid hz
  have HA := Lib.hid hA
  clear hz hA
  go_enter Try.func26, Try.ntmps26
  go_wp2_with fail
  cases ho : relsOk (matP L) with
  | false =>
    have HZ := Lib.hid ((relsOrder_no ho).symm.trans HX.out)
    refine (irels_is L ho a cap _ _ rfl HA.out hl).mono ?_
    rintro e w1 ⟨k, o, rfl, b1, _⟩
    have HB := Lib.hid (b1.alloc b1.size (.cells #[.int .i64 k, .map o] 50))
    clear b1
    go_wp2_with fail
    refine bodyPost_ret (v := .tuple #[.slice none 0 0, .bool false]) (by simp [results, Try.results26, go_sem]) rfl ?_
    have h3 := HZ.out
    simp only [Prod.mk.injEq] at h3
    rw [← h3.1, ← h3.2]
    exact ⟨_, rfl, owni_nil _ _, HB.out⟩
  | true =>
    have h5 : (matP L).length ≤ 5 := ((relsOk_iff _).1 ho).len.2
    refine (irels_is L ho a cap _ _ rfl HA.out hl).mono ?_
    rintro e w1 ⟨k, o, rfl, b1, hk⟩
    obtain ⟨rfl, b, rfl, hR⟩ := hk rfl
    obtain ⟨N, hN⟩ : ∃ N, (matP L).length = N := ⟨_, rfl⟩
    obtain ⟨hb2, hc, _⟩ := rbox w1 N b
    rw [hN]
    obtain ⟨W, hW⟩ : ∃ W, w1.alloc (.cells #[.int .i64 (N : Int), .map (some b)] 50) = W := ⟨_, rfl⟩
    rw [hW] at hb2 hc
    have HB := Lib.hid (next b1 hb2)
    have HR := Lib.hid (hR.below hb2)
    obtain ⟨c0, c1⟩ := hc
    have HN := Lib.hid hN
    have H5 := Lib.hid h5
    have HZ := Lib.hid ((relsOrder_ordP ho).symm.trans HX.out)
    clear b1 hR hk hb2 hN h5
    go_wp2_with fail
    refine (rorder_is (matP L) H5.out HZ.out N b _ HN.out.symm HR.out).mono ?_
    rintro e w2 ⟨v, rfl, hI⟩
    obtain ⟨ta, tc, rfl, _, _⟩ := OwnI.tab hI.1
    have HI := Lib.hid (hvi_box HB.out hI)
    clear hI
    go_wp2_with fail
    refine bodyPost_ret (v := .tuple #[.slice ta U.length tc, .bool x]) (by simp [results, Try.results26, go_sem]) rfl ?_
    exact ⟨_, rfl, HI.out⟩
set_option maxRecDepth 100000 in
theorem irelsfree_is (L : List IR) {z : Bool} (hz : relsFree (matP L) = z) (a : Option Addr) (cap n : Nat) (w : World) (hn : n = L.length) (hA : MatA w a L) (hl : L.length ≤ 2000000) :
    Calls Try.prog 28 #[.slice a n cap] w fun e w' => e = .returned (.bool z) ∧ Below w.heap.size w w' := by
  obtain ⟨U, x, hU⟩ : ∃ U x, relsOrder (matP L) = (U, x) := ⟨_, _, rfl⟩
  have hx : x = z := by have := relsOrder_free (matP L); rw [hU, hz] at this; exact this
  subst hx
  have HU := Lib.hid hU
  have HA := Lib.hid hA
  have HN := Lib.hid hn
  clear hU hA hz hn
  go_enter Try.func28, Try.ntmps28
  go_wp2_with fail
  refine (irelsorder_is L HU.out a cap _ _ HN.out HA.out hl).mono ?_
  rintro e w2 ⟨v, rfl, hI⟩
  obtain ⟨ta, tc, rfl, _, _⟩ := OwnI.tab hI.1
  have HB := Lib.hid hI.2
  clear hI
  go_wp2_with fail
  go_ret
  exact ⟨rfl, HB.out⟩
set_option maxRecDepth 100000 in
set_option maxHeartbeats 2000000 in
theorem srelsorder_is (L : List IR) {U : List Int} {x : Bool} (hz : relsOrder (matP L) = (U, x)) (a : Option Addr) (cap n : Nat) (w : World) (hn : n = L.length) (hA : MatA w a L) (hl : L.length ≤ 2000000) :
    Calls Try.prog 25 #[.slice a n cap] w fun e w' => ∃ v, e = .returned (.tuple #[v, .bool x]) ∧ HvI w U v w' := by
  subst hn
  have HA := Lib.hid hA
  clear hA
  go_enter Try.func25, Try.ntmps25
  go_wp2_with fail
  cases hf : relsFree (matP L) with
  | false =>
    have hux : U = [] ∧ x = false := by rw [relsOrder, hf] at hz; simpa [eq_comm] using hz
    obtain ⟨rfl, rfl⟩ := hux
    have HF := Lib.hid hf
    clear hf hz
    refine (srelsfree_is L HF.out a cap _ _ rfl HA.out hl).mono ?_
    rintro e w1 ⟨rfl, b1⟩
    have HI := Lib.hid (show HvI w [] (.slice (some ⟨w1.heap.size, 0, none⟩) 0 0) (w1.alloc (.cells #[] 3)) from ⟨owni_empty w1 w.heap.size b1.size, b1.alloc b1.size _⟩)
    clear b1
    go_wp2_with fail
    refine bodyPost_ret (v := .tuple #[.slice (some ⟨w1.heap.size, 0, none⟩) 0 0, .bool false]) (by simp [results, Try.results25, go_sem]) rfl ⟨_, rfl, HI.out⟩
  | true =>
    have hux : orderM (matP L) = U ∧ true = x := by rw [relsOrder, hf] at hz; simpa using hz
    obtain ⟨hU, rfl⟩ := hux
    have HG := Lib.hid ((relsFree_iff _).1 hf).1
    have HF := Lib.hid hf
    have HU := Lib.hid hU
    clear hf hz hU
    refine (srelsfree_is L HF.out a cap _ _ rfl HA.out hl).mono ?_
    rintro e w1 ⟨rfl, b1⟩
    have HB := Lib.hid b1
    have HA1 := Lib.hid (HA.out.below b1)
    clear b1
    go_wp2_with fail
    refine (sorder_is L HG.out HU.out a cap _ _ rfl HA1.out).mono ?_
    rintro e w2 ⟨v, rfl, hI⟩
    obtain ⟨ta, tc, rfl, _, _⟩ := OwnI.tab hI.1
    have HI := Lib.hid (hvi_box HB.out hI)
    clear hI
    go_wp2_with fail
    refine bodyPost_ret (v := .tuple #[.slice ta U.length tc, .bool true]) (by simp [results, Try.results25, go_sem]) rfl ⟨_, rfl, HI.out⟩
end Go.Proofs.Ytnljcppefnaapaa
