/-
  The exact law of RelsOrder: the walk.
-/
import Derived.Test.YtnljcppefnaapaaHoXa
import Derived.Test.YtnljcppefnaapaaHoMk
namespace Go.Proofs.Ytnljcppefnaapaa
open Go.RowKit
set_option linter.unusedSimpArgs false
set_option linter.unusedVariables false

theorem relsOrder_small {M : Mat} {U : List Int} {x : Bool} (h : relsOrder M = (U, x)) : U.length ≤ M.length := by
  unfold relsOrder at h
  split at h
  · simp only [Prod.mk.injEq] at h; rw [← h.1]; exact orderM_le M
  · simp only [Prod.mk.injEq] at h; rw [← h.1]; simp
set_option maxRecDepth 100000 in
set_option maxHeartbeats 4000000 in
theorem exactRelsOrder_walk (a0 : Option Addr) (n0 cap0 : Nat) (L0 : List IR) (w : World) (hn0 : n0 = L0.length) (hA0 : MatA w a0 L0) (hr0 : ∀ x ∈ L0, x.P.length ≤ 9223372036854775807) (hl0 : n0 ≤ 9223372036854775807) :
    Calls Try.prog 16 #[.slice a0 n0 cap0] w fun e w' => e = .returned (.bool true) ∧ Below w.heap.size w w' := by
  subst hn0
  have HB0 := Lib.hid (Below.refl w.heap.size w)
  have Aq_0 := Lib.hid hA0
  clear hA0
  go_enter Try.func16, Try.ntmps16
  go_wp2_with fail
  refine (szss_any L0 a0 cap0 _ _ rfl Aq_0.out hl0 hr0).mono ?_
  rintro en w0 ⟨z, rfl, hz, rfl⟩
  by_cases hneg : z < 0
  · go_wp2_with fail
    go_ret
    exact ⟨rfl, HB0.out⟩
  obtain ⟨hl1, hs⟩ := hz (by omega)
  have HS := Lib.hid hs
  clear hs hz hr0
  obtain ⟨U, x, hy⟩ : ∃ U x, relsOrder (matP L0) = (U, x) := ⟨_, _, rfl⟩
  have hUl : U.length ≤ 1048576 := by have := relsOrder_small hy; rw [matP_len] at this; omega
  have HY := Lib.hid hy
  have hxx : (x != x) = false := by simp
  clear hy
  go_wp2_with fail
  refine (toss_own L0 a0 cap0 _ _ rfl Aq_0.out hl1 HS.out).mono ?_
  rintro en w1 ⟨Nt, gt, ct, rfl, hp, hm, b⟩
  have HB1 := Lib.hid b
  have At := Lib.hid hp.mat
  have Et := Lib.hid hm
  have lt : Nt.length ≤ 1048576 := by have := congrArg List.length hm; rw [matP_len, matP_len] at this; omega
  clear hp hm b
  go_wp2_with fail
  refine (srelsorder_is Nt (show relsOrder (matP Nt) = (U, x) by rw [Et.out]; exact HY.out) (some ⟨gt, 0, none⟩) ct _ _ rfl At.out (by omega)).mono ?_
  rintro en w2 ⟨v1, rfl, hI⟩
  obtain ⟨ta1, tc1, rfl, _, _⟩ := OwnI.tab hI.1
  have HB2 := Lib.hid (next HB1.out hI.2)
  have O1 := Lib.hid hI.1
  have O1t : Hid (∀ k, (Value.slice ta1 U.length tc1).ownBlock = some k → k < w2.heap.size) := Lib.hid (fun k hk => (hI.1.lt k hk).2)
  have Aq_2 := Lib.hid (Aq_0.out.below HB2.out)
  clear hI At
  go_wp2_with fail
  refine (toss_own L0 a0 cap0 _ _ rfl Aq_2.out hl1 HS.out).mono ?_
  rintro en w3 ⟨Nx, gx, cx, rfl, hp, hm, b⟩
  have HB3 := Lib.hid (next HB2.out b)
  have MX := Lib.hid hp
  have Ex := Lib.hid hm
  have lx : Nx.length ≤ 1048576 := by have := congrArg List.length hm; rw [matP_len, matP_len] at this; omega
  have O1_3 := Lib.hid (owni_later O1.out b)
  have HLT : Hid (∀ y ∈ Nx, ∀ k, y.v.ownBlock = some k → w2.heap.size ≤ k ∧ k < w3.heap.size) := Lib.hid (fun y hy k hk => (hp.own y hy).lt k hk)
  have h23 := b.size
  clear hp hm b O1 Aq_2
  go_wp2_with fail
  refine (irelsorder_is Nx (show relsOrder (matP Nx) = (U, x) by rw [Ex.out]; exact HY.out) (some ⟨gx, 0, none⟩) cx _ _ rfl MX.out.mat (by omega)).mono ?_
  rintro en w4 ⟨v2, rfl, hI⟩
  obtain ⟨ta2, tc2, rfl, _, _⟩ := OwnI.tab hI.1
  have HB4 := Lib.hid (next HB3.out hI.2)
  have O2 := Lib.hid hI.1
  have O2t : Hid (∀ k, (Value.slice ta2 U.length tc2).ownBlock = some k → w3.heap.size ≤ k) := Lib.hid (fun k hk => (hI.1.lt k hk).1)
  have O1_4 := Lib.hid (owni_later O1_3.out hI.2)
  have MX4 := Lib.hid (MX.out.later hI.2)
  clear hI MX O1_3
  go_wp2_with fail
  refine (eqI_is (show decide (U = U) = true from decide_eq_true rfl) ta2 ta1 tc2 tc1 _ _ _ rfl rfl (OwnI.intA O2.out).2.2 (OwnI.intA O1_4.out).2.2 (by omega) (by omega)).mono ?_
  rintro en w5 ⟨rfl, b⟩
  have HB5 := Lib.hid (next HB4.out b)
  have O2_5 := Lib.hid (owni_later O2.out b)
  have O1_5 := Lib.hid (owni_later O1_4.out b)
  have MX5 := Lib.hid (MX4.out.later b)
  have Aq_5 := Lib.hid (Aq_0.out.below HB5.out)
  clear b O2 O1_4 MX4
  go_wp2_with fail
  refine (toss_own L0 a0 cap0 _ _ rfl Aq_5.out hl1 HS.out).mono ?_
  rintro en w6 ⟨Nu, gu, cu, rfl, hp, hm, b⟩
  have HB6 := Lib.hid (next HB5.out b)
  have Au := Lib.hid hp.mat
  have Eu := Lib.hid hm
  have O2_6 := Lib.hid (owni_later O2_5.out b)
  have O1_6 := Lib.hid (owni_later O1_5.out b)
  have MX6 := Lib.hid (MX5.out.later b)
  clear hp hm b O2_5 O1_5 MX5 Aq_5
  go_wp2_with fail
  refine (eqss_is Nx Nu (some ⟨gx, 0, none⟩) (some ⟨gu, 0, none⟩) cx cu _ _ _ rfl rfl MX6.out.mat Au.out (Ex.out.trans Eu.out.symm) (by omega) (fun v hv => by have h1 := mat_small Ex.out HS.out v hv; omega)).mono ?_
  rintro en w7 ⟨rfl, b⟩
  have HB7 := Lib.hid (next HB6.out b)
  have O2_7 := Lib.hid (owni_later O2_6.out b)
  have O1_7 := Lib.hid (owni_later O1_6.out b)
  have MX7 := Lib.hid (MX6.out.later b)
  clear b O2_6 O1_6 MX6 Au
  go_wp2_with fail
  refine (markss_any Nx w2.heap.size gx cx _ MX7.out lx (fun v hv => mat_small Ex.out HS.out v hv)).mono ?_
  rintro en w8 ⟨k, rfl, hk0, T⟩
  have hkn : ¬ k < 0 := by omega
  have O2_8 := Lib.hid (TchX.own O2_7.out T (fun b hb hq => by
    obtain ⟨y, hy, hyb⟩ := hq
    have h1 := (HLT.out y hy b hyb).2
    have h2 := O2t.out b hb
    omega))
  have O1_8 := Lib.hid (TchX.own O1_7.out T (fun b hb hq => by
    obtain ⟨y, hy, hyb⟩ := hq
    have h1 := (HLT.out y hy b hyb).1
    have h2 := O1t.out b hb
    omega))
  have HB8 := Lib.hid (HB7.out.trans (T.below HB7.out.size (fun b hq => by
    obtain ⟨y, hy, hyb⟩ := hq
    have h1 := (HLT.out y hy b hyb).1
    have h2 := HB2.out.size
    omega)))
  clear T hk0 O2_7 O1_7 MX7
  go_wp2_with fail
  refine (eqI_is (show decide (U = U) = true from decide_eq_true rfl) ta2 ta1 tc2 tc1 _ _ _ rfl rfl (OwnI.intA O2_8.out).2.2 (OwnI.intA O1_8.out).2.2 (by omega) (by omega)).mono ?_
  rintro en w9 ⟨rfl, b⟩
  have HB9 := Lib.hid (next HB8.out b)
  have O2_9 := Lib.hid (owni_later O2_8.out b)
  have O1_9 := Lib.hid (owni_later O1_8.out b)
  clear b O2_8 O1_8
  go_wp2_with fail
  refine (pmark_any (.slice ta2 U.length tc2) U w3.heap.size _ O2_9.out (by omega)).mono ?_
  rintro en w10 ⟨rfl, o10, g10⟩
  have hne : (Value.slice ta1 U.length tc1).ownBlock = none ∨ (Value.slice ta1 U.length tc1).ownBlock ≠ (Value.slice ta2 U.length tc2).ownBlock := by
    cases e1 : (Value.slice ta1 U.length tc1).ownBlock with
    | none => exact .inl rfl
    | some k1 => exact .inr (fun q => by have h1 := O1t.out k1 e1; have h2 := O2t.out k1 q.symm; omega)
  have O1_10 := Lib.hid (World.ownsRow.kept O1_9.out g10 hne)
  have HB10 := Lib.hid (HB9.out.grown g10 HB9.out.size (fun k hk => by have h2 := O2t.out k hk; have h3 := HB3.out.size; omega))
  have lU : (pmarkL U.length).length = U.length := pmarkL_len _
  have M10 := Lib.hid (show IntA w10 ta2 (pmarkL U.length) from (OwnI.intA o10).2.2)
  have Aq_10 := Lib.hid (Aq_0.out.below HB10.out)
  have h10 := HB10.out.size
  clear o10 g10 hne lU O1_9 O2_9
  go_wp2_with fail
  refine (pheld_any ta2 tc2 U.length _ M10.out (by omega)).mono ?_
  rintro en wq ⟨rfl, rfl⟩
  have q1 : ¬ (U.length : Int) + 1 < 0 := by omega
  have q2 : ((U.length : Int) + 1 != (U.length : Int) + 1) = false := by simp
  go_wp2_with fail
  refine (toss_own L0 a0 cap0 _ _ rfl Aq_10.out hl1 HS.out).mono ?_
  rintro en w11 ⟨Ny, gy, cy, rfl, hp, hm, b⟩
  have HB11 := Lib.hid (next HB10.out b)
  have Ay := Lib.hid hp.mat
  have Ey := Lib.hid hm
  have ly : Ny.length ≤ 1048576 := by have := congrArg List.length hm; rw [matP_len, matP_len] at this; omega
  have O1_11 := Lib.hid (owni_later O1_10.out b)
  have M11 := Lib.hid (M10.out.below b)
  clear hp hm b O1_10 M10 Aq_10
  go_wp2_with fail
  refine (irelsorder_is Ny (show relsOrder (matP Ny) = (U, x) by rw [Ey.out]; exact HY.out) (some ⟨gy, 0, none⟩) cy _ _ rfl Ay.out (by omega)).mono ?_
  rintro en w12 ⟨v3, rfl, hI⟩
  obtain ⟨ta3, tc3, rfl, _, _⟩ := OwnI.tab hI.1
  have HB12 := Lib.hid (next HB11.out hI.2)
  have O3 := Lib.hid hI.1
  have O1_12 := Lib.hid (owni_later O1_11.out hI.2)
  have M12 := Lib.hid (M11.out.below hI.2)
  clear hI O1_11 M11 Ay
  go_wp2_with fail
  refine (eqI_is (show decide (U = U) = true from decide_eq_true rfl) ta3 ta1 tc3 tc1 _ _ _ rfl rfl (OwnI.intA O3.out).2.2 (OwnI.intA O1_12.out).2.2 (by omega) (by omega)).mono ?_
  rintro en w13 ⟨rfl, b⟩
  have HB13 := Lib.hid (next HB12.out b)
  have M13 := Lib.hid (M12.out.below b)
  clear b M12
  go_wp2_with fail
  refine (pheld_any ta2 tc2 U.length _ M13.out (by omega)).mono ?_
  rintro en wq ⟨rfl, rfl⟩
  go_wp2_with fail
  go_ret
  exact ⟨rfl, HB13.out⟩
end Go.Proofs.Ytnljcppefnaapaa
