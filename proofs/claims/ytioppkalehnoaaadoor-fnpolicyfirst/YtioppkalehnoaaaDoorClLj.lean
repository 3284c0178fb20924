/-
  The law that a clause ahead of all counts first: the walk.
-/
import Derived.Test.YtioppkalehnoaaaDoorClLl
import Derived.Test.YtioppkalehnoaaaDoorClHd
import Derived.Test.YtioppkalehnoaaaDoorRtVs
namespace Go.Proofs.YtioppkalehnoaaaDoor
open Go.RowKit
set_option linter.unusedSimpArgs false
set_option linter.unusedVariables false

theorem firstC_house (h : Int) (Lp : List CL) (r : Rt) : firstC (⟨4, h, 0, 0, true, -1, 0, 0⟩ :: Lp) r = if h ∈ r.2.2.1 then (zRt, false) else firstC Lp r := by
  rw [firstC]
  by_cases hh : h ∈ r.2.2.1
  · simp [fitsC, applyC, hh]
  · simp [fitsC, hh]
theorem polDo_house {Lp : List CL} {f b l : Int} {P M : List Int} {h : Int} (hp : polOk Lp = true) (hr : rtOk (f, b, P, l, M) = true) (hl : Lp.length ≤ 4) (h1 : 1 ≤ h ∧ h ≤ 5) : polDo ([⟨4, h, 0, 0, true, -1, 0, 0⟩] ++ Lp) (f, b, P, l, M) = if h ∈ P then (zRt, false) else polDo Lp (f, b, P, l, M) := by
  have hc : clOk ⟨4, h, 0, 0, true, -1, 0, 0⟩ = true := by
    simp [clOk, condOk, doOk, noR, isH, isM0]; omega
  have hp2 : polOk ([⟨4, h, 0, 0, true, -1, 0, 0⟩] ++ Lp) = true := by
    rw [polOk_iff] at hp ⊢
    refine ⟨by simp; omega, fun c hc2 => ?_⟩
    rcases List.mem_append.1 hc2 with k | k
    · obtain rfl : c = _ := by simpa using k
      exact hc
    · exact hp.2 c k
  rw [polDo_yes hp2 hr, polDo_yes hp hr]
  exact firstC_house h Lp (f, b, P, l, M)
set_option maxRecDepth 100000 in
set_option maxHeartbeats 4000000 in
theorem lawPolicyFirst (a0 : Option Addr) (len0 cap0 : Nat) (zs0 : List Int) (a1 : Option Addr) (len1 cap1 : Nat) (zs1 : List Int) (w : World) (h0 : IsRow w a0 len0 cap0 zs0) (h1 : IsRow w a1 len1 cap1 zs1) (p : Addr) (hE : EV w p) (_ : True) :
    Calls Tryd.prog 10 #[.slice a0 len0 cap0, .slice a1 len1 cap1] w fun e w' => e = .returned (.bool true) ∧ Below w.heap.size w w' := by
  have H0 := Lib.hid h0
  have H1 := Lib.hid h1
  have HE := Lib.hid hE
  clear h0 hE h1
  by_cases hl0 : (1048576 : Int) < (len0 : Int)
  · go_enter Tryd.func10, Tryd.ntmps10
    go_wp2_with fail
    go_ret
    exact ⟨rfl, Below.refl _ _⟩
  by_cases hl1 : (1048576 : Int) < (len1 : Int)
  · go_enter Tryd.func10, Tryd.ntmps10
    go_wp2_with fail
    go_ret
    exact ⟨rfl, Below.refl _ _⟩
  have HB0 := Lib.hid (Below.refl w.heap.size w)
  go_enter Tryd.func10, Tryd.ntmps10
  go_wp2_with fail
  refine (dPolicyDo_any a0 len0 cap0 zs0 _ (isrow_later H0.out HB0.out)).mono ?_
  rintro en w1 ⟨vc, Lp, fr, br, lr, Pr, Mr, pv, mv, rfl, hlL, oc, ⟨hlPr, hlMr⟩, ⟨o, o2⟩, b⟩
  have HB1 := Lib.hid (HB0.out.trans (b.mono HB0.out.size))
  have hs1 := Lib.hid b.size
  obtain ⟨ap, cp, rfl, _, _⟩ := OwnC.tab oc
  have Cp_1 := Lib.hid (ownc_mono oc HB0.out.size)
  clear oc
  obtain ⟨arp, crp, rfl, _, _⟩ := OwnI.tab o
  obtain ⟨arm, crm, rfl, _, _⟩ := OwnI.tab o2
  have Brp := Lib.hid (OwnI.btw o)
  have Brm := Lib.hid (OwnI.btw o2)
  have Orp_1 := Lib.hid (owni_mono o HB0.out.size)
  have Orm_1 := Lib.hid (owni_mono o2 HB0.out.size)
  clear o o2
  clear b
  have HB2 := Lib.hid (HB1.out.alloc HB1.out.size (.cells #[.int .i64 fr, .int .i64 br, .slice arp (Pr).length crp, .int .i64 lr, .slice arm (Mr).length crm] 36))
  have hs2 := Lib.hid (show w1.heap.size + 1 = (w1.alloc (.cells #[.int .i64 fr, .int .i64 br, .slice arp (Pr).length crp, .int .i64 lr, .slice arm (Mr).length crm] 36)).heap.size by simp)
  have Orp_2 := Lib.hid (World.ownsRow.alloc Orp_1.out (.cells #[.int .i64 fr, .int .i64 br, .slice arp (Pr).length crp, .int .i64 lr, .slice arm (Mr).length crm] 36))
  have Orm_2 := Lib.hid (World.ownsRow.alloc Orm_1.out (.cells #[.int .i64 fr, .int .i64 br, .slice arp (Pr).length crp, .int .i64 lr, .slice arm (Mr).length crm] 36))
  have Cp_2 := Lib.hid (World.ownsRow.alloc Cp_1.out (.cells #[.int .i64 fr, .int .i64 br, .slice arp (Pr).length crp, .int .i64 lr, .slice arm (Mr).length crm] 36))
  have Xr_2 := Lib.hid (At5.new w1 (.int .i64 fr) (.int .i64 br) (.slice arp (Pr).length crp) (.int .i64 lr) (.slice arm (Mr).length crm) 36)
  go_wp2_with fail
  generalize w1.alloc (.cells #[.int .i64 fr, .int .i64 br, .slice arp (Pr).length crp, .int .i64 lr, .slice arm (Mr).length crm] 36) = w2 at *
  obtain ⟨⟨⟨fU, bU, PU, lU, MU⟩, u⟩, hU⟩ : ∃ s, polDo Lp (fr, br, Pr, lr, Mr) = s := ⟨_, rfl⟩
  have hUl : PU.length ≤ 5 ∧ MU.length ≤ 10 := by have := polDo_len Lp (fr, br, Pr, lr, Mr); rw [hU] at this; exact this
  have HU := Lib.hid hU
  have huu : (u != u) = false := by simp
  have hue : (u == u) = true := by simp
  clear hU
  refine (spoldo_is Lp ap _ cp fr br arp crp (Pr) lr arm crm (Mr) HU.out _ rfl (OwnC.cs Cp_2.out) (by omega) ⟨⟨(OwnI.intA Orp_2.out).2.2, (OwnI.intA Orm_2.out).2.2⟩, (OwnI.intA Orp_2.out).2.1, (OwnI.intA Orm_2.out).2.1, by omega, by omega⟩).mono ?_
  rintro en w3 ⟨pv, mv, rfl, S, o, bP, o2, hS, b⟩
  have HB3 := Lib.hid (HB2.out.trans (b.mono HB2.out.size))
  have hs3 := Lib.hid b.size
  have Orp_3 := Lib.hid (owni_later Orp_2.out b)
  have Orm_3 := Lib.hid (owni_later Orm_2.out b)
  have Xr_3 := Lib.hid (At5.below Xr_2.out b)
  have Cp_3 := Lib.hid (ownc_later Cp_2.out b)
  replace o : OwnI w3 w2.heap.size pv PU := o
  replace o2 : OwnI w3 S mv MU := o2
  obtain ⟨awp, cwp, rfl, _, _⟩ := OwnI.tab o
  obtain ⟨awm, cwm, rfl, _, _⟩ := OwnI.tab o2
  have Aw := Lib.hid (apart2 bP o2)
  have Bwp := Lib.hid (OwnI.btw o)
  have Bwm := Lib.hid ((OwnI.btw o2).mono hS (Nat.le_refl _))
  have Owp_3 := Lib.hid (owni_mono o HB2.out.size)
  have Owm_3 := Lib.hid (owni_mono o2 (Nat.le_trans HB2.out.size hS))
  clear o o2 bP hS b
  have HB4 := Lib.hid (HB3.out.alloc HB3.out.size (.cells #[.int .i64 fU, .int .i64 bU, .slice awp (PU).length cwp, .int .i64 lU, .slice awm (MU).length cwm] 36))
  have hs4 := Lib.hid (show w3.heap.size + 1 = (w3.alloc (.cells #[.int .i64 fU, .int .i64 bU, .slice awp (PU).length cwp, .int .i64 lU, .slice awm (MU).length cwm] 36)).heap.size by simp)
  have Orp_4 := Lib.hid (World.ownsRow.alloc Orp_3.out (.cells #[.int .i64 fU, .int .i64 bU, .slice awp (PU).length cwp, .int .i64 lU, .slice awm (MU).length cwm] 36))
  have Orm_4 := Lib.hid (World.ownsRow.alloc Orm_3.out (.cells #[.int .i64 fU, .int .i64 bU, .slice awp (PU).length cwp, .int .i64 lU, .slice awm (MU).length cwm] 36))
  have Owp_4 := Lib.hid (World.ownsRow.alloc Owp_3.out (.cells #[.int .i64 fU, .int .i64 bU, .slice awp (PU).length cwp, .int .i64 lU, .slice awm (MU).length cwm] 36))
  have Owm_4 := Lib.hid (World.ownsRow.alloc Owm_3.out (.cells #[.int .i64 fU, .int .i64 bU, .slice awp (PU).length cwp, .int .i64 lU, .slice awm (MU).length cwm] 36))
  have Xr_4 := Lib.hid (At5.alloc Xr_3.out (.cells #[.int .i64 fU, .int .i64 bU, .slice awp (PU).length cwp, .int .i64 lU, .slice awm (MU).length cwm] 36))
  have Cp_4 := Lib.hid (World.ownsRow.alloc Cp_3.out (.cells #[.int .i64 fU, .int .i64 bU, .slice awp (PU).length cwp, .int .i64 lU, .slice awm (MU).length cwm] 36))
  have Xw_4 := Lib.hid (At5.new w3 (.int .i64 fU) (.int .i64 bU) (.slice awp (PU).length cwp) (.int .i64 lU) (.slice awm (MU).length cwm) 36)
  obtain ⟨⟨qr0, qr1, qr2, qr3, qr4⟩, _⟩ := Xr_4.out
  go_wp2_with fail
  clear qr0 qr1 qr2 qr3 qr4
  generalize w3.alloc (.cells #[.int .i64 fU, .int .i64 bU, .slice awp (PU).length cwp, .int .i64 lU, .slice awm (MU).length cwm] 36) = w4 at *
  refine (ipoldo_is Lp ap _ cp fr br arp crp (Pr) lr arm crm (Mr) HU.out _ p rfl (OwnC.cs Cp_4.out) (by omega) ⟨⟨(OwnI.intA Orp_4.out).2.2, (OwnI.intA Orm_4.out).2.2⟩, (OwnI.intA Orp_4.out).2.1, (OwnI.intA Orm_4.out).2.1, by omega, by omega⟩ (HE.out.below HB4.out)).mono ?_
  rintro en w5 ⟨pv, mv, rfl, S, o, bP, o2, hS, b⟩
  have HB5 := Lib.hid (HB4.out.trans (b.mono HB4.out.size))
  have hs5 := Lib.hid b.size
  have Orp_5 := Lib.hid (owni_later Orp_4.out b)
  have Orm_5 := Lib.hid (owni_later Orm_4.out b)
  have Owp_5 := Lib.hid (owni_later Owp_4.out b)
  have Owm_5 := Lib.hid (owni_later Owm_4.out b)
  have Xr_5 := Lib.hid (At5.below Xr_4.out b)
  have Xw_5 := Lib.hid (At5.below Xw_4.out b)
  have Cp_5 := Lib.hid (ownc_later Cp_4.out b)
  replace o : OwnI w5 w4.heap.size pv PU := o
  replace o2 : OwnI w5 S mv MU := o2
  obtain ⟨axp, cxp, rfl, _, _⟩ := OwnI.tab o
  obtain ⟨axm, cxm, rfl, _, _⟩ := OwnI.tab o2
  have Ax := Lib.hid (apart2 bP o2)
  have Bxp := Lib.hid (OwnI.btw o)
  have Bxm := Lib.hid ((OwnI.btw o2).mono hS (Nat.le_refl _))
  have Oxp_5 := Lib.hid (owni_mono o HB4.out.size)
  have Oxm_5 := Lib.hid (owni_mono o2 (Nat.le_trans HB4.out.size hS))
  clear o o2 bP hS b
  have HB6 := Lib.hid (HB5.out.alloc HB5.out.size (.cells #[.int .i64 fU, .int .i64 bU, .slice axp (PU).length cxp, .int .i64 lU, .slice axm (MU).length cxm] 36))
  have hs6 := Lib.hid (show w5.heap.size + 1 = (w5.alloc (.cells #[.int .i64 fU, .int .i64 bU, .slice axp (PU).length cxp, .int .i64 lU, .slice axm (MU).length cxm] 36)).heap.size by simp)
  have Orp_6 := Lib.hid (World.ownsRow.alloc Orp_5.out (.cells #[.int .i64 fU, .int .i64 bU, .slice axp (PU).length cxp, .int .i64 lU, .slice axm (MU).length cxm] 36))
  have Orm_6 := Lib.hid (World.ownsRow.alloc Orm_5.out (.cells #[.int .i64 fU, .int .i64 bU, .slice axp (PU).length cxp, .int .i64 lU, .slice axm (MU).length cxm] 36))
  have Owp_6 := Lib.hid (World.ownsRow.alloc Owp_5.out (.cells #[.int .i64 fU, .int .i64 bU, .slice axp (PU).length cxp, .int .i64 lU, .slice axm (MU).length cxm] 36))
  have Owm_6 := Lib.hid (World.ownsRow.alloc Owm_5.out (.cells #[.int .i64 fU, .int .i64 bU, .slice axp (PU).length cxp, .int .i64 lU, .slice axm (MU).length cxm] 36))
  have Oxp_6 := Lib.hid (World.ownsRow.alloc Oxp_5.out (.cells #[.int .i64 fU, .int .i64 bU, .slice axp (PU).length cxp, .int .i64 lU, .slice axm (MU).length cxm] 36))
  have Oxm_6 := Lib.hid (World.ownsRow.alloc Oxm_5.out (.cells #[.int .i64 fU, .int .i64 bU, .slice axp (PU).length cxp, .int .i64 lU, .slice axm (MU).length cxm] 36))
  have Xr_6 := Lib.hid (At5.alloc Xr_5.out (.cells #[.int .i64 fU, .int .i64 bU, .slice axp (PU).length cxp, .int .i64 lU, .slice axm (MU).length cxm] 36))
  have Xw_6 := Lib.hid (At5.alloc Xw_5.out (.cells #[.int .i64 fU, .int .i64 bU, .slice axp (PU).length cxp, .int .i64 lU, .slice axm (MU).length cxm] 36))
  have Cp_6 := Lib.hid (World.ownsRow.alloc Cp_5.out (.cells #[.int .i64 fU, .int .i64 bU, .slice axp (PU).length cxp, .int .i64 lU, .slice axm (MU).length cxm] 36))
  have Xx_6 := Lib.hid (At5.new w5 (.int .i64 fU) (.int .i64 bU) (.slice axp (PU).length cxp) (.int .i64 lU) (.slice axm (MU).length cxm) 36)
  obtain ⟨⟨qr0, qr1, qr2, qr3, qr4⟩, _⟩ := Xr_6.out
  obtain ⟨⟨qw0, qw1, qw2, qw3, qw4⟩, _⟩ := Xw_6.out
  go_wp2_with fail
  clear qr0 qr1 qr2 qr3 qr4
  clear qw0 qw1 qw2 qw3 qw4
  generalize w5.alloc (.cells #[.int .i64 fU, .int .i64 bU, .slice axp (PU).length cxp, .int .i64 lU, .slice axm (MU).length cxm] 36) = w6 at *
  refine (lyrt_is fU bU axp cxp (PU) lU axm cxm (MU) fU bU awp cwp (PU) lU awm cwm (MU) (show decide (((fU, bU, PU, lU, MU) : Rt) = (fU, bU, PU, lU, MU)) = true from decide_eq_true rfl) _ ⟨⟨(OwnI.intA Oxp_6.out).2.2, (OwnI.intA Oxm_6.out).2.2⟩, (OwnI.intA Oxp_6.out).2.1, (OwnI.intA Oxm_6.out).2.1, by omega, by omega⟩ ⟨⟨(OwnI.intA Owp_6.out).2.2, (OwnI.intA Owm_6.out).2.2⟩, (OwnI.intA Owp_6.out).2.1, (OwnI.intA Owm_6.out).2.1, by omega, by omega⟩).mono ?_
  rintro en w7 ⟨rfl, b⟩
  have HB7 := Lib.hid (HB6.out.trans (b.mono HB6.out.size))
  have hs7 := Lib.hid b.size
  have Orp_7 := Lib.hid (owni_later Orp_6.out b)
  have Orm_7 := Lib.hid (owni_later Orm_6.out b)
  have Owp_7 := Lib.hid (owni_later Owp_6.out b)
  have Owm_7 := Lib.hid (owni_later Owm_6.out b)
  have Oxp_7 := Lib.hid (owni_later Oxp_6.out b)
  have Oxm_7 := Lib.hid (owni_later Oxm_6.out b)
  have Xr_7 := Lib.hid (At5.below Xr_6.out b)
  have Xw_7 := Lib.hid (At5.below Xw_6.out b)
  have Xx_7 := Lib.hid (At5.below Xx_6.out b)
  have Cp_7 := Lib.hid (ownc_later Cp_6.out b)
  clear b
  cases hp : polOk Lp with
  | false =>
    obtain ⟨⟨qr0, qr1, qr2, qr3, qr4⟩, _⟩ := Xr_7.out
    obtain ⟨⟨qw0, qw1, qw2, qw3, qw4⟩, _⟩ := Xw_7.out
    obtain ⟨⟨qx0, qx1, qx2, qx3, qx4⟩, _⟩ := Xx_7.out
    go_wp2_with fail
    clear qr0 qr1 qr2 qr3 qr4
    clear qw0 qw1 qw2 qw3 qw4
    clear qx0 qx1 qx2 qx3 qx4
    refine (spolok_is Lp hp ap cp _ _ rfl (OwnC.cs Cp_7.out) (by omega)).mono ?_
    rintro en w8 ⟨rfl, b⟩
    have HB8 := Lib.hid (HB7.out.trans (b.mono HB7.out.size))
    have hs8 := Lib.hid b.size
    have Orp_8 := Lib.hid (owni_later Orp_7.out b)
    have Orm_8 := Lib.hid (owni_later Orm_7.out b)
    have Owp_8 := Lib.hid (owni_later Owp_7.out b)
    have Owm_8 := Lib.hid (owni_later Owm_7.out b)
    have Oxp_8 := Lib.hid (owni_later Oxp_7.out b)
    have Oxm_8 := Lib.hid (owni_later Oxm_7.out b)
    have Xr_8 := Lib.hid (At5.below Xr_7.out b)
    have Xw_8 := Lib.hid (At5.below Xw_7.out b)
    have Xx_8 := Lib.hid (At5.below Xx_7.out b)
    have Cp_8 := Lib.hid (ownc_later Cp_7.out b)
    clear b
    obtain ⟨⟨qr0, qr1, qr2, qr3, qr4⟩, _⟩ := Xr_8.out
    obtain ⟨⟨qw0, qw1, qw2, qw3, qw4⟩, _⟩ := Xw_8.out
    obtain ⟨⟨qx0, qx1, qx2, qx3, qx4⟩, _⟩ := Xx_8.out
    go_wp2_with fail
    clear qr0 qr1 qr2 qr3 qr4
    clear qw0 qw1 qw2 qw3 qw4
    clear qx0 qx1 qx2 qx3 qx4
    refine (lyrt_is fU bU axp cxp (PU) lU axm cxm (MU) fU bU awp cwp (PU) lU awm cwm (MU) (show decide (((fU, bU, PU, lU, MU) : Rt) = (fU, bU, PU, lU, MU)) = true from decide_eq_true rfl) _ ⟨⟨(OwnI.intA Oxp_8.out).2.2, (OwnI.intA Oxm_8.out).2.2⟩, (OwnI.intA Oxp_8.out).2.1, (OwnI.intA Oxm_8.out).2.1, by omega, by omega⟩ ⟨⟨(OwnI.intA Owp_8.out).2.2, (OwnI.intA Owm_8.out).2.2⟩, (OwnI.intA Owp_8.out).2.1, (OwnI.intA Owm_8.out).2.1, by omega, by omega⟩).mono ?_
    rintro en w9 ⟨rfl, b⟩
    have HB9 := Lib.hid (HB8.out.trans (b.mono HB8.out.size))
    have hs9 := Lib.hid b.size
    have Orp_9 := Lib.hid (owni_later Orp_8.out b)
    have Orm_9 := Lib.hid (owni_later Orm_8.out b)
    have Owp_9 := Lib.hid (owni_later Owp_8.out b)
    have Owm_9 := Lib.hid (owni_later Owm_8.out b)
    have Oxp_9 := Lib.hid (owni_later Oxp_8.out b)
    have Oxm_9 := Lib.hid (owni_later Oxm_8.out b)
    have Xr_9 := Lib.hid (At5.below Xr_8.out b)
    have Xw_9 := Lib.hid (At5.below Xw_8.out b)
    have Xx_9 := Lib.hid (At5.below Xx_8.out b)
    have Cp_9 := Lib.hid (ownc_later Cp_8.out b)
    clear b
    obtain ⟨⟨qr0, qr1, qr2, qr3, qr4⟩, _⟩ := Xr_9.out
    obtain ⟨⟨qw0, qw1, qw2, qw3, qw4⟩, _⟩ := Xw_9.out
    obtain ⟨⟨qx0, qx1, qx2, qx3, qx4⟩, _⟩ := Xx_9.out
    go_wp2_with fail
    clear qr0 qr1 qr2 qr3 qr4
    clear qw0 qw1 qw2 qw3 qw4
    clear qx0 qx1 qx2 qx3 qx4
    go_ret
    exact ⟨rfl, HB9.out⟩
  | true =>
    obtain ⟨⟨qr0, qr1, qr2, qr3, qr4⟩, _⟩ := Xr_7.out
    obtain ⟨⟨qw0, qw1, qw2, qw3, qw4⟩, _⟩ := Xw_7.out
    obtain ⟨⟨qx0, qx1, qx2, qx3, qx4⟩, _⟩ := Xx_7.out
    go_wp2_with fail
    clear qr0 qr1 qr2 qr3 qr4
    clear qw0 qw1 qw2 qw3 qw4
    clear qx0 qx1 qx2 qx3 qx4
    refine (spolok_is Lp hp ap cp _ _ rfl (OwnC.cs Cp_7.out) (by omega)).mono ?_
    rintro en w8 ⟨rfl, b⟩
    have HB8 := Lib.hid (HB7.out.trans (b.mono HB7.out.size))
    have hs8 := Lib.hid b.size
    have Orp_8 := Lib.hid (owni_later Orp_7.out b)
    have Orm_8 := Lib.hid (owni_later Orm_7.out b)
    have Owp_8 := Lib.hid (owni_later Owp_7.out b)
    have Owm_8 := Lib.hid (owni_later Owm_7.out b)
    have Oxp_8 := Lib.hid (owni_later Oxp_7.out b)
    have Oxm_8 := Lib.hid (owni_later Oxm_7.out b)
    have Xr_8 := Lib.hid (At5.below Xr_7.out b)
    have Xw_8 := Lib.hid (At5.below Xw_7.out b)
    have Xx_8 := Lib.hid (At5.below Xx_7.out b)
    have Cp_8 := Lib.hid (ownc_later Cp_7.out b)
    clear b
    cases hr : rtOk (fr, br, Pr, lr, Mr) with
    | false =>
      obtain ⟨⟨qr0, qr1, qr2, qr3, qr4⟩, _⟩ := Xr_8.out
      obtain ⟨⟨qw0, qw1, qw2, qw3, qw4⟩, _⟩ := Xw_8.out
      obtain ⟨⟨qx0, qx1, qx2, qx3, qx4⟩, _⟩ := Xx_8.out
      go_wp2_with fail
      clear qr0 qr1 qr2 qr3 qr4
      clear qw0 qw1 qw2 qw3 qw4
      clear qx0 qx1 qx2 qx3 qx4
      refine (srok_is fr br arp crp (Pr) lr arm crm (Mr) hr _ ⟨⟨(OwnI.intA Orp_8.out).2.2, (OwnI.intA Orm_8.out).2.2⟩, (OwnI.intA Orp_8.out).2.1, (OwnI.intA Orm_8.out).2.1, by omega, by omega⟩).mono ?_
      rintro en w9 ⟨rfl, b⟩
      have HB9 := Lib.hid (HB8.out.trans (b.mono HB8.out.size))
      have hs9 := Lib.hid b.size
      have Orp_9 := Lib.hid (owni_later Orp_8.out b)
      have Orm_9 := Lib.hid (owni_later Orm_8.out b)
      have Owp_9 := Lib.hid (owni_later Owp_8.out b)
      have Owm_9 := Lib.hid (owni_later Owm_8.out b)
      have Oxp_9 := Lib.hid (owni_later Oxp_8.out b)
      have Oxm_9 := Lib.hid (owni_later Oxm_8.out b)
      have Xr_9 := Lib.hid (At5.below Xr_8.out b)
      have Xw_9 := Lib.hid (At5.below Xw_8.out b)
      have Xx_9 := Lib.hid (At5.below Xx_8.out b)
      have Cp_9 := Lib.hid (ownc_later Cp_8.out b)
      clear b
      obtain ⟨⟨qr0, qr1, qr2, qr3, qr4⟩, _⟩ := Xr_9.out
      obtain ⟨⟨qw0, qw1, qw2, qw3, qw4⟩, _⟩ := Xw_9.out
      obtain ⟨⟨qx0, qx1, qx2, qx3, qx4⟩, _⟩ := Xx_9.out
      go_wp2_with fail
      clear qr0 qr1 qr2 qr3 qr4
      clear qw0 qw1 qw2 qw3 qw4
      clear qx0 qx1 qx2 qx3 qx4
      refine (lyrt_is fU bU axp cxp (PU) lU axm cxm (MU) fU bU awp cwp (PU) lU awm cwm (MU) (show decide (((fU, bU, PU, lU, MU) : Rt) = (fU, bU, PU, lU, MU)) = true from decide_eq_true rfl) _ ⟨⟨(OwnI.intA Oxp_9.out).2.2, (OwnI.intA Oxm_9.out).2.2⟩, (OwnI.intA Oxp_9.out).2.1, (OwnI.intA Oxm_9.out).2.1, by omega, by omega⟩ ⟨⟨(OwnI.intA Owp_9.out).2.2, (OwnI.intA Owm_9.out).2.2⟩, (OwnI.intA Owp_9.out).2.1, (OwnI.intA Owm_9.out).2.1, by omega, by omega⟩).mono ?_
      rintro en w10 ⟨rfl, b⟩
      have HB10 := Lib.hid (HB9.out.trans (b.mono HB9.out.size))
      have hs10 := Lib.hid b.size
      have Orp_10 := Lib.hid (owni_later Orp_9.out b)
      have Orm_10 := Lib.hid (owni_later Orm_9.out b)
      have Owp_10 := Lib.hid (owni_later Owp_9.out b)
      have Owm_10 := Lib.hid (owni_later Owm_9.out b)
      have Oxp_10 := Lib.hid (owni_later Oxp_9.out b)
      have Oxm_10 := Lib.hid (owni_later Oxm_9.out b)
      have Xr_10 := Lib.hid (At5.below Xr_9.out b)
      have Xw_10 := Lib.hid (At5.below Xw_9.out b)
      have Xx_10 := Lib.hid (At5.below Xx_9.out b)
      have Cp_10 := Lib.hid (ownc_later Cp_9.out b)
      clear b
      obtain ⟨⟨qr0, qr1, qr2, qr3, qr4⟩, _⟩ := Xr_10.out
      obtain ⟨⟨qw0, qw1, qw2, qw3, qw4⟩, _⟩ := Xw_10.out
      obtain ⟨⟨qx0, qx1, qx2, qx3, qx4⟩, _⟩ := Xx_10.out
      go_wp2_with fail
      clear qr0 qr1 qr2 qr3 qr4
      clear qw0 qw1 qw2 qw3 qw4
      clear qx0 qx1 qx2 qx3 qx4
      go_ret
      exact ⟨rfl, HB10.out⟩
    | true =>
      obtain ⟨⟨qr0, qr1, qr2, qr3, qr4⟩, _⟩ := Xr_8.out
      obtain ⟨⟨qw0, qw1, qw2, qw3, qw4⟩, _⟩ := Xw_8.out
      obtain ⟨⟨qx0, qx1, qx2, qx3, qx4⟩, _⟩ := Xx_8.out
      go_wp2_with fail
      clear qr0 qr1 qr2 qr3 qr4
      clear qw0 qw1 qw2 qw3 qw4
      clear qx0 qx1 qx2 qx3 qx4
      refine (srok_is fr br arp crp (Pr) lr arm crm (Mr) hr _ ⟨⟨(OwnI.intA Orp_8.out).2.2, (OwnI.intA Orm_8.out).2.2⟩, (OwnI.intA Orp_8.out).2.1, (OwnI.intA Orm_8.out).2.1, by omega, by omega⟩).mono ?_
      rintro en w9 ⟨rfl, b⟩
      have HB9 := Lib.hid (HB8.out.trans (b.mono HB8.out.size))
      have hs9 := Lib.hid b.size
      have Orp_9 := Lib.hid (owni_later Orp_8.out b)
      have Orm_9 := Lib.hid (owni_later Orm_8.out b)
      have Owp_9 := Lib.hid (owni_later Owp_8.out b)
      have Owm_9 := Lib.hid (owni_later Owm_8.out b)
      have Oxp_9 := Lib.hid (owni_later Oxp_8.out b)
      have Oxm_9 := Lib.hid (owni_later Oxm_8.out b)
      have Xr_9 := Lib.hid (At5.below Xr_8.out b)
      have Xw_9 := Lib.hid (At5.below Xw_8.out b)
      have Xx_9 := Lib.hid (At5.below Xx_8.out b)
      have Cp_9 := Lib.hid (ownc_later Cp_8.out b)
      clear b
      have h5 : ((Lp.length : Int) == 5) = false := by simp; omega
      have t1 : (len1 : Int).tmod 5 = ((len1 % 5 : Nat) : Int) := by rw [Int.tmod_eq_emod_of_nonneg (by omega)]; omega
      have hr5 : len1 % 5 < 5 := by omega
      generalize len1 % 5 = s at *
      have hw : IntKind.i64.wrap (1 + (s : Int)) = 1 + (s : Int) := by rw [IntKind.wrap_i64]; omega
      have HL2 : Hid (∃ L2 : List CL, L2 = [⟨4, 1 + (s : Int), 0, 0, true, -1, 0, 0⟩] ++ Lp) := Lib.hid ⟨_, rfl⟩
      obtain ⟨L2, hL2⟩ := HL2.out
      have h2l : L2.length ≤ 5 := by rw [hL2]; simp; omega
      have HL := Lib.hid hL2
      obtain ⟨⟨⟨fV, bV, PV, lV, MV⟩, uV⟩, hV⟩ : ∃ z, polDo L2 (fr, br, Pr, lr, Mr) = z := ⟨_, rfl⟩
      have hVl : PV.length ≤ 5 ∧ MV.length ≤ 10 := by have := polDo_len L2 (fr, br, Pr, lr, Mr); rw [hV] at this; exact this
      have HV := Lib.hid hV
      have HC : Hid (polDo L2 (fr, br, Pr, lr, Mr) = if (1 + (s : Int)) ∈ Pr then (zRt, false) else ((fU, bU, PU, lU, MU), u)) := Lib.hid (by rw [hL2, ← HU.out]; exact polDo_house hp hr (by omega) (by omega))
      have HPo := Lib.hid ((rtOk_iff _).1 hr).path
      clear hL2 hV HL2
      obtain ⟨⟨qx0, qx1, qx2, qx3, qx4⟩, _⟩ := Xx_9.out
      go_upto_region 11 with fail
      clear qx0 qx1 qx2 qx3 qx4
      have HRM : Hid (RtM w9 arp crp Pr arm crm Mr) := Lib.hid ⟨⟨(OwnI.intA Orp_9.out).2.2, (OwnI.intA Orm_9.out).2.2⟩, (OwnI.intA Orp_9.out).2.1, (OwnI.intA Orm_9.out).2.1, by omega, by omega⟩
      go_cut [12, 13] from 14 (fun y one wx => ∃ (Ry : Nat) (ayp : Option Addr) (cyp : Nat) (aym : Option Addr) (cym : Nat), y = .pointer (some ⟨Ry, 0, none⟩) ∧ one = .bool uV ∧ Hid (CutY w9 Ry fV bV lV PV MV ayp cyp aym cym wx))
      case first =>
        refine wp_region_held_drew (S := fun W => ((W.cell? ⟨w1.heap.size, 0, none⟩ = some (.int .i64 fr) ∧ W.cell? ⟨w1.heap.size, 1, none⟩ = some (.int .i64 br) ∧ W.cell? ⟨w1.heap.size, 2, none⟩ = some (.slice arp (Pr).length crp) ∧ W.cell? ⟨w1.heap.size, 3, none⟩ = some (.int .i64 lr) ∧ W.cell? ⟨w1.heap.size, 4, none⟩ = some (.slice arm (Mr).length crm))) ∧ Hid (Below w9.heap.size w9 W)) (by kernel_rfl) ?_ (fun hHeld => ?_)
        · exact ⟨Xr_9.out.1, Lib.hid (Below.refl _ w9).drew⟩
        refine takeH (i := 0) (v := ?_) rfl rfl (by kernel_rfl) (by kernel_rfl) (by kernel_rfl) (fun _ _ _ h => h) (by rfl) ?_ (by assumption) ?_
        rotate_left 1
        · intro w hSw
          (try dsimp only at hSw)
          go_simp
          try with_reducible rfl
        try simp only [List.setIfInBounds_toArray, List.set_cons_zero, List.set_cons_succ]
        refine takeH (i := 1) (v := ?_) rfl rfl (by kernel_rfl) (by kernel_rfl) (by kernel_rfl) (fun _ _ _ h => h) (by rfl) ?_ (by assumption) ?_
        rotate_left 1
        · intro w hSw
          (try dsimp only at hSw)
          go_simp
          try with_reducible rfl
        try simp only [List.setIfInBounds_toArray, List.set_cons_zero, List.set_cons_succ]
        refine takeH (i := 3) (v := ?_) rfl rfl (by kernel_rfl) (by kernel_rfl) (by kernel_rfl) (fun _ _ _ h => h) (by rfl) ?_ (by assumption) ?_
        rotate_left 1
        · intro w hSw
          (try dsimp only at hSw)
          go_simp
          try with_reducible rfl
        try simp only [List.setIfInBounds_toArray, List.set_cons_zero, List.set_cons_succ]
        refine takeH (i := 5) (v := ?_) rfl rfl (by kernel_rfl) (by kernel_rfl) (by kernel_rfl) (fun _ _ _ h => h) (by rfl) ?_ (by assumption) ?_
        rotate_left 1
        · intro w hSw
          (try dsimp only at hSw)
          go_simp
          try with_reducible rfl
        try simp only [List.setIfInBounds_toArray, List.set_cons_zero, List.set_cons_succ]
        refine wpAnyH_ready (rs := [2, 10]) (by kernel_rfl) (by simp) ?_
        refine AllReadyH.cons rfl (fun K hK => ?_) (AllReadyH.cons rfl (fun K hK => ?_) (AllReadyH.nil))
        · generalize w9.drew = wz0 at *
          go_simp
          have be1 : Below wz0.heap.size wz0 (wz0.alloc (.cells #[.int .i64 4, .int .i64 (1 + (s : Int)), .int .i64 0, .int .i64 0, .bool true, .int .i64 (-1), .int .i64 0, .int .i64 0] 33)) := (Below.refl _ _).alloc (Nat.le_refl _) _
          have C_1 := Lib.hid (ownc_one wz0 w9.heap.size hHeld.2.out.size ⟨4, 1 + (s : Int), 0, 0, true, -1, 0, 0⟩)
          change Hid (OwnC (wz0.alloc (.cells #[.int .i64 4, .int .i64 (1 + (s : Int)), .int .i64 0, .int .i64 0, .bool true, .int .i64 (-1), .int .i64 0, .int .i64 0] 33)) _ _ _) at C_1
          generalize wz0.alloc (.cells #[.int .i64 4, .int .i64 (1 + (s : Int)), .int .i64 0, .int .i64 0, .bool true, .int .i64 (-1), .int .i64 0, .int .i64 0] 33) = wz1 at *
          refine hK.out _ _ ?_ (fun hNew => ?_)
          · exact ⟨⟨vcell_far (next hHeld.2.out be1) Xr_9.out.lt Xr_9.out.1.1, vcell_far (next hHeld.2.out be1) Xr_9.out.lt Xr_9.out.1.2.1, vcell_far (next hHeld.2.out be1) Xr_9.out.lt Xr_9.out.1.2.2.1, vcell_far (next hHeld.2.out be1) Xr_9.out.lt Xr_9.out.1.2.2.2.1, vcell_far (next hHeld.2.out be1) Xr_9.out.lt Xr_9.out.1.2.2.2.2⟩, Lib.hid (next hHeld.2.out be1)⟩
          clear hK K hHeld
          have hHeld := hNew
          clear hNew
          try simp only [Act.put, List.setIfInBounds_toArray, List.set_cons_zero, List.set_cons_succ]
          refine wpAnyH_ready (rs := [4, 10]) (by kernel_rfl) (by simp) ?_
          refine AllReadyH.cons rfl (fun K hK => ?_) (AllReadyH.cons rfl (fun K hK => ?_) (AllReadyH.nil))
          · refine wp_appC (.tmp 76) (.tmp 77) rfl w9.heap.size (.slice (some ⟨wz0.heap.size, 0, none⟩) 1 1) [⟨4, 1 + (s : Int), 0, 0, true, -1, 0, 0⟩] (by simp [Act.eval]) C_1.out ap Lp.length cp Lp rfl (by simp [Act.eval]) ((OwnC.cs Cp_9.out).below hHeld.2.out) (by first | omega | (simp; done) | (simp; omega)) hHeld.2.out.size ?_
            intro v2 w902 own2 grow2
            have b2 : Below w9.heap.size w9 w902 := Below.grown hHeld.2.out grow2 hHeld.2.out.size (fun k e => (World.ownsRow.lt C_1.out k e).1)
            rw [← HL.out] at own2
            replace own2 : OwnC w902 w9.heap.size v2 L2 := own2
            obtain ⟨a2, c2, rfl, _, _⟩ := OwnC.tab own2
            have C_2 := Lib.hid own2
            clear own2 grow2
            generalize w902 = wz2 at *
            try simp only [List.getElem_toArray, List.getElem_cons_succ, List.getElem_cons_zero]
            refine hK.out _ _ ?_ (fun hNew => ?_)
            · exact ⟨⟨vcell_far (b2) Xr_9.out.lt Xr_9.out.1.1, vcell_far (b2) Xr_9.out.lt Xr_9.out.1.2.1, vcell_far (b2) Xr_9.out.lt Xr_9.out.1.2.2.1, vcell_far (b2) Xr_9.out.lt Xr_9.out.1.2.2.2.1, vcell_far (b2) Xr_9.out.lt Xr_9.out.1.2.2.2.2⟩, Lib.hid (b2)⟩
            clear hK K hHeld
            have hHeld := hNew
            clear hNew
            try simp only [Act.put, List.setIfInBounds_toArray, List.set_cons_zero, List.set_cons_succ]
            refine wpAnyH_ready (rs := [6, 10]) (by kernel_rfl) (by simp) ?_
            refine AllReadyH.cons rfl (fun K hK => ?_) (AllReadyH.cons rfl (fun K hK => ?_) (AllReadyH.nil))
            · go_simp
              refine (ipoldo_is L2 a2 _ c2 fr br arp crp (Pr) lr arm crm (Mr) HV.out _ p rfl (OwnC.cs C_2.out) (by omega) (HRM.out.below hHeld.2.out) (HE.out.below (HB9.out.trans (hHeld.2.out.mono HB9.out.size)))).mono ?_
              rintro en wz3 ⟨pv, mv, rfl, S, o, bP, o2, hS, b⟩
              replace o : OwnI wz3 wz2.heap.size pv PV := o
              replace o2 : OwnI wz3 S mv MV := o2
              obtain ⟨ayp, cyp, rfl, _, _⟩ := OwnI.tab o
              obtain ⟨aym, cym, rfl, _, _⟩ := OwnI.tab o2
              have C_3 := Lib.hid (ownc_later C_2.out b)
              have P3 := Lib.hid (owni_mono o hHeld.2.out.size)
              have M3 := Lib.hid (owni_mono o2 (Nat.le_trans hHeld.2.out.size hS))
              have b3 := next hHeld.2.out b
              clear o o2 bP hS b
              go_wp2_with fail
              refine hK.out _ _ ?_ (fun hNew => ?_)
              · exact ⟨⟨vcell_far (b3) Xr_9.out.lt Xr_9.out.1.1, vcell_far (b3) Xr_9.out.lt Xr_9.out.1.2.1, vcell_far (b3) Xr_9.out.lt Xr_9.out.1.2.2.1, vcell_far (b3) Xr_9.out.lt Xr_9.out.1.2.2.2.1, vcell_far (b3) Xr_9.out.lt Xr_9.out.1.2.2.2.2⟩, Lib.hid (b3)⟩
              clear hK K hHeld
              have hHeld := hNew
              clear hNew
              try simp only [Act.put, List.setIfInBounds_toArray, List.set_cons_zero, List.set_cons_succ]
              refine takeH (i := 7) (v := ?_) rfl rfl (by kernel_rfl) (by kernel_rfl) (by kernel_rfl) (fun _ _ _ h => h) (by rfl) ?_ (by assumption) ?_
              rotate_left 1
              · intro w hSw
                (try dsimp only at hSw)
                go_simp
                try with_reducible rfl
              try simp only [List.setIfInBounds_toArray, List.set_cons_zero, List.set_cons_succ]
              refine takeH (i := 8) (v := ?_) rfl rfl (by kernel_rfl) (by kernel_rfl) (by kernel_rfl) (fun _ _ _ h => h) (by rfl) ?_ (by assumption) ?_
              rotate_left 1
              · intro w hSw
                (try dsimp only at hSw)
                go_simp
                try with_reducible rfl
              try simp only [List.setIfInBounds_toArray, List.set_cons_zero, List.set_cons_succ]
              refine takeH (i := 9) (v := ?_) rfl rfl (by kernel_rfl) (by kernel_rfl) (by kernel_rfl) (fun _ _ _ h => h) (by rfl) ?_ (by assumption) ?_
              rotate_left 1
              · intro w hSw
                (try dsimp only at hSw)
                go_simp
                try with_reducible rfl
              try simp only [List.setIfInBounds_toArray, List.set_cons_zero, List.set_cons_succ]
              refine wpAnyH_ready (rs := [10]) (by kernel_rfl) (by simp) ?_
              refine AllReadyH.cons rfl (fun K hK => ?_) (AllReadyH.nil)
              go_simp
              have be4 : Below wz3.heap.size wz3 (wz3.alloc (.cells #[.int .i64 0, .int .i64 0, .slice none 0 0, .int .i64 0, .slice none 0 0] 36)) := (Below.refl _ _).alloc (Nat.le_refl _) _
              have C_4 := Lib.hid (ownc_later C_3.out be4)
              have P4 := Lib.hid (owni_later P3.out be4)
              have M4 := Lib.hid (owni_later M3.out be4)
              have Z4 := Lib.hid (ownw_zero wz3 w9.heap.size hHeld.2.out.size)
              generalize wz3.alloc (.cells #[.int .i64 0, .int .i64 0, .slice none 0 0, .int .i64 0, .slice none 0 0] 36) = wz4 at *
              refine hK.out _ _ ?_ (fun hNew => ?_)
              · exact ⟨⟨vcell_far (next hHeld.2.out be4) Xr_9.out.lt Xr_9.out.1.1, vcell_far (next hHeld.2.out be4) Xr_9.out.lt Xr_9.out.1.2.1, vcell_far (next hHeld.2.out be4) Xr_9.out.lt Xr_9.out.1.2.2.1, vcell_far (next hHeld.2.out be4) Xr_9.out.lt Xr_9.out.1.2.2.2.1, vcell_far (next hHeld.2.out be4) Xr_9.out.lt Xr_9.out.1.2.2.2.2⟩, Lib.hid (next hHeld.2.out be4)⟩
              clear hK K hHeld
              have hHeld := hNew
              clear hNew
              try simp only [Act.put, List.setIfInBounds_toArray, List.set_cons_zero, List.set_cons_succ]
              refine wpAnyH_ready (rs := [11]) (by kernel_rfl) (by simp) ?_
              refine AllReadyH.cons rfl (fun K hK => ?_) (AllReadyH.nil)
              refine wp_stA 36 (.tmp 12) (.tmp 81) rfl (wz3.heap.size) #[.int .i64 fV, .int .i64 bV, .slice ayp PV.length cyp, .int .i64 lV, .slice aym MV.length cym] (by simp [Act.eval]) (by simp [Act.eval]) (one5a _ _ _ _ _ _ _ _ _) infoR5 _ (OwnW.atl Z4.out) rfl ?_
              intro wz5 aa gg
              have HF : Hid (CutY w9 (wz3.heap.size) fV bV lV PV MV ayp cyp aym cym wz5) := Lib.hid (CutY.mk' hHeld.2.out Z4.out P4.out M4.out aa gg)
              clear aa gg
              try simp only [List.getElem_toArray, List.getElem_cons_succ, List.getElem_cons_zero]
              refine hK.out _ _ ?_ (fun hNew => ?_)
              · exact ⟨⟨vcell_far (HF.out.bel) Xr_9.out.lt Xr_9.out.1.1, vcell_far (HF.out.bel) Xr_9.out.lt Xr_9.out.1.2.1, vcell_far (HF.out.bel) Xr_9.out.lt Xr_9.out.1.2.2.1, vcell_far (HF.out.bel) Xr_9.out.lt Xr_9.out.1.2.2.2.1, vcell_far (HF.out.bel) Xr_9.out.lt Xr_9.out.1.2.2.2.2⟩, Lib.hid (HF.out.bel)⟩
              clear hK K hHeld
              have hHeld := hNew
              clear hNew
              try simp only [Act.put, List.setIfInBounds_toArray, List.set_cons_zero, List.set_cons_succ]
              refine takeH (i := 12) (v := ?_) rfl rfl (by kernel_rfl) (by kernel_rfl) (by kernel_rfl) (fun _ _ _ h => h) (by rfl) ?_ (by assumption) ?_
              rotate_left 1
              · intro w hSw
                (try dsimp only at hSw)
                go_simp
                try with_reducible rfl
              try simp only [List.setIfInBounds_toArray, List.set_cons_zero, List.set_cons_succ]
              refine wpAnyH_done (by kernel_rfl) ?_ _
              clear hHeld
              go_wp2_with fail
              go_meet
              exact ⟨_, _, _, _, _, rfl, rfl, HF⟩
            · go_simp
              have be3 : Below wz2.heap.size wz2 (wz2.alloc (.cells #[.int .i64 0, .int .i64 0, .slice none 0 0, .int .i64 0, .slice none 0 0] 36)) := (Below.refl _ _).alloc (Nat.le_refl _) _
              have C_3 := Lib.hid (ownc_later C_2.out be3)
              have Z3 := Lib.hid (ownw_zero wz2 w9.heap.size hHeld.2.out.size)
              generalize wz2.alloc (.cells #[.int .i64 0, .int .i64 0, .slice none 0 0, .int .i64 0, .slice none 0 0] 36) = wz3 at *
              refine hK.out _ _ ?_ (fun hNew => ?_)
              · exact ⟨⟨vcell_far (next hHeld.2.out be3) Xr_9.out.lt Xr_9.out.1.1, vcell_far (next hHeld.2.out be3) Xr_9.out.lt Xr_9.out.1.2.1, vcell_far (next hHeld.2.out be3) Xr_9.out.lt Xr_9.out.1.2.2.1, vcell_far (next hHeld.2.out be3) Xr_9.out.lt Xr_9.out.1.2.2.2.1, vcell_far (next hHeld.2.out be3) Xr_9.out.lt Xr_9.out.1.2.2.2.2⟩, Lib.hid (next hHeld.2.out be3)⟩
              clear hK K hHeld
              have hHeld := hNew
              clear hNew
              try simp only [Act.put, List.setIfInBounds_toArray, List.set_cons_zero, List.set_cons_succ]
              refine wpAnyH_ready (rs := [6]) (by kernel_rfl) (by simp) ?_
              refine AllReadyH.cons rfl (fun K hK => ?_) (AllReadyH.nil)
              go_simp
              refine (ipoldo_is L2 a2 _ c2 fr br arp crp (Pr) lr arm crm (Mr) HV.out _ p rfl (OwnC.cs C_3.out) (by omega) (HRM.out.below hHeld.2.out) (HE.out.below (HB9.out.trans (hHeld.2.out.mono HB9.out.size)))).mono ?_
              rintro en wz4 ⟨pv, mv, rfl, S, o, bP, o2, hS, b⟩
              replace o : OwnI wz4 wz3.heap.size pv PV := o
              replace o2 : OwnI wz4 S mv MV := o2
              obtain ⟨ayp, cyp, rfl, _, _⟩ := OwnI.tab o
              obtain ⟨aym, cym, rfl, _, _⟩ := OwnI.tab o2
              have Z4 := Lib.hid (ownw_later Z3.out b)
              have C_4 := Lib.hid (ownc_later C_3.out b)
              have P4 := Lib.hid (owni_mono o hHeld.2.out.size)
              have M4 := Lib.hid (owni_mono o2 (Nat.le_trans hHeld.2.out.size hS))
              have b4 := next hHeld.2.out b
              clear o o2 bP hS b
              go_wp2_with fail
              refine hK.out _ _ ?_ (fun hNew => ?_)
              · exact ⟨⟨vcell_far (b4) Xr_9.out.lt Xr_9.out.1.1, vcell_far (b4) Xr_9.out.lt Xr_9.out.1.2.1, vcell_far (b4) Xr_9.out.lt Xr_9.out.1.2.2.1, vcell_far (b4) Xr_9.out.lt Xr_9.out.1.2.2.2.1, vcell_far (b4) Xr_9.out.lt Xr_9.out.1.2.2.2.2⟩, Lib.hid (b4)⟩
              clear hK K hHeld
              have hHeld := hNew
              clear hNew
              try simp only [Act.put, List.setIfInBounds_toArray, List.set_cons_zero, List.set_cons_succ]
              refine takeH (i := 7) (v := ?_) rfl rfl (by kernel_rfl) (by kernel_rfl) (by kernel_rfl) (fun _ _ _ h => h) (by rfl) ?_ (by assumption) ?_
              rotate_left 1
              · intro w hSw
                (try dsimp only at hSw)
                go_simp
                try with_reducible rfl
              try simp only [List.setIfInBounds_toArray, List.set_cons_zero, List.set_cons_succ]
              refine takeH (i := 8) (v := ?_) rfl rfl (by kernel_rfl) (by kernel_rfl) (by kernel_rfl) (fun _ _ _ h => h) (by rfl) ?_ (by assumption) ?_
              rotate_left 1
              · intro w hSw
                (try dsimp only at hSw)
                go_simp
                try with_reducible rfl
              try simp only [List.setIfInBounds_toArray, List.set_cons_zero, List.set_cons_succ]
              refine takeH (i := 9) (v := ?_) rfl rfl (by kernel_rfl) (by kernel_rfl) (by kernel_rfl) (fun _ _ _ h => h) (by rfl) ?_ (by assumption) ?_
              rotate_left 1
              · intro w hSw
                (try dsimp only at hSw)
                go_simp
                try with_reducible rfl
              try simp only [List.setIfInBounds_toArray, List.set_cons_zero, List.set_cons_succ]
              refine wpAnyH_ready (rs := [11]) (by kernel_rfl) (by simp) ?_
              refine AllReadyH.cons rfl (fun K hK => ?_) (AllReadyH.nil)
              refine wp_stA 36 (.tmp 12) (.tmp 81) rfl (wz2.heap.size) #[.int .i64 fV, .int .i64 bV, .slice ayp PV.length cyp, .int .i64 lV, .slice aym MV.length cym] (by simp [Act.eval]) (by simp [Act.eval]) (one5a _ _ _ _ _ _ _ _ _) infoR5 _ (OwnW.atl Z4.out) rfl ?_
              intro wz5 aa gg
              have HF : Hid (CutY w9 (wz2.heap.size) fV bV lV PV MV ayp cyp aym cym wz5) := Lib.hid (CutY.mk' hHeld.2.out Z4.out P4.out M4.out aa gg)
              clear aa gg
              try simp only [List.getElem_toArray, List.getElem_cons_succ, List.getElem_cons_zero]
              refine hK.out _ _ ?_ (fun hNew => ?_)
              · exact ⟨⟨vcell_far (HF.out.bel) Xr_9.out.lt Xr_9.out.1.1, vcell_far (HF.out.bel) Xr_9.out.lt Xr_9.out.1.2.1, vcell_far (HF.out.bel) Xr_9.out.lt Xr_9.out.1.2.2.1, vcell_far (HF.out.bel) Xr_9.out.lt Xr_9.out.1.2.2.2.1, vcell_far (HF.out.bel) Xr_9.out.lt Xr_9.out.1.2.2.2.2⟩, Lib.hid (HF.out.bel)⟩
              clear hK K hHeld
              have hHeld := hNew
              clear hNew
              try simp only [Act.put, List.setIfInBounds_toArray, List.set_cons_zero, List.set_cons_succ]
              refine takeH (i := 12) (v := ?_) rfl rfl (by kernel_rfl) (by kernel_rfl) (by kernel_rfl) (fun _ _ _ h => h) (by rfl) ?_ (by assumption) ?_
              rotate_left 1
              · intro w hSw
                (try dsimp only at hSw)
                go_simp
                try with_reducible rfl
              try simp only [List.setIfInBounds_toArray, List.set_cons_zero, List.set_cons_succ]
              refine wpAnyH_done (by kernel_rfl) ?_ _
              clear hHeld
              go_wp2_with fail
              go_meet
              exact ⟨_, _, _, _, _, rfl, rfl, HF⟩
          · go_simp
            have be2 : Below wz1.heap.size wz1 (wz1.alloc (.cells #[.int .i64 0, .int .i64 0, .slice none 0 0, .int .i64 0, .slice none 0 0] 36)) := (Below.refl _ _).alloc (Nat.le_refl _) _
            have C_2 := Lib.hid (ownc_later C_1.out be2)
            have Z2 := Lib.hid (ownw_zero wz1 w9.heap.size hHeld.2.out.size)
            generalize wz1.alloc (.cells #[.int .i64 0, .int .i64 0, .slice none 0 0, .int .i64 0, .slice none 0 0] 36) = wz2 at *
            refine hK.out _ _ ?_ (fun hNew => ?_)
            · exact ⟨⟨vcell_far (next hHeld.2.out be2) Xr_9.out.lt Xr_9.out.1.1, vcell_far (next hHeld.2.out be2) Xr_9.out.lt Xr_9.out.1.2.1, vcell_far (next hHeld.2.out be2) Xr_9.out.lt Xr_9.out.1.2.2.1, vcell_far (next hHeld.2.out be2) Xr_9.out.lt Xr_9.out.1.2.2.2.1, vcell_far (next hHeld.2.out be2) Xr_9.out.lt Xr_9.out.1.2.2.2.2⟩, Lib.hid (next hHeld.2.out be2)⟩
            clear hK K hHeld
            have hHeld := hNew
            clear hNew
            try simp only [Act.put, List.setIfInBounds_toArray, List.set_cons_zero, List.set_cons_succ]
            refine wpAnyH_ready (rs := [4]) (by kernel_rfl) (by simp) ?_
            refine AllReadyH.cons rfl (fun K hK => ?_) (AllReadyH.nil)
            refine wp_appC (.tmp 76) (.tmp 77) rfl w9.heap.size (.slice (some ⟨wz0.heap.size, 0, none⟩) 1 1) [⟨4, 1 + (s : Int), 0, 0, true, -1, 0, 0⟩] (by simp [Act.eval]) C_2.out ap Lp.length cp Lp rfl (by simp [Act.eval]) ((OwnC.cs Cp_9.out).below hHeld.2.out) (by first | omega | (simp; done) | (simp; omega)) hHeld.2.out.size ?_
            intro v3 w903 own3 grow3
            have b3 : Below w9.heap.size w9 w903 := Below.grown hHeld.2.out grow3 hHeld.2.out.size (fun k e => (World.ownsRow.lt C_2.out k e).1)
            have Z3 := Lib.hid (World.ownsRow.kept Z2.out grow3 (rows_apart Z2.out C_2.out (by decide)))
            rw [← HL.out] at own3
            replace own3 : OwnC w903 w9.heap.size v3 L2 := own3
            obtain ⟨a3, c3, rfl, _, _⟩ := OwnC.tab own3
            have C_3 := Lib.hid own3
            clear own3 grow3
            generalize w903 = wz3 at *
            try simp only [List.getElem_toArray, List.getElem_cons_succ, List.getElem_cons_zero]
            refine hK.out _ _ ?_ (fun hNew => ?_)
            · exact ⟨⟨vcell_far (b3) Xr_9.out.lt Xr_9.out.1.1, vcell_far (b3) Xr_9.out.lt Xr_9.out.1.2.1, vcell_far (b3) Xr_9.out.lt Xr_9.out.1.2.2.1, vcell_far (b3) Xr_9.out.lt Xr_9.out.1.2.2.2.1, vcell_far (b3) Xr_9.out.lt Xr_9.out.1.2.2.2.2⟩, Lib.hid (b3)⟩
            clear hK K hHeld
            have hHeld := hNew
            clear hNew
            try simp only [Act.put, List.setIfInBounds_toArray, List.set_cons_zero, List.set_cons_succ]
            refine wpAnyH_ready (rs := [6]) (by kernel_rfl) (by simp) ?_
            refine AllReadyH.cons rfl (fun K hK => ?_) (AllReadyH.nil)
            go_simp
            refine (ipoldo_is L2 a3 _ c3 fr br arp crp (Pr) lr arm crm (Mr) HV.out _ p rfl (OwnC.cs C_3.out) (by omega) (HRM.out.below hHeld.2.out) (HE.out.below (HB9.out.trans (hHeld.2.out.mono HB9.out.size)))).mono ?_
            rintro en wz4 ⟨pv, mv, rfl, S, o, bP, o2, hS, b⟩
            replace o : OwnI wz4 wz3.heap.size pv PV := o
            replace o2 : OwnI wz4 S mv MV := o2
            obtain ⟨ayp, cyp, rfl, _, _⟩ := OwnI.tab o
            obtain ⟨aym, cym, rfl, _, _⟩ := OwnI.tab o2
            have Z4 := Lib.hid (ownw_later Z3.out b)
            have C_4 := Lib.hid (ownc_later C_3.out b)
            have P4 := Lib.hid (owni_mono o hHeld.2.out.size)
            have M4 := Lib.hid (owni_mono o2 (Nat.le_trans hHeld.2.out.size hS))
            have b4 := next hHeld.2.out b
            clear o o2 bP hS b
            go_wp2_with fail
            refine hK.out _ _ ?_ (fun hNew => ?_)
            · exact ⟨⟨vcell_far (b4) Xr_9.out.lt Xr_9.out.1.1, vcell_far (b4) Xr_9.out.lt Xr_9.out.1.2.1, vcell_far (b4) Xr_9.out.lt Xr_9.out.1.2.2.1, vcell_far (b4) Xr_9.out.lt Xr_9.out.1.2.2.2.1, vcell_far (b4) Xr_9.out.lt Xr_9.out.1.2.2.2.2⟩, Lib.hid (b4)⟩
            clear hK K hHeld
            have hHeld := hNew
            clear hNew
            try simp only [Act.put, List.setIfInBounds_toArray, List.set_cons_zero, List.set_cons_succ]
            refine takeH (i := 7) (v := ?_) rfl rfl (by kernel_rfl) (by kernel_rfl) (by kernel_rfl) (fun _ _ _ h => h) (by rfl) ?_ (by assumption) ?_
            rotate_left 1
            · intro w hSw
              (try dsimp only at hSw)
              go_simp
              try with_reducible rfl
            try simp only [List.setIfInBounds_toArray, List.set_cons_zero, List.set_cons_succ]
            refine takeH (i := 8) (v := ?_) rfl rfl (by kernel_rfl) (by kernel_rfl) (by kernel_rfl) (fun _ _ _ h => h) (by rfl) ?_ (by assumption) ?_
            rotate_left 1
            · intro w hSw
              (try dsimp only at hSw)
              go_simp
              try with_reducible rfl
            try simp only [List.setIfInBounds_toArray, List.set_cons_zero, List.set_cons_succ]
            refine takeH (i := 9) (v := ?_) rfl rfl (by kernel_rfl) (by kernel_rfl) (by kernel_rfl) (fun _ _ _ h => h) (by rfl) ?_ (by assumption) ?_
            rotate_left 1
            · intro w hSw
              (try dsimp only at hSw)
              go_simp
              try with_reducible rfl
            try simp only [List.setIfInBounds_toArray, List.set_cons_zero, List.set_cons_succ]
            refine wpAnyH_ready (rs := [11]) (by kernel_rfl) (by simp) ?_
            refine AllReadyH.cons rfl (fun K hK => ?_) (AllReadyH.nil)
            refine wp_stA 36 (.tmp 12) (.tmp 81) rfl (wz1.heap.size) #[.int .i64 fV, .int .i64 bV, .slice ayp PV.length cyp, .int .i64 lV, .slice aym MV.length cym] (by simp [Act.eval]) (by simp [Act.eval]) (one5a _ _ _ _ _ _ _ _ _) infoR5 _ (OwnW.atl Z4.out) rfl ?_
            intro wz5 aa gg
            have HF : Hid (CutY w9 (wz1.heap.size) fV bV lV PV MV ayp cyp aym cym wz5) := Lib.hid (CutY.mk' hHeld.2.out Z4.out P4.out M4.out aa gg)
            clear aa gg
            try simp only [List.getElem_toArray, List.getElem_cons_succ, List.getElem_cons_zero]
            refine hK.out _ _ ?_ (fun hNew => ?_)
            · exact ⟨⟨vcell_far (HF.out.bel) Xr_9.out.lt Xr_9.out.1.1, vcell_far (HF.out.bel) Xr_9.out.lt Xr_9.out.1.2.1, vcell_far (HF.out.bel) Xr_9.out.lt Xr_9.out.1.2.2.1, vcell_far (HF.out.bel) Xr_9.out.lt Xr_9.out.1.2.2.2.1, vcell_far (HF.out.bel) Xr_9.out.lt Xr_9.out.1.2.2.2.2⟩, Lib.hid (HF.out.bel)⟩
            clear hK K hHeld
            have hHeld := hNew
            clear hNew
            try simp only [Act.put, List.setIfInBounds_toArray, List.set_cons_zero, List.set_cons_succ]
            refine takeH (i := 12) (v := ?_) rfl rfl (by kernel_rfl) (by kernel_rfl) (by kernel_rfl) (fun _ _ _ h => h) (by rfl) ?_ (by assumption) ?_
            rotate_left 1
            · intro w hSw
              (try dsimp only at hSw)
              go_simp
              try with_reducible rfl
            try simp only [List.setIfInBounds_toArray, List.set_cons_zero, List.set_cons_succ]
            refine wpAnyH_done (by kernel_rfl) ?_ _
            clear hHeld
            go_wp2_with fail
            go_meet
            exact ⟨_, _, _, _, _, rfl, rfl, HF⟩
        · generalize w9.drew = wz0 at *
          go_simp
          have be1 : Below wz0.heap.size wz0 (wz0.alloc (.cells #[.int .i64 0, .int .i64 0, .slice none 0 0, .int .i64 0, .slice none 0 0] 36)) := (Below.refl _ _).alloc (Nat.le_refl _) _
          have Z1 := Lib.hid (ownw_zero wz0 w9.heap.size hHeld.2.out.size)
          generalize wz0.alloc (.cells #[.int .i64 0, .int .i64 0, .slice none 0 0, .int .i64 0, .slice none 0 0] 36) = wz1 at *
          refine hK.out _ _ ?_ (fun hNew => ?_)
          · exact ⟨⟨vcell_far (next hHeld.2.out be1) Xr_9.out.lt Xr_9.out.1.1, vcell_far (next hHeld.2.out be1) Xr_9.out.lt Xr_9.out.1.2.1, vcell_far (next hHeld.2.out be1) Xr_9.out.lt Xr_9.out.1.2.2.1, vcell_far (next hHeld.2.out be1) Xr_9.out.lt Xr_9.out.1.2.2.2.1, vcell_far (next hHeld.2.out be1) Xr_9.out.lt Xr_9.out.1.2.2.2.2⟩, Lib.hid (next hHeld.2.out be1)⟩
          clear hK K hHeld
          have hHeld := hNew
          clear hNew
          try simp only [Act.put, List.setIfInBounds_toArray, List.set_cons_zero, List.set_cons_succ]
          refine wpAnyH_ready (rs := [2]) (by kernel_rfl) (by simp) ?_
          refine AllReadyH.cons rfl (fun K hK => ?_) (AllReadyH.nil)
          go_simp
          have be2 : Below wz1.heap.size wz1 (wz1.alloc (.cells #[.int .i64 4, .int .i64 (1 + (s : Int)), .int .i64 0, .int .i64 0, .bool true, .int .i64 (-1), .int .i64 0, .int .i64 0] 33)) := (Below.refl _ _).alloc (Nat.le_refl _) _
          have Z2 := Lib.hid (ownw_later Z1.out be2)
          have C_2 := Lib.hid (ownc_one wz1 w9.heap.size hHeld.2.out.size ⟨4, 1 + (s : Int), 0, 0, true, -1, 0, 0⟩)
          change Hid (OwnC (wz1.alloc (.cells #[.int .i64 4, .int .i64 (1 + (s : Int)), .int .i64 0, .int .i64 0, .bool true, .int .i64 (-1), .int .i64 0, .int .i64 0] 33)) _ _ _) at C_2
          generalize wz1.alloc (.cells #[.int .i64 4, .int .i64 (1 + (s : Int)), .int .i64 0, .int .i64 0, .bool true, .int .i64 (-1), .int .i64 0, .int .i64 0] 33) = wz2 at *
          refine hK.out _ _ ?_ (fun hNew => ?_)
          · exact ⟨⟨vcell_far (next hHeld.2.out be2) Xr_9.out.lt Xr_9.out.1.1, vcell_far (next hHeld.2.out be2) Xr_9.out.lt Xr_9.out.1.2.1, vcell_far (next hHeld.2.out be2) Xr_9.out.lt Xr_9.out.1.2.2.1, vcell_far (next hHeld.2.out be2) Xr_9.out.lt Xr_9.out.1.2.2.2.1, vcell_far (next hHeld.2.out be2) Xr_9.out.lt Xr_9.out.1.2.2.2.2⟩, Lib.hid (next hHeld.2.out be2)⟩
          clear hK K hHeld
          have hHeld := hNew
          clear hNew
          try simp only [Act.put, List.setIfInBounds_toArray, List.set_cons_zero, List.set_cons_succ]
          refine wpAnyH_ready (rs := [4]) (by kernel_rfl) (by simp) ?_
          refine AllReadyH.cons rfl (fun K hK => ?_) (AllReadyH.nil)
          refine wp_appC (.tmp 76) (.tmp 77) rfl w9.heap.size (.slice (some ⟨wz1.heap.size, 0, none⟩) 1 1) [⟨4, 1 + (s : Int), 0, 0, true, -1, 0, 0⟩] (by simp [Act.eval]) C_2.out ap Lp.length cp Lp rfl (by simp [Act.eval]) ((OwnC.cs Cp_9.out).below hHeld.2.out) (by first | omega | (simp; done) | (simp; omega)) hHeld.2.out.size ?_
          intro v3 w903 own3 grow3
          have b3 : Below w9.heap.size w9 w903 := Below.grown hHeld.2.out grow3 hHeld.2.out.size (fun k e => (World.ownsRow.lt C_2.out k e).1)
          have Z3 := Lib.hid (World.ownsRow.kept Z2.out grow3 (rows_apart Z2.out C_2.out (by decide)))
          rw [← HL.out] at own3
          replace own3 : OwnC w903 w9.heap.size v3 L2 := own3
          obtain ⟨a3, c3, rfl, _, _⟩ := OwnC.tab own3
          have C_3 := Lib.hid own3
          clear own3 grow3
          generalize w903 = wz3 at *
          try simp only [List.getElem_toArray, List.getElem_cons_succ, List.getElem_cons_zero]
          refine hK.out _ _ ?_ (fun hNew => ?_)
          · exact ⟨⟨vcell_far (b3) Xr_9.out.lt Xr_9.out.1.1, vcell_far (b3) Xr_9.out.lt Xr_9.out.1.2.1, vcell_far (b3) Xr_9.out.lt Xr_9.out.1.2.2.1, vcell_far (b3) Xr_9.out.lt Xr_9.out.1.2.2.2.1, vcell_far (b3) Xr_9.out.lt Xr_9.out.1.2.2.2.2⟩, Lib.hid (b3)⟩
          clear hK K hHeld
          have hHeld := hNew
          clear hNew
          try simp only [Act.put, List.setIfInBounds_toArray, List.set_cons_zero, List.set_cons_succ]
          refine wpAnyH_ready (rs := [6]) (by kernel_rfl) (by simp) ?_
          refine AllReadyH.cons rfl (fun K hK => ?_) (AllReadyH.nil)
          go_simp
          refine (ipoldo_is L2 a3 _ c3 fr br arp crp (Pr) lr arm crm (Mr) HV.out _ p rfl (OwnC.cs C_3.out) (by omega) (HRM.out.below hHeld.2.out) (HE.out.below (HB9.out.trans (hHeld.2.out.mono HB9.out.size)))).mono ?_
          rintro en wz4 ⟨pv, mv, rfl, S, o, bP, o2, hS, b⟩
          replace o : OwnI wz4 wz3.heap.size pv PV := o
          replace o2 : OwnI wz4 S mv MV := o2
          obtain ⟨ayp, cyp, rfl, _, _⟩ := OwnI.tab o
          obtain ⟨aym, cym, rfl, _, _⟩ := OwnI.tab o2
          have Z4 := Lib.hid (ownw_later Z3.out b)
          have C_4 := Lib.hid (ownc_later C_3.out b)
          have P4 := Lib.hid (owni_mono o hHeld.2.out.size)
          have M4 := Lib.hid (owni_mono o2 (Nat.le_trans hHeld.2.out.size hS))
          have b4 := next hHeld.2.out b
          clear o o2 bP hS b
          go_wp2_with fail
          refine hK.out _ _ ?_ (fun hNew => ?_)
          · exact ⟨⟨vcell_far (b4) Xr_9.out.lt Xr_9.out.1.1, vcell_far (b4) Xr_9.out.lt Xr_9.out.1.2.1, vcell_far (b4) Xr_9.out.lt Xr_9.out.1.2.2.1, vcell_far (b4) Xr_9.out.lt Xr_9.out.1.2.2.2.1, vcell_far (b4) Xr_9.out.lt Xr_9.out.1.2.2.2.2⟩, Lib.hid (b4)⟩
          clear hK K hHeld
          have hHeld := hNew
          clear hNew
          try simp only [Act.put, List.setIfInBounds_toArray, List.set_cons_zero, List.set_cons_succ]
          refine takeH (i := 7) (v := ?_) rfl rfl (by kernel_rfl) (by kernel_rfl) (by kernel_rfl) (fun _ _ _ h => h) (by rfl) ?_ (by assumption) ?_
          rotate_left 1
          · intro w hSw
            (try dsimp only at hSw)
            go_simp
            try with_reducible rfl
          try simp only [List.setIfInBounds_toArray, List.set_cons_zero, List.set_cons_succ]
          refine takeH (i := 8) (v := ?_) rfl rfl (by kernel_rfl) (by kernel_rfl) (by kernel_rfl) (fun _ _ _ h => h) (by rfl) ?_ (by assumption) ?_
          rotate_left 1
          · intro w hSw
            (try dsimp only at hSw)
            go_simp
            try with_reducible rfl
          try simp only [List.setIfInBounds_toArray, List.set_cons_zero, List.set_cons_succ]
          refine takeH (i := 9) (v := ?_) rfl rfl (by kernel_rfl) (by kernel_rfl) (by kernel_rfl) (fun _ _ _ h => h) (by rfl) ?_ (by assumption) ?_
          rotate_left 1
          · intro w hSw
            (try dsimp only at hSw)
            go_simp
            try with_reducible rfl
          try simp only [List.setIfInBounds_toArray, List.set_cons_zero, List.set_cons_succ]
          refine wpAnyH_ready (rs := [11]) (by kernel_rfl) (by simp) ?_
          refine AllReadyH.cons rfl (fun K hK => ?_) (AllReadyH.nil)
          refine wp_stA 36 (.tmp 12) (.tmp 81) rfl (wz0.heap.size) #[.int .i64 fV, .int .i64 bV, .slice ayp PV.length cyp, .int .i64 lV, .slice aym MV.length cym] (by simp [Act.eval]) (by simp [Act.eval]) (one5a _ _ _ _ _ _ _ _ _) infoR5 _ (OwnW.atl Z4.out) rfl ?_
          intro wz5 aa gg
          have HF : Hid (CutY w9 (wz0.heap.size) fV bV lV PV MV ayp cyp aym cym wz5) := Lib.hid (CutY.mk' hHeld.2.out Z4.out P4.out M4.out aa gg)
          clear aa gg
          try simp only [List.getElem_toArray, List.getElem_cons_succ, List.getElem_cons_zero]
          refine hK.out _ _ ?_ (fun hNew => ?_)
          · exact ⟨⟨vcell_far (HF.out.bel) Xr_9.out.lt Xr_9.out.1.1, vcell_far (HF.out.bel) Xr_9.out.lt Xr_9.out.1.2.1, vcell_far (HF.out.bel) Xr_9.out.lt Xr_9.out.1.2.2.1, vcell_far (HF.out.bel) Xr_9.out.lt Xr_9.out.1.2.2.2.1, vcell_far (HF.out.bel) Xr_9.out.lt Xr_9.out.1.2.2.2.2⟩, Lib.hid (HF.out.bel)⟩
          clear hK K hHeld
          have hHeld := hNew
          clear hNew
          try simp only [Act.put, List.setIfInBounds_toArray, List.set_cons_zero, List.set_cons_succ]
          refine takeH (i := 12) (v := ?_) rfl rfl (by kernel_rfl) (by kernel_rfl) (by kernel_rfl) (fun _ _ _ h => h) (by rfl) ?_ (by assumption) ?_
          rotate_left 1
          · intro w hSw
            (try dsimp only at hSw)
            go_simp
            try with_reducible rfl
          try simp only [List.setIfInBounds_toArray, List.set_cons_zero, List.set_cons_succ]
          refine wpAnyH_done (by kernel_rfl) ?_ _
          clear hHeld
          go_wp2_with fail
          go_meet
          exact ⟨_, _, _, _, _, rfl, rfl, HF⟩
      case rest =>
        obtain ⟨Ry, ayp, cyp, aym, cym, rfl, rfl, HF⟩ := hcut
        have hRy := HF.out.low
        have HB10 := Lib.hid (HB9.out.trans (HF.out.bel.mono HB9.out.size))
        have hs10 := Lib.hid HF.out.bel.size
        have Orp_10 := Lib.hid (owni_later Orp_9.out HF.out.bel)
        have Orm_10 := Lib.hid (owni_later Orm_9.out HF.out.bel)
        have Oxp_10 := Lib.hid (owni_later Oxp_9.out HF.out.bel)
        have Oxm_10 := Lib.hid (owni_later Oxm_9.out HF.out.bel)
        have Xr_10 := Lib.hid (At5.below Xr_9.out HF.out.bel)
        have Xx_10 := Lib.hid (At5.below Xx_9.out HF.out.bel)
        have Cp_10 := Lib.hid (ownc_later Cp_9.out HF.out.bel)
        have Oyp_10 := Lib.hid (owni_mono HF.out.p HB9.out.size)
        have Oym_10 := Lib.hid (owni_mono HF.out.m HB9.out.size)
        have Xy_10 := Lib.hid HF.out.box
        have Byp := Lib.hid (OwnI.btw HF.out.p)
        have Bym := Lib.hid (OwnI.btw HF.out.m)
        clear HF HRM
        generalize wc = w10 at *
        by_cases hin : (1 + (s : Int)) ∈ Pr
        · have hph : pHas Pr (1 + (s : Int)) = true := by rw [pHas_yes HPo.out]; exact decide_eq_true hin
          have HPH := Lib.hid hph
          have hc := HC.out
          rw [HV.out, if_pos hin] at hc
          have huV : uV = false := by simp only [Prod.mk.injEq] at hc; exact hc.2
          subst huV
          clear hc hph hin
          obtain ⟨⟨qr0, qr1, qr2, qr3, qr4⟩, _⟩ := Xr_10.out
          go_wp2_with fail
          clear qr0 qr1 qr2 qr3 qr4
          refine (pihas_is HPH.out arp crp _ _ p rfl (by omega) (OwnI.intA Orp_10.out).2.2 (HE.out.below HB10.out)).mono ?_
          rintro en w11 ⟨rfl, b⟩
          have HB11 := Lib.hid (HB10.out.trans (b.mono HB10.out.size))
          have hs11 := Lib.hid b.size
          have Orp_11 := Lib.hid (owni_later Orp_10.out b)
          have Orm_11 := Lib.hid (owni_later Orm_10.out b)
          have Oxp_11 := Lib.hid (owni_later Oxp_10.out b)
          have Oxm_11 := Lib.hid (owni_later Oxm_10.out b)
          have Oyp_11 := Lib.hid (owni_later Oyp_10.out b)
          have Oym_11 := Lib.hid (owni_later Oym_10.out b)
          have Xr_11 := Lib.hid (At5.below Xr_10.out b)
          have Xx_11 := Lib.hid (At5.below Xx_10.out b)
          have Xy_11 := Lib.hid (At5.below Xy_10.out b)
          have Cp_11 := Lib.hid (ownc_later Cp_10.out b)
          clear b
          go_wp2_with fail
          go_ret
          exact ⟨rfl, HB11.out⟩
        · have hph : pHas Pr (1 + (s : Int)) = false := by rw [pHas_yes HPo.out]; exact decide_eq_false hin
          have HPH := Lib.hid hph
          have hc := HC.out
          rw [HV.out, if_neg hin] at hc
          simp only [Prod.mk.injEq] at hc
          obtain ⟨⟨rfl, rfl, rfl, rfl, rfl⟩, rfl⟩ := hc
          have hue2 : (uV == uV) = true := by simp
          clear hph hin
          obtain ⟨⟨qr0, qr1, qr2, qr3, qr4⟩, _⟩ := Xr_10.out
          go_wp2_with fail
          clear qr0 qr1 qr2 qr3 qr4
          refine (pihas_is HPH.out arp crp _ _ p rfl (by omega) (OwnI.intA Orp_10.out).2.2 (HE.out.below HB10.out)).mono ?_
          rintro en w11 ⟨rfl, b⟩
          have HB11 := Lib.hid (HB10.out.trans (b.mono HB10.out.size))
          have hs11 := Lib.hid b.size
          have Orp_11 := Lib.hid (owni_later Orp_10.out b)
          have Orm_11 := Lib.hid (owni_later Orm_10.out b)
          have Oxp_11 := Lib.hid (owni_later Oxp_10.out b)
          have Oxm_11 := Lib.hid (owni_later Oxm_10.out b)
          have Oyp_11 := Lib.hid (owni_later Oyp_10.out b)
          have Oym_11 := Lib.hid (owni_later Oym_10.out b)
          have Xr_11 := Lib.hid (At5.below Xr_10.out b)
          have Xx_11 := Lib.hid (At5.below Xx_10.out b)
          have Xy_11 := Lib.hid (At5.below Xy_10.out b)
          have Cp_11 := Lib.hid (ownc_later Cp_10.out b)
          clear b
          obtain ⟨⟨qr0, qr1, qr2, qr3, qr4⟩, _⟩ := Xr_11.out
          obtain ⟨⟨qx0, qx1, qx2, qx3, qx4⟩, _⟩ := Xx_11.out
          obtain ⟨⟨qy0, qy1, qy2, qy3, qy4⟩, _⟩ := Xy_11.out
          go_wp2_with fail
          clear qr0 qr1 qr2 qr3 qr4
          clear qx0 qx1 qx2 qx3 qx4
          clear qy0 qy1 qy2 qy3 qy4
          refine (lyrt_is fV bV ayp cyp (PV) lV aym cym (MV) fV bV axp cxp (PV) lV axm cxm (MV) (show decide (((fV, bV, PV, lV, MV) : Rt) = (fV, bV, PV, lV, MV)) = true from decide_eq_true rfl) _ ⟨⟨(OwnI.intA Oyp_11.out).2.2, (OwnI.intA Oym_11.out).2.2⟩, (OwnI.intA Oyp_11.out).2.1, (OwnI.intA Oym_11.out).2.1, by omega, by omega⟩ ⟨⟨(OwnI.intA Oxp_11.out).2.2, (OwnI.intA Oxm_11.out).2.2⟩, (OwnI.intA Oxp_11.out).2.1, (OwnI.intA Oxm_11.out).2.1, by omega, by omega⟩).mono ?_
          rintro en w12 ⟨rfl, b⟩
          have HB12 := Lib.hid (HB11.out.trans (b.mono HB11.out.size))
          have hs12 := Lib.hid b.size
          have Orp_12 := Lib.hid (owni_later Orp_11.out b)
          have Orm_12 := Lib.hid (owni_later Orm_11.out b)
          have Oxp_12 := Lib.hid (owni_later Oxp_11.out b)
          have Oxm_12 := Lib.hid (owni_later Oxm_11.out b)
          have Oyp_12 := Lib.hid (owni_later Oyp_11.out b)
          have Oym_12 := Lib.hid (owni_later Oym_11.out b)
          have Xr_12 := Lib.hid (At5.below Xr_11.out b)
          have Xx_12 := Lib.hid (At5.below Xx_11.out b)
          have Xy_12 := Lib.hid (At5.below Xy_11.out b)
          have Cp_12 := Lib.hid (ownc_later Cp_11.out b)
          clear b
          obtain ⟨⟨qr0, qr1, qr2, qr3, qr4⟩, _⟩ := Xr_12.out
          obtain ⟨⟨qx0, qx1, qx2, qx3, qx4⟩, _⟩ := Xx_12.out
          obtain ⟨⟨qy0, qy1, qy2, qy3, qy4⟩, _⟩ := Xy_12.out
          go_wp2_with fail
          clear qr0 qr1 qr2 qr3 qr4
          clear qx0 qx1 qx2 qx3 qx4
          clear qy0 qy1 qy2 qy3 qy4
          go_ret
          exact ⟨rfl, HB12.out⟩

end Go.Proofs.YtioppkalehnoaaaDoor
