/-
  The law that a policy changes no range, and no path: the walk.
-/
import Derived.Test.YthkaaamgkmmeeaaDoorClLl
namespace Go.Proofs.YthkaaamgkmmeeaaDoor
open Go.RowKit
set_option linter.unusedSimpArgs false
set_option linter.unusedVariables false

set_option maxRecDepth 100000 in
set_option maxHeartbeats 4000000 in
theorem lawPolicyWay (a0 : Option Addr) (len0 cap0 : Nat) (zs0 : List Int) (w : World) (h0 : IsRow w a0 len0 cap0 zs0) (p : Addr) (hE : EV w p) (_ : True) :
    Calls Tryd.prog 5 #[.slice a0 len0 cap0] w fun e w' => e = .returned (.bool true) ∧ Below w.heap.size w w' := by
  have H0 := Lib.hid h0
  have HE := Lib.hid hE
  clear h0 hE
  by_cases hl0 : (1048576 : Int) < (len0 : Int)
  · go_enter Tryd.func5, Tryd.ntmps5
    go_wp2_with fail
    go_ret
    exact ⟨rfl, Below.refl _ _⟩
  have HB0 := Lib.hid (Below.refl w.heap.size w)
  go_enter Tryd.func5, Tryd.ntmps5
  go_wp2_with fail
  refine (dPolicyDo_any a0 len0 cap0 zs0 _ (isrow_later H0.out HB0.out)).mono ?_
  rintro en w1 ⟨vc, Lp, fr, br, lr, Pr, Mr, pv, mv, rfl, hlL, oc, ⟨hlPr, hlMr⟩, ⟨o, o2⟩, b⟩
  have HB1 := Lib.hid (HB0.out.trans (b.mono HB0.out.size))
  have hs1 := Lib.hid b.size
  obtain ⟨ap, cp, rfl, _, _⟩ := OwnC.tab oc
  have Cp_1 := Lib.hid (ownc_mono oc HB0.out.size)
  clear oc
  obtain ⟨arp, crp, rfl, _, _⟩ := OwnI.tab o
  obtain ⟨arm, crm, rfl, _, _⟩ := OwnI.tab o2
  have Brp := Lib.hid (OwnI.btw o)
  have Brm := Lib.hid (OwnI.btw o2)
  have Orp_1 := Lib.hid (owni_mono o HB0.out.size)
  have Orm_1 := Lib.hid (owni_mono o2 HB0.out.size)
  clear o o2
  clear b
  have HB2 := Lib.hid (HB1.out.alloc HB1.out.size (.cells #[.int .i64 fr, .int .i64 br, .slice arp (Pr).length crp, .int .i64 lr, .slice arm (Mr).length crm] 29))
  have hs2 := Lib.hid (show w1.heap.size + 1 = (w1.alloc (.cells #[.int .i64 fr, .int .i64 br, .slice arp (Pr).length crp, .int .i64 lr, .slice arm (Mr).length crm] 29)).heap.size by simp)
  have Orp_2 := Lib.hid (World.ownsRow.alloc Orp_1.out (.cells #[.int .i64 fr, .int .i64 br, .slice arp (Pr).length crp, .int .i64 lr, .slice arm (Mr).length crm] 29))
  have Orm_2 := Lib.hid (World.ownsRow.alloc Orm_1.out (.cells #[.int .i64 fr, .int .i64 br, .slice arp (Pr).length crp, .int .i64 lr, .slice arm (Mr).length crm] 29))
  have Cp_2 := Lib.hid (World.ownsRow.alloc Cp_1.out (.cells #[.int .i64 fr, .int .i64 br, .slice arp (Pr).length crp, .int .i64 lr, .slice arm (Mr).length crm] 29))
  have Xr_2 := Lib.hid (At5.new w1 (.int .i64 fr) (.int .i64 br) (.slice arp (Pr).length crp) (.int .i64 lr) (.slice arm (Mr).length crm) 29)
  go_wp2_with fail
  generalize w1.alloc (.cells #[.int .i64 fr, .int .i64 br, .slice arp (Pr).length crp, .int .i64 lr, .slice arm (Mr).length crm] 29) = w2 at *
  obtain ⟨⟨⟨fU, bU, PU, lU, MU⟩, u⟩, hU⟩ : ∃ s, polDo Lp (fr, br, Pr, lr, Mr) = s := ⟨_, rfl⟩
  have hUl : PU.length ≤ 5 ∧ MU.length ≤ 10 := by have := polDo_len Lp (fr, br, Pr, lr, Mr); rw [hU] at this; exact this
  have HU := Lib.hid hU
  have huu : (u != u) = false := by simp
  have hue : (u == u) = true := by simp
  clear hU
  refine (spoldo_is Lp ap _ cp fr br arp crp (Pr) lr arm crm (Mr) HU.out _ rfl (OwnC.cs Cp_2.out) (by omega) ⟨⟨(OwnI.intA Orp_2.out).2.2, (OwnI.intA Orm_2.out).2.2⟩, (OwnI.intA Orp_2.out).2.1, (OwnI.intA Orm_2.out).2.1, by omega, by omega⟩).mono ?_
  rintro en w3 ⟨pv, mv, rfl, S, o, bP, o2, hS, b⟩
  have HB3 := Lib.hid (HB2.out.trans (b.mono HB2.out.size))
  have hs3 := Lib.hid b.size
  have Orp_3 := Lib.hid (owni_later Orp_2.out b)
  have Orm_3 := Lib.hid (owni_later Orm_2.out b)
  have Xr_3 := Lib.hid (At5.below Xr_2.out b)
  have Cp_3 := Lib.hid (ownc_later Cp_2.out b)
  replace o : OwnI w3 w2.heap.size pv PU := o
  replace o2 : OwnI w3 S mv MU := o2
  obtain ⟨awp, cwp, rfl, _, _⟩ := OwnI.tab o
  obtain ⟨awm, cwm, rfl, _, _⟩ := OwnI.tab o2
  have Aw := Lib.hid (apart2 bP o2)
  have Bwp := Lib.hid (OwnI.btw o)
  have Bwm := Lib.hid ((OwnI.btw o2).mono hS (Nat.le_refl _))
  have Owp_3 := Lib.hid (owni_mono o HB2.out.size)
  have Owm_3 := Lib.hid (owni_mono o2 (Nat.le_trans HB2.out.size hS))
  clear o o2 bP hS b
  have HB4 := Lib.hid (HB3.out.alloc HB3.out.size (.cells #[.int .i64 fU, .int .i64 bU, .slice awp (PU).length cwp, .int .i64 lU, .slice awm (MU).length cwm] 29))
  have hs4 := Lib.hid (show w3.heap.size + 1 = (w3.alloc (.cells #[.int .i64 fU, .int .i64 bU, .slice awp (PU).length cwp, .int .i64 lU, .slice awm (MU).length cwm] 29)).heap.size by simp)
  have Orp_4 := Lib.hid (World.ownsRow.alloc Orp_3.out (.cells #[.int .i64 fU, .int .i64 bU, .slice awp (PU).length cwp, .int .i64 lU, .slice awm (MU).length cwm] 29))
  have Orm_4 := Lib.hid (World.ownsRow.alloc Orm_3.out (.cells #[.int .i64 fU, .int .i64 bU, .slice awp (PU).length cwp, .int .i64 lU, .slice awm (MU).length cwm] 29))
  have Owp_4 := Lib.hid (World.ownsRow.alloc Owp_3.out (.cells #[.int .i64 fU, .int .i64 bU, .slice awp (PU).length cwp, .int .i64 lU, .slice awm (MU).length cwm] 29))
  have Owm_4 := Lib.hid (World.ownsRow.alloc Owm_3.out (.cells #[.int .i64 fU, .int .i64 bU, .slice awp (PU).length cwp, .int .i64 lU, .slice awm (MU).length cwm] 29))
  have Xr_4 := Lib.hid (At5.alloc Xr_3.out (.cells #[.int .i64 fU, .int .i64 bU, .slice awp (PU).length cwp, .int .i64 lU, .slice awm (MU).length cwm] 29))
  have Cp_4 := Lib.hid (World.ownsRow.alloc Cp_3.out (.cells #[.int .i64 fU, .int .i64 bU, .slice awp (PU).length cwp, .int .i64 lU, .slice awm (MU).length cwm] 29))
  have Xw_4 := Lib.hid (At5.new w3 (.int .i64 fU) (.int .i64 bU) (.slice awp (PU).length cwp) (.int .i64 lU) (.slice awm (MU).length cwm) 29)
  obtain ⟨⟨qr0, qr1, qr2, qr3, qr4⟩, _⟩ := Xr_4.out
  go_wp2_with fail
  clear qr0 qr1 qr2 qr3 qr4
  generalize w3.alloc (.cells #[.int .i64 fU, .int .i64 bU, .slice awp (PU).length cwp, .int .i64 lU, .slice awm (MU).length cwm] 29) = w4 at *
  refine (ipoldo_is Lp ap _ cp fr br arp crp (Pr) lr arm crm (Mr) HU.out _ p rfl (OwnC.cs Cp_4.out) (by omega) ⟨⟨(OwnI.intA Orp_4.out).2.2, (OwnI.intA Orm_4.out).2.2⟩, (OwnI.intA Orp_4.out).2.1, (OwnI.intA Orm_4.out).2.1, by omega, by omega⟩ (HE.out.below HB4.out)).mono ?_
  rintro en w5 ⟨pv, mv, rfl, S, o, bP, o2, hS, b⟩
  have HB5 := Lib.hid (HB4.out.trans (b.mono HB4.out.size))
  have hs5 := Lib.hid b.size
  have Orp_5 := Lib.hid (owni_later Orp_4.out b)
  have Orm_5 := Lib.hid (owni_later Orm_4.out b)
  have Owp_5 := Lib.hid (owni_later Owp_4.out b)
  have Owm_5 := Lib.hid (owni_later Owm_4.out b)
  have Xr_5 := Lib.hid (At5.below Xr_4.out b)
  have Xw_5 := Lib.hid (At5.below Xw_4.out b)
  have Cp_5 := Lib.hid (ownc_later Cp_4.out b)
  replace o : OwnI w5 w4.heap.size pv PU := o
  replace o2 : OwnI w5 S mv MU := o2
  obtain ⟨axp, cxp, rfl, _, _⟩ := OwnI.tab o
  obtain ⟨axm, cxm, rfl, _, _⟩ := OwnI.tab o2
  have Ax := Lib.hid (apart2 bP o2)
  have Bxp := Lib.hid (OwnI.btw o)
  have Bxm := Lib.hid ((OwnI.btw o2).mono hS (Nat.le_refl _))
  have Oxp_5 := Lib.hid (owni_mono o HB4.out.size)
  have Oxm_5 := Lib.hid (owni_mono o2 (Nat.le_trans HB4.out.size hS))
  clear o o2 bP hS b
  have HB6 := Lib.hid (HB5.out.alloc HB5.out.size (.cells #[.int .i64 fU, .int .i64 bU, .slice axp (PU).length cxp, .int .i64 lU, .slice axm (MU).length cxm] 29))
  have hs6 := Lib.hid (show w5.heap.size + 1 = (w5.alloc (.cells #[.int .i64 fU, .int .i64 bU, .slice axp (PU).length cxp, .int .i64 lU, .slice axm (MU).length cxm] 29)).heap.size by simp)
  have Orp_6 := Lib.hid (World.ownsRow.alloc Orp_5.out (.cells #[.int .i64 fU, .int .i64 bU, .slice axp (PU).length cxp, .int .i64 lU, .slice axm (MU).length cxm] 29))
  have Orm_6 := Lib.hid (World.ownsRow.alloc Orm_5.out (.cells #[.int .i64 fU, .int .i64 bU, .slice axp (PU).length cxp, .int .i64 lU, .slice axm (MU).length cxm] 29))
  have Owp_6 := Lib.hid (World.ownsRow.alloc Owp_5.out (.cells #[.int .i64 fU, .int .i64 bU, .slice axp (PU).length cxp, .int .i64 lU, .slice axm (MU).length cxm] 29))
  have Owm_6 := Lib.hid (World.ownsRow.alloc Owm_5.out (.cells #[.int .i64 fU, .int .i64 bU, .slice axp (PU).length cxp, .int .i64 lU, .slice axm (MU).length cxm] 29))
  have Oxp_6 := Lib.hid (World.ownsRow.alloc Oxp_5.out (.cells #[.int .i64 fU, .int .i64 bU, .slice axp (PU).length cxp, .int .i64 lU, .slice axm (MU).length cxm] 29))
  have Oxm_6 := Lib.hid (World.ownsRow.alloc Oxm_5.out (.cells #[.int .i64 fU, .int .i64 bU, .slice axp (PU).length cxp, .int .i64 lU, .slice axm (MU).length cxm] 29))
  have Xr_6 := Lib.hid (At5.alloc Xr_5.out (.cells #[.int .i64 fU, .int .i64 bU, .slice axp (PU).length cxp, .int .i64 lU, .slice axm (MU).length cxm] 29))
  have Xw_6 := Lib.hid (At5.alloc Xw_5.out (.cells #[.int .i64 fU, .int .i64 bU, .slice axp (PU).length cxp, .int .i64 lU, .slice axm (MU).length cxm] 29))
  have Cp_6 := Lib.hid (World.ownsRow.alloc Cp_5.out (.cells #[.int .i64 fU, .int .i64 bU, .slice axp (PU).length cxp, .int .i64 lU, .slice axm (MU).length cxm] 29))
  have Xx_6 := Lib.hid (At5.new w5 (.int .i64 fU) (.int .i64 bU) (.slice axp (PU).length cxp) (.int .i64 lU) (.slice axm (MU).length cxm) 29)
  obtain ⟨⟨qr0, qr1, qr2, qr3, qr4⟩, _⟩ := Xr_6.out
  obtain ⟨⟨qw0, qw1, qw2, qw3, qw4⟩, _⟩ := Xw_6.out
  go_wp2_with fail
  clear qr0 qr1 qr2 qr3 qr4
  clear qw0 qw1 qw2 qw3 qw4
  generalize w5.alloc (.cells #[.int .i64 fU, .int .i64 bU, .slice axp (PU).length cxp, .int .i64 lU, .slice axm (MU).length cxm] 29) = w6 at *
  refine (lyrt_is fU bU axp cxp (PU) lU axm cxm (MU) fU bU awp cwp (PU) lU awm cwm (MU) (show decide (((fU, bU, PU, lU, MU) : Rt) = (fU, bU, PU, lU, MU)) = true from decide_eq_true rfl) _ ⟨⟨(OwnI.intA Oxp_6.out).2.2, (OwnI.intA Oxm_6.out).2.2⟩, (OwnI.intA Oxp_6.out).2.1, (OwnI.intA Oxm_6.out).2.1, by omega, by omega⟩ ⟨⟨(OwnI.intA Owp_6.out).2.2, (OwnI.intA Owm_6.out).2.2⟩, (OwnI.intA Owp_6.out).2.1, (OwnI.intA Owm_6.out).2.1, by omega, by omega⟩).mono ?_
  rintro en w7 ⟨rfl, b⟩
  have HB7 := Lib.hid (HB6.out.trans (b.mono HB6.out.size))
  have hs7 := Lib.hid b.size
  have Orp_7 := Lib.hid (owni_later Orp_6.out b)
  have Orm_7 := Lib.hid (owni_later Orm_6.out b)
  have Owp_7 := Lib.hid (owni_later Owp_6.out b)
  have Owm_7 := Lib.hid (owni_later Owm_6.out b)
  have Oxp_7 := Lib.hid (owni_later Oxp_6.out b)
  have Oxm_7 := Lib.hid (owni_later Oxm_6.out b)
  have Xr_7 := Lib.hid (At5.below Xr_6.out b)
  have Xw_7 := Lib.hid (At5.below Xw_6.out b)
  have Xx_7 := Lib.hid (At5.below Xx_6.out b)
  have Cp_7 := Lib.hid (ownc_later Cp_6.out b)
  clear b
  cases hp : polOk Lp with
  | false =>
    obtain ⟨⟨qr0, qr1, qr2, qr3, qr4⟩, _⟩ := Xr_7.out
    obtain ⟨⟨qw0, qw1, qw2, qw3, qw4⟩, _⟩ := Xw_7.out
    obtain ⟨⟨qx0, qx1, qx2, qx3, qx4⟩, _⟩ := Xx_7.out
    go_wp2_with fail
    clear qr0 qr1 qr2 qr3 qr4
    clear qw0 qw1 qw2 qw3 qw4
    clear qx0 qx1 qx2 qx3 qx4
    refine (spolok_is Lp hp ap cp _ _ rfl (OwnC.cs Cp_7.out) (by omega)).mono ?_
    rintro en w8 ⟨rfl, b⟩
    have HB8 := Lib.hid (HB7.out.trans (b.mono HB7.out.size))
    have hs8 := Lib.hid b.size
    have Orp_8 := Lib.hid (owni_later Orp_7.out b)
    have Orm_8 := Lib.hid (owni_later Orm_7.out b)
    have Owp_8 := Lib.hid (owni_later Owp_7.out b)
    have Owm_8 := Lib.hid (owni_later Owm_7.out b)
    have Oxp_8 := Lib.hid (owni_later Oxp_7.out b)
    have Oxm_8 := Lib.hid (owni_later Oxm_7.out b)
    have Xr_8 := Lib.hid (At5.below Xr_7.out b)
    have Xw_8 := Lib.hid (At5.below Xw_7.out b)
    have Xx_8 := Lib.hid (At5.below Xx_7.out b)
    have Cp_8 := Lib.hid (ownc_later Cp_7.out b)
    clear b
    obtain ⟨⟨qr0, qr1, qr2, qr3, qr4⟩, _⟩ := Xr_8.out
    obtain ⟨⟨qw0, qw1, qw2, qw3, qw4⟩, _⟩ := Xw_8.out
    obtain ⟨⟨qx0, qx1, qx2, qx3, qx4⟩, _⟩ := Xx_8.out
    go_wp2_with fail
    clear qr0 qr1 qr2 qr3 qr4
    clear qw0 qw1 qw2 qw3 qw4
    clear qx0 qx1 qx2 qx3 qx4
    refine (lyrt_is fU bU axp cxp (PU) lU axm cxm (MU) fU bU awp cwp (PU) lU awm cwm (MU) (show decide (((fU, bU, PU, lU, MU) : Rt) = (fU, bU, PU, lU, MU)) = true from decide_eq_true rfl) _ ⟨⟨(OwnI.intA Oxp_8.out).2.2, (OwnI.intA Oxm_8.out).2.2⟩, (OwnI.intA Oxp_8.out).2.1, (OwnI.intA Oxm_8.out).2.1, by omega, by omega⟩ ⟨⟨(OwnI.intA Owp_8.out).2.2, (OwnI.intA Owm_8.out).2.2⟩, (OwnI.intA Owp_8.out).2.1, (OwnI.intA Owm_8.out).2.1, by omega, by omega⟩).mono ?_
    rintro en w9 ⟨rfl, b⟩
    have HB9 := Lib.hid (HB8.out.trans (b.mono HB8.out.size))
    have hs9 := Lib.hid b.size
    have Orp_9 := Lib.hid (owni_later Orp_8.out b)
    have Orm_9 := Lib.hid (owni_later Orm_8.out b)
    have Owp_9 := Lib.hid (owni_later Owp_8.out b)
    have Owm_9 := Lib.hid (owni_later Owm_8.out b)
    have Oxp_9 := Lib.hid (owni_later Oxp_8.out b)
    have Oxm_9 := Lib.hid (owni_later Oxm_8.out b)
    have Xr_9 := Lib.hid (At5.below Xr_8.out b)
    have Xw_9 := Lib.hid (At5.below Xw_8.out b)
    have Xx_9 := Lib.hid (At5.below Xx_8.out b)
    have Cp_9 := Lib.hid (ownc_later Cp_8.out b)
    clear b
    obtain ⟨⟨qr0, qr1, qr2, qr3, qr4⟩, _⟩ := Xr_9.out
    obtain ⟨⟨qw0, qw1, qw2, qw3, qw4⟩, _⟩ := Xw_9.out
    obtain ⟨⟨qx0, qx1, qx2, qx3, qx4⟩, _⟩ := Xx_9.out
    go_wp2_with fail
    clear qr0 qr1 qr2 qr3 qr4
    clear qw0 qw1 qw2 qw3 qw4
    clear qx0 qx1 qx2 qx3 qx4
    go_ret
    exact ⟨rfl, HB9.out⟩
  | true =>
    obtain ⟨⟨qr0, qr1, qr2, qr3, qr4⟩, _⟩ := Xr_7.out
    obtain ⟨⟨qw0, qw1, qw2, qw3, qw4⟩, _⟩ := Xw_7.out
    obtain ⟨⟨qx0, qx1, qx2, qx3, qx4⟩, _⟩ := Xx_7.out
    go_wp2_with fail
    clear qr0 qr1 qr2 qr3 qr4
    clear qw0 qw1 qw2 qw3 qw4
    clear qx0 qx1 qx2 qx3 qx4
    refine (spolok_is Lp hp ap cp _ _ rfl (OwnC.cs Cp_7.out) (by omega)).mono ?_
    rintro en w8 ⟨rfl, b⟩
    have HB8 := Lib.hid (HB7.out.trans (b.mono HB7.out.size))
    have hs8 := Lib.hid b.size
    have Orp_8 := Lib.hid (owni_later Orp_7.out b)
    have Orm_8 := Lib.hid (owni_later Orm_7.out b)
    have Owp_8 := Lib.hid (owni_later Owp_7.out b)
    have Owm_8 := Lib.hid (owni_later Owm_7.out b)
    have Oxp_8 := Lib.hid (owni_later Oxp_7.out b)
    have Oxm_8 := Lib.hid (owni_later Oxm_7.out b)
    have Xr_8 := Lib.hid (At5.below Xr_7.out b)
    have Xw_8 := Lib.hid (At5.below Xw_7.out b)
    have Xx_8 := Lib.hid (At5.below Xx_7.out b)
    have Cp_8 := Lib.hid (ownc_later Cp_7.out b)
    clear b
    cases hr : rtOk (fr, br, Pr, lr, Mr) with
    | false =>
      obtain ⟨⟨qr0, qr1, qr2, qr3, qr4⟩, _⟩ := Xr_8.out
      obtain ⟨⟨qw0, qw1, qw2, qw3, qw4⟩, _⟩ := Xw_8.out
      obtain ⟨⟨qx0, qx1, qx2, qx3, qx4⟩, _⟩ := Xx_8.out
      go_wp2_with fail
      clear qr0 qr1 qr2 qr3 qr4
      clear qw0 qw1 qw2 qw3 qw4
      clear qx0 qx1 qx2 qx3 qx4
      refine (srok_is fr br arp crp (Pr) lr arm crm (Mr) hr _ ⟨⟨(OwnI.intA Orp_8.out).2.2, (OwnI.intA Orm_8.out).2.2⟩, (OwnI.intA Orp_8.out).2.1, (OwnI.intA Orm_8.out).2.1, by omega, by omega⟩).mono ?_
      rintro en w9 ⟨rfl, b⟩
      have HB9 := Lib.hid (HB8.out.trans (b.mono HB8.out.size))
      have hs9 := Lib.hid b.size
      have Orp_9 := Lib.hid (owni_later Orp_8.out b)
      have Orm_9 := Lib.hid (owni_later Orm_8.out b)
      have Owp_9 := Lib.hid (owni_later Owp_8.out b)
      have Owm_9 := Lib.hid (owni_later Owm_8.out b)
      have Oxp_9 := Lib.hid (owni_later Oxp_8.out b)
      have Oxm_9 := Lib.hid (owni_later Oxm_8.out b)
      have Xr_9 := Lib.hid (At5.below Xr_8.out b)
      have Xw_9 := Lib.hid (At5.below Xw_8.out b)
      have Xx_9 := Lib.hid (At5.below Xx_8.out b)
      have Cp_9 := Lib.hid (ownc_later Cp_8.out b)
      clear b
      obtain ⟨⟨qr0, qr1, qr2, qr3, qr4⟩, _⟩ := Xr_9.out
      obtain ⟨⟨qw0, qw1, qw2, qw3, qw4⟩, _⟩ := Xw_9.out
      obtain ⟨⟨qx0, qx1, qx2, qx3, qx4⟩, _⟩ := Xx_9.out
      go_wp2_with fail
      clear qr0 qr1 qr2 qr3 qr4
      clear qw0 qw1 qw2 qw3 qw4
      clear qx0 qx1 qx2 qx3 qx4
      refine (lyrt_is fU bU axp cxp (PU) lU axm cxm (MU) fU bU awp cwp (PU) lU awm cwm (MU) (show decide (((fU, bU, PU, lU, MU) : Rt) = (fU, bU, PU, lU, MU)) = true from decide_eq_true rfl) _ ⟨⟨(OwnI.intA Oxp_9.out).2.2, (OwnI.intA Oxm_9.out).2.2⟩, (OwnI.intA Oxp_9.out).2.1, (OwnI.intA Oxm_9.out).2.1, by omega, by omega⟩ ⟨⟨(OwnI.intA Owp_9.out).2.2, (OwnI.intA Owm_9.out).2.2⟩, (OwnI.intA Owp_9.out).2.1, (OwnI.intA Owm_9.out).2.1, by omega, by omega⟩).mono ?_
      rintro en w10 ⟨rfl, b⟩
      have HB10 := Lib.hid (HB9.out.trans (b.mono HB9.out.size))
      have hs10 := Lib.hid b.size
      have Orp_10 := Lib.hid (owni_later Orp_9.out b)
      have Orm_10 := Lib.hid (owni_later Orm_9.out b)
      have Owp_10 := Lib.hid (owni_later Owp_9.out b)
      have Owm_10 := Lib.hid (owni_later Owm_9.out b)
      have Oxp_10 := Lib.hid (owni_later Oxp_9.out b)
      have Oxm_10 := Lib.hid (owni_later Oxm_9.out b)
      have Xr_10 := Lib.hid (At5.below Xr_9.out b)
      have Xw_10 := Lib.hid (At5.below Xw_9.out b)
      have Xx_10 := Lib.hid (At5.below Xx_9.out b)
      have Cp_10 := Lib.hid (ownc_later Cp_9.out b)
      clear b
      obtain ⟨⟨qr0, qr1, qr2, qr3, qr4⟩, _⟩ := Xr_10.out
      obtain ⟨⟨qw0, qw1, qw2, qw3, qw4⟩, _⟩ := Xw_10.out
      obtain ⟨⟨qx0, qx1, qx2, qx3, qx4⟩, _⟩ := Xx_10.out
      go_wp2_with fail
      clear qr0 qr1 qr2 qr3 qr4
      clear qw0 qw1 qw2 qw3 qw4
      clear qx0 qx1 qx2 qx3 qx4
      go_ret
      exact ⟨rfl, HB10.out⟩
    | true =>
      obtain ⟨⟨qr0, qr1, qr2, qr3, qr4⟩, _⟩ := Xr_8.out
      obtain ⟨⟨qw0, qw1, qw2, qw3, qw4⟩, _⟩ := Xw_8.out
      obtain ⟨⟨qx0, qx1, qx2, qx3, qx4⟩, _⟩ := Xx_8.out
      go_wp2_with fail
      clear qr0 qr1 qr2 qr3 qr4
      clear qw0 qw1 qw2 qw3 qw4
      clear qx0 qx1 qx2 qx3 qx4
      refine (srok_is fr br arp crp (Pr) lr arm crm (Mr) hr _ ⟨⟨(OwnI.intA Orp_8.out).2.2, (OwnI.intA Orm_8.out).2.2⟩, (OwnI.intA Orp_8.out).2.1, (OwnI.intA Orm_8.out).2.1, by omega, by omega⟩).mono ?_
      rintro en w9 ⟨rfl, b⟩
      have HB9 := Lib.hid (HB8.out.trans (b.mono HB8.out.size))
      have hs9 := Lib.hid b.size
      have Orp_9 := Lib.hid (owni_later Orp_8.out b)
      have Orm_9 := Lib.hid (owni_later Orm_8.out b)
      have Owp_9 := Lib.hid (owni_later Owp_8.out b)
      have Owm_9 := Lib.hid (owni_later Owm_8.out b)
      have Oxp_9 := Lib.hid (owni_later Oxp_8.out b)
      have Oxm_9 := Lib.hid (owni_later Oxm_8.out b)
      have Xr_9 := Lib.hid (At5.below Xr_8.out b)
      have Xw_9 := Lib.hid (At5.below Xw_8.out b)
      have Xx_9 := Lib.hid (At5.below Xx_8.out b)
      have Cp_9 := Lib.hid (ownc_later Cp_8.out b)
      clear b
      cases u with
      | false =>
        obtain ⟨⟨qr0, qr1, qr2, qr3, qr4⟩, _⟩ := Xr_9.out
        obtain ⟨⟨qx0, qx1, qx2, qx3, qx4⟩, _⟩ := Xx_9.out
        go_wp2_with fail
        clear qr0 qr1 qr2 qr3 qr4
        clear qx0 qx1 qx2 qx3 qx4
        go_ret
        exact ⟨rfl, HB9.out⟩
      | true =>
        obtain ⟨e1, e2, e3, hok⟩ := polDo_good HU.out
        have HQ := eqlRg fU bU fr br
        have hd : decide (fU = fr ∧ bU = br) = true := decide_eq_true ⟨e1, e2⟩
        simp only [hd] at HQ
        have hpp : decide (PU = Pr) = true := decide_eq_true e3
        have HOK := Lib.hid hok
        clear e1 e2 e3 hok hd
        obtain ⟨⟨qr0, qr1, qr2, qr3, qr4⟩, _⟩ := Xr_9.out
        obtain ⟨⟨qx0, qx1, qx2, qx3, qx4⟩, _⟩ := Xx_9.out
        go_wp2_with fail
        clear qr0 qr1 qr2 qr3 qr4
        clear qx0 qx1 qx2 qx3 qx4
        refine (lyI_is hpp axp arp cxp crp _ _ _ rfl rfl (OwnI.intA Oxp_9.out).2.2 (OwnI.intA Orp_9.out).2.2 (by omega) (by omega)).mono ?_
        rintro en w10 ⟨rfl, b⟩
        have HB10 := Lib.hid (HB9.out.trans (b.mono HB9.out.size))
        have hs10 := Lib.hid b.size
        have Orp_10 := Lib.hid (owni_later Orp_9.out b)
        have Orm_10 := Lib.hid (owni_later Orm_9.out b)
        have Oxp_10 := Lib.hid (owni_later Oxp_9.out b)
        have Oxm_10 := Lib.hid (owni_later Oxm_9.out b)
        have Xr_10 := Lib.hid (At5.below Xr_9.out b)
        have Xx_10 := Lib.hid (At5.below Xx_9.out b)
        have Cp_10 := Lib.hid (ownc_later Cp_9.out b)
        clear b
        obtain ⟨⟨qr0, qr1, qr2, qr3, qr4⟩, _⟩ := Xr_10.out
        obtain ⟨⟨qx0, qx1, qx2, qx3, qx4⟩, _⟩ := Xx_10.out
        go_wp2_with fail
        clear qr0 qr1 qr2 qr3 qr4
        clear qx0 qx1 qx2 qx3 qx4
        refine (irok_is fU bU axp cxp (PU) lU axm cxm (MU) HOK.out _ p ⟨⟨(OwnI.intA Oxp_10.out).2.2, (OwnI.intA Oxm_10.out).2.2⟩, (OwnI.intA Oxp_10.out).2.1, (OwnI.intA Oxm_10.out).2.1, by omega, by omega⟩ (HE.out.below HB10.out)).mono ?_
        rintro en w11 ⟨rfl, b⟩
        have HB11 := Lib.hid (HB10.out.trans (b.mono HB10.out.size))
        have hs11 := Lib.hid b.size
        have Orp_11 := Lib.hid (owni_later Orp_10.out b)
        have Orm_11 := Lib.hid (owni_later Orm_10.out b)
        have Oxp_11 := Lib.hid (owni_later Oxp_10.out b)
        have Oxm_11 := Lib.hid (owni_later Oxm_10.out b)
        have Xr_11 := Lib.hid (At5.below Xr_10.out b)
        have Xx_11 := Lib.hid (At5.below Xx_10.out b)
        have Cp_11 := Lib.hid (ownc_later Cp_10.out b)
        clear b
        obtain ⟨⟨qr0, qr1, qr2, qr3, qr4⟩, _⟩ := Xr_11.out
        obtain ⟨⟨qx0, qx1, qx2, qx3, qx4⟩, _⟩ := Xx_11.out
        go_wp2_with fail
        clear qr0 qr1 qr2 qr3 qr4
        clear qx0 qx1 qx2 qx3 qx4
        go_ret
        exact ⟨rfl, HB11.out⟩

end Go.Proofs.YthkaaamgkmmeeaaDoor
