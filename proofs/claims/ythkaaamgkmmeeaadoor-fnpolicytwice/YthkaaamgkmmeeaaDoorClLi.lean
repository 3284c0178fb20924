/-
  The law that what a policy of likes makes is made again: the walk.
-/
import Derived.Test.YthkaaamgkmmeeaaDoorClLl
namespace Go.Proofs.YthkaaamgkmmeeaaDoor
open Go.RowKit
set_option linter.unusedSimpArgs false
set_option linter.unusedVariables false

set_option maxRecDepth 100000 in
set_option maxHeartbeats 4000000 in
theorem lawPolicyTwice (a0 : Option Addr) (len0 cap0 : Nat) (zs0 : List Int) (w : World) (h0 : IsRow w a0 len0 cap0 zs0) (p : Addr) (hE : EV w p) (_ : True) :
    Calls Tryd.prog 8 #[.slice a0 len0 cap0] w fun e w' => e = .returned (.bool true) ∧ Below w.heap.size w w' := by
  have H0 := Lib.hid h0
  have HE := Lib.hid hE
  clear h0 hE
  by_cases hl0 : (1048576 : Int) < (len0 : Int)
  · go_enter Tryd.func8, Tryd.ntmps8
    go_wp2_with fail
    go_ret
    exact ⟨rfl, Below.refl _ _⟩
  have HB0 := Lib.hid (Below.refl w.heap.size w)
  go_enter Tryd.func8, Tryd.ntmps8
  go_wp2_with fail
  refine (dPolicyDo_any a0 len0 cap0 zs0 _ (isrow_later H0.out HB0.out)).mono ?_
  rintro en w1 ⟨vc, Lp, fr, br, lr, Pr, Mr, pv, mv, rfl, hlL, oc, ⟨hlPr, hlMr⟩, ⟨o, o2⟩, b⟩
  have HB1 := Lib.hid (HB0.out.trans (b.mono HB0.out.size))
  have hs1 := Lib.hid b.size
  obtain ⟨ap, cp, rfl, _, _⟩ := OwnC.tab oc
  have Cp_1 := Lib.hid (ownc_mono oc HB0.out.size)
  clear oc
  obtain ⟨arp, crp, rfl, _, _⟩ := OwnI.tab o
  obtain ⟨arm, crm, rfl, _, _⟩ := OwnI.tab o2
  have Brp := Lib.hid (OwnI.btw o)
  have Brm := Lib.hid (OwnI.btw o2)
  have Orp_1 := Lib.hid (owni_mono o HB0.out.size)
  have Orm_1 := Lib.hid (owni_mono o2 HB0.out.size)
  clear o o2
  clear b
  have HB2 := Lib.hid (HB1.out.alloc HB1.out.size (.cells #[.int .i64 fr, .int .i64 br, .slice arp (Pr).length crp, .int .i64 lr, .slice arm (Mr).length crm] 29))
  have hs2 := Lib.hid (show w1.heap.size + 1 = (w1.alloc (.cells #[.int .i64 fr, .int .i64 br, .slice arp (Pr).length crp, .int .i64 lr, .slice arm (Mr).length crm] 29)).heap.size by simp)
  have Orp_2 := Lib.hid (World.ownsRow.alloc Orp_1.out (.cells #[.int .i64 fr, .int .i64 br, .slice arp (Pr).length crp, .int .i64 lr, .slice arm (Mr).length crm] 29))
  have Orm_2 := Lib.hid (World.ownsRow.alloc Orm_1.out (.cells #[.int .i64 fr, .int .i64 br, .slice arp (Pr).length crp, .int .i64 lr, .slice arm (Mr).length crm] 29))
  have Cp_2 := Lib.hid (World.ownsRow.alloc Cp_1.out (.cells #[.int .i64 fr, .int .i64 br, .slice arp (Pr).length crp, .int .i64 lr, .slice arm (Mr).length crm] 29))
  have Xr_2 := Lib.hid (At5.new w1 (.int .i64 fr) (.int .i64 br) (.slice arp (Pr).length crp) (.int .i64 lr) (.slice arm (Mr).length crm) 29)
  go_wp2_with fail
  generalize w1.alloc (.cells #[.int .i64 fr, .int .i64 br, .slice arp (Pr).length crp, .int .i64 lr, .slice arm (Mr).length crm] 29) = w2 at *
  obtain ⟨⟨⟨fU, bU, PU, lU, MU⟩, u⟩, hU⟩ : ∃ s, polDo Lp (fr, br, Pr, lr, Mr) = s := ⟨_, rfl⟩
  have hUl : PU.length ≤ 5 ∧ MU.length ≤ 10 := by have := polDo_len Lp (fr, br, Pr, lr, Mr); rw [hU] at this; exact this
  have HU := Lib.hid hU
  have huu : (u != u) = false := by simp
  have hue : (u == u) = true := by simp
  clear hU
  refine (spoldo_is Lp ap _ cp fr br arp crp (Pr) lr arm crm (Mr) HU.out _ rfl (OwnC.cs Cp_2.out) (by omega) ⟨⟨(OwnI.intA Orp_2.out).2.2, (OwnI.intA Orm_2.out).2.2⟩, (OwnI.intA Orp_2.out).2.1, (OwnI.intA Orm_2.out).2.1, by omega, by omega⟩).mono ?_
  rintro en w3 ⟨pv, mv, rfl, S, o, bP, o2, hS, b⟩
  have HB3 := Lib.hid (HB2.out.trans (b.mono HB2.out.size))
  have hs3 := Lib.hid b.size
  have Orp_3 := Lib.hid (owni_later Orp_2.out b)
  have Orm_3 := Lib.hid (owni_later Orm_2.out b)
  have Xr_3 := Lib.hid (At5.below Xr_2.out b)
  have Cp_3 := Lib.hid (ownc_later Cp_2.out b)
  replace o : OwnI w3 w2.heap.size pv PU := o
  replace o2 : OwnI w3 S mv MU := o2
  obtain ⟨awp, cwp, rfl, _, _⟩ := OwnI.tab o
  obtain ⟨awm, cwm, rfl, _, _⟩ := OwnI.tab o2
  have Aw := Lib.hid (apart2 bP o2)
  have Bwp := Lib.hid (OwnI.btw o)
  have Bwm := Lib.hid ((OwnI.btw o2).mono hS (Nat.le_refl _))
  have Owp_3 := Lib.hid (owni_mono o HB2.out.size)
  have Owm_3 := Lib.hid (owni_mono o2 (Nat.le_trans HB2.out.size hS))
  clear o o2 bP hS b
  have HB4 := Lib.hid (HB3.out.alloc HB3.out.size (.cells #[.int .i64 fU, .int .i64 bU, .slice awp (PU).length cwp, .int .i64 lU, .slice awm (MU).length cwm] 29))
  have hs4 := Lib.hid (show w3.heap.size + 1 = (w3.alloc (.cells #[.int .i64 fU, .int .i64 bU, .slice awp (PU).length cwp, .int .i64 lU, .slice awm (MU).length cwm] 29)).heap.size by simp)
  have Orp_4 := Lib.hid (World.ownsRow.alloc Orp_3.out (.cells #[.int .i64 fU, .int .i64 bU, .slice awp (PU).length cwp, .int .i64 lU, .slice awm (MU).length cwm] 29))
  have Orm_4 := Lib.hid (World.ownsRow.alloc Orm_3.out (.cells #[.int .i64 fU, .int .i64 bU, .slice awp (PU).length cwp, .int .i64 lU, .slice awm (MU).length cwm] 29))
  have Owp_4 := Lib.hid (World.ownsRow.alloc Owp_3.out (.cells #[.int .i64 fU, .int .i64 bU, .slice awp (PU).length cwp, .int .i64 lU, .slice awm (MU).length cwm] 29))
  have Owm_4 := Lib.hid (World.ownsRow.alloc Owm_3.out (.cells #[.int .i64 fU, .int .i64 bU, .slice awp (PU).length cwp, .int .i64 lU, .slice awm (MU).length cwm] 29))
  have Xr_4 := Lib.hid (At5.alloc Xr_3.out (.cells #[.int .i64 fU, .int .i64 bU, .slice awp (PU).length cwp, .int .i64 lU, .slice awm (MU).length cwm] 29))
  have Cp_4 := Lib.hid (World.ownsRow.alloc Cp_3.out (.cells #[.int .i64 fU, .int .i64 bU, .slice awp (PU).length cwp, .int .i64 lU, .slice awm (MU).length cwm] 29))
  have Xw_4 := Lib.hid (At5.new w3 (.int .i64 fU) (.int .i64 bU) (.slice awp (PU).length cwp) (.int .i64 lU) (.slice awm (MU).length cwm) 29)
  obtain ⟨⟨qr0, qr1, qr2, qr3, qr4⟩, _⟩ := Xr_4.out
  go_wp2_with fail
  clear qr0 qr1 qr2 qr3 qr4
  generalize w3.alloc (.cells #[.int .i64 fU, .int .i64 bU, .slice awp (PU).length cwp, .int .i64 lU, .slice awm (MU).length cwm] 29) = w4 at *
  refine (ipoldo_is Lp ap _ cp fr br arp crp (Pr) lr arm crm (Mr) HU.out _ p rfl (OwnC.cs Cp_4.out) (by omega) ⟨⟨(OwnI.intA Orp_4.out).2.2, (OwnI.intA Orm_4.out).2.2⟩, (OwnI.intA Orp_4.out).2.1, (OwnI.intA Orm_4.out).2.1, by omega, by omega⟩ (HE.out.below HB4.out)).mono ?_
  rintro en w5 ⟨pv, mv, rfl, S, o, bP, o2, hS, b⟩
  have HB5 := Lib.hid (HB4.out.trans (b.mono HB4.out.size))
  have hs5 := Lib.hid b.size
  have Orp_5 := Lib.hid (owni_later Orp_4.out b)
  have Orm_5 := Lib.hid (owni_later Orm_4.out b)
  have Owp_5 := Lib.hid (owni_later Owp_4.out b)
  have Owm_5 := Lib.hid (owni_later Owm_4.out b)
  have Xr_5 := Lib.hid (At5.below Xr_4.out b)
  have Xw_5 := Lib.hid (At5.below Xw_4.out b)
  have Cp_5 := Lib.hid (ownc_later Cp_4.out b)
  replace o : OwnI w5 w4.heap.size pv PU := o
  replace o2 : OwnI w5 S mv MU := o2
  obtain ⟨axp, cxp, rfl, _, _⟩ := OwnI.tab o
  obtain ⟨axm, cxm, rfl, _, _⟩ := OwnI.tab o2
  have Ax := Lib.hid (apart2 bP o2)
  have Bxp := Lib.hid (OwnI.btw o)
  have Bxm := Lib.hid ((OwnI.btw o2).mono hS (Nat.le_refl _))
  have Oxp_5 := Lib.hid (owni_mono o HB4.out.size)
  have Oxm_5 := Lib.hid (owni_mono o2 (Nat.le_trans HB4.out.size hS))
  clear o o2 bP hS b
  have HB6 := Lib.hid (HB5.out.alloc HB5.out.size (.cells #[.int .i64 fU, .int .i64 bU, .slice axp (PU).length cxp, .int .i64 lU, .slice axm (MU).length cxm] 29))
  have hs6 := Lib.hid (show w5.heap.size + 1 = (w5.alloc (.cells #[.int .i64 fU, .int .i64 bU, .slice axp (PU).length cxp, .int .i64 lU, .slice axm (MU).length cxm] 29)).heap.size by simp)
  have Orp_6 := Lib.hid (World.ownsRow.alloc Orp_5.out (.cells #[.int .i64 fU, .int .i64 bU, .slice axp (PU).length cxp, .int .i64 lU, .slice axm (MU).length cxm] 29))
  have Orm_6 := Lib.hid (World.ownsRow.alloc Orm_5.out (.cells #[.int .i64 fU, .int .i64 bU, .slice axp (PU).length cxp, .int .i64 lU, .slice axm (MU).length cxm] 29))
  have Owp_6 := Lib.hid (World.ownsRow.alloc Owp_5.out (.cells #[.int .i64 fU, .int .i64 bU, .slice axp (PU).length cxp, .int .i64 lU, .slice axm (MU).length cxm] 29))
  have Owm_6 := Lib.hid (World.ownsRow.alloc Owm_5.out (.cells #[.int .i64 fU, .int .i64 bU, .slice axp (PU).length cxp, .int .i64 lU, .slice axm (MU).length cxm] 29))
  have Oxp_6 := Lib.hid (World.ownsRow.alloc Oxp_5.out (.cells #[.int .i64 fU, .int .i64 bU, .slice axp (PU).length cxp, .int .i64 lU, .slice axm (MU).length cxm] 29))
  have Oxm_6 := Lib.hid (World.ownsRow.alloc Oxm_5.out (.cells #[.int .i64 fU, .int .i64 bU, .slice axp (PU).length cxp, .int .i64 lU, .slice axm (MU).length cxm] 29))
  have Xr_6 := Lib.hid (At5.alloc Xr_5.out (.cells #[.int .i64 fU, .int .i64 bU, .slice axp (PU).length cxp, .int .i64 lU, .slice axm (MU).length cxm] 29))
  have Xw_6 := Lib.hid (At5.alloc Xw_5.out (.cells #[.int .i64 fU, .int .i64 bU, .slice axp (PU).length cxp, .int .i64 lU, .slice axm (MU).length cxm] 29))
  have Cp_6 := Lib.hid (World.ownsRow.alloc Cp_5.out (.cells #[.int .i64 fU, .int .i64 bU, .slice axp (PU).length cxp, .int .i64 lU, .slice axm (MU).length cxm] 29))
  have Xx_6 := Lib.hid (At5.new w5 (.int .i64 fU) (.int .i64 bU) (.slice axp (PU).length cxp) (.int .i64 lU) (.slice axm (MU).length cxm) 29)
  obtain ⟨⟨qr0, qr1, qr2, qr3, qr4⟩, _⟩ := Xr_6.out
  obtain ⟨⟨qw0, qw1, qw2, qw3, qw4⟩, _⟩ := Xw_6.out
  go_wp2_with fail
  clear qr0 qr1 qr2 qr3 qr4
  clear qw0 qw1 qw2 qw3 qw4
  generalize w5.alloc (.cells #[.int .i64 fU, .int .i64 bU, .slice axp (PU).length cxp, .int .i64 lU, .slice axm (MU).length cxm] 29) = w6 at *
  refine (lyrt_is fU bU axp cxp (PU) lU axm cxm (MU) fU bU awp cwp (PU) lU awm cwm (MU) (show decide (((fU, bU, PU, lU, MU) : Rt) = (fU, bU, PU, lU, MU)) = true from decide_eq_true rfl) _ ⟨⟨(OwnI.intA Oxp_6.out).2.2, (OwnI.intA Oxm_6.out).2.2⟩, (OwnI.intA Oxp_6.out).2.1, (OwnI.intA Oxm_6.out).2.1, by omega, by omega⟩ ⟨⟨(OwnI.intA Owp_6.out).2.2, (OwnI.intA Owm_6.out).2.2⟩, (OwnI.intA Owp_6.out).2.1, (OwnI.intA Owm_6.out).2.1, by omega, by omega⟩).mono ?_
  rintro en w7 ⟨rfl, b⟩
  have HB7 := Lib.hid (HB6.out.trans (b.mono HB6.out.size))
  have hs7 := Lib.hid b.size
  have Orp_7 := Lib.hid (owni_later Orp_6.out b)
  have Orm_7 := Lib.hid (owni_later Orm_6.out b)
  have Owp_7 := Lib.hid (owni_later Owp_6.out b)
  have Owm_7 := Lib.hid (owni_later Owm_6.out b)
  have Oxp_7 := Lib.hid (owni_later Oxp_6.out b)
  have Oxm_7 := Lib.hid (owni_later Oxm_6.out b)
  have Xr_7 := Lib.hid (At5.below Xr_6.out b)
  have Xw_7 := Lib.hid (At5.below Xw_6.out b)
  have Xx_7 := Lib.hid (At5.below Xx_6.out b)
  have Cp_7 := Lib.hid (ownc_later Cp_6.out b)
  clear b
  cases hp : polOk Lp with
  | false =>
    obtain ⟨⟨qr0, qr1, qr2, qr3, qr4⟩, _⟩ := Xr_7.out
    obtain ⟨⟨qw0, qw1, qw2, qw3, qw4⟩, _⟩ := Xw_7.out
    obtain ⟨⟨qx0, qx1, qx2, qx3, qx4⟩, _⟩ := Xx_7.out
    go_wp2_with fail
    clear qr0 qr1 qr2 qr3 qr4
    clear qw0 qw1 qw2 qw3 qw4
    clear qx0 qx1 qx2 qx3 qx4
    refine (spolok_is Lp hp ap cp _ _ rfl (OwnC.cs Cp_7.out) (by omega)).mono ?_
    rintro en w8 ⟨rfl, b⟩
    have HB8 := Lib.hid (HB7.out.trans (b.mono HB7.out.size))
    have hs8 := Lib.hid b.size
    have Orp_8 := Lib.hid (owni_later Orp_7.out b)
    have Orm_8 := Lib.hid (owni_later Orm_7.out b)
    have Owp_8 := Lib.hid (owni_later Owp_7.out b)
    have Owm_8 := Lib.hid (owni_later Owm_7.out b)
    have Oxp_8 := Lib.hid (owni_later Oxp_7.out b)
    have Oxm_8 := Lib.hid (owni_later Oxm_7.out b)
    have Xr_8 := Lib.hid (At5.below Xr_7.out b)
    have Xw_8 := Lib.hid (At5.below Xw_7.out b)
    have Xx_8 := Lib.hid (At5.below Xx_7.out b)
    have Cp_8 := Lib.hid (ownc_later Cp_7.out b)
    clear b
    obtain ⟨⟨qr0, qr1, qr2, qr3, qr4⟩, _⟩ := Xr_8.out
    obtain ⟨⟨qw0, qw1, qw2, qw3, qw4⟩, _⟩ := Xw_8.out
    obtain ⟨⟨qx0, qx1, qx2, qx3, qx4⟩, _⟩ := Xx_8.out
    go_wp2_with fail
    clear qr0 qr1 qr2 qr3 qr4
    clear qw0 qw1 qw2 qw3 qw4
    clear qx0 qx1 qx2 qx3 qx4
    refine (lyrt_is fU bU axp cxp (PU) lU axm cxm (MU) fU bU awp cwp (PU) lU awm cwm (MU) (show decide (((fU, bU, PU, lU, MU) : Rt) = (fU, bU, PU, lU, MU)) = true from decide_eq_true rfl) _ ⟨⟨(OwnI.intA Oxp_8.out).2.2, (OwnI.intA Oxm_8.out).2.2⟩, (OwnI.intA Oxp_8.out).2.1, (OwnI.intA Oxm_8.out).2.1, by omega, by omega⟩ ⟨⟨(OwnI.intA Owp_8.out).2.2, (OwnI.intA Owm_8.out).2.2⟩, (OwnI.intA Owp_8.out).2.1, (OwnI.intA Owm_8.out).2.1, by omega, by omega⟩).mono ?_
    rintro en w9 ⟨rfl, b⟩
    have HB9 := Lib.hid (HB8.out.trans (b.mono HB8.out.size))
    have hs9 := Lib.hid b.size
    have Orp_9 := Lib.hid (owni_later Orp_8.out b)
    have Orm_9 := Lib.hid (owni_later Orm_8.out b)
    have Owp_9 := Lib.hid (owni_later Owp_8.out b)
    have Owm_9 := Lib.hid (owni_later Owm_8.out b)
    have Oxp_9 := Lib.hid (owni_later Oxp_8.out b)
    have Oxm_9 := Lib.hid (owni_later Oxm_8.out b)
    have Xr_9 := Lib.hid (At5.below Xr_8.out b)
    have Xw_9 := Lib.hid (At5.below Xw_8.out b)
    have Xx_9 := Lib.hid (At5.below Xx_8.out b)
    have Cp_9 := Lib.hid (ownc_later Cp_8.out b)
    clear b
    obtain ⟨⟨qr0, qr1, qr2, qr3, qr4⟩, _⟩ := Xr_9.out
    obtain ⟨⟨qw0, qw1, qw2, qw3, qw4⟩, _⟩ := Xw_9.out
    obtain ⟨⟨qx0, qx1, qx2, qx3, qx4⟩, _⟩ := Xx_9.out
    go_wp2_with fail
    clear qr0 qr1 qr2 qr3 qr4
    clear qw0 qw1 qw2 qw3 qw4
    clear qx0 qx1 qx2 qx3 qx4
    go_ret
    exact ⟨rfl, HB9.out⟩
  | true =>
    obtain ⟨⟨qr0, qr1, qr2, qr3, qr4⟩, _⟩ := Xr_7.out
    obtain ⟨⟨qw0, qw1, qw2, qw3, qw4⟩, _⟩ := Xw_7.out
    obtain ⟨⟨qx0, qx1, qx2, qx3, qx4⟩, _⟩ := Xx_7.out
    go_wp2_with fail
    clear qr0 qr1 qr2 qr3 qr4
    clear qw0 qw1 qw2 qw3 qw4
    clear qx0 qx1 qx2 qx3 qx4
    refine (spolok_is Lp hp ap cp _ _ rfl (OwnC.cs Cp_7.out) (by omega)).mono ?_
    rintro en w8 ⟨rfl, b⟩
    have HB8 := Lib.hid (HB7.out.trans (b.mono HB7.out.size))
    have hs8 := Lib.hid b.size
    have Orp_8 := Lib.hid (owni_later Orp_7.out b)
    have Orm_8 := Lib.hid (owni_later Orm_7.out b)
    have Owp_8 := Lib.hid (owni_later Owp_7.out b)
    have Owm_8 := Lib.hid (owni_later Owm_7.out b)
    have Oxp_8 := Lib.hid (owni_later Oxp_7.out b)
    have Oxm_8 := Lib.hid (owni_later Oxm_7.out b)
    have Xr_8 := Lib.hid (At5.below Xr_7.out b)
    have Xw_8 := Lib.hid (At5.below Xw_7.out b)
    have Xx_8 := Lib.hid (At5.below Xx_7.out b)
    have Cp_8 := Lib.hid (ownc_later Cp_7.out b)
    clear b
    cases hr : rtOk (fr, br, Pr, lr, Mr) with
    | false =>
      obtain ⟨⟨qr0, qr1, qr2, qr3, qr4⟩, _⟩ := Xr_8.out
      obtain ⟨⟨qw0, qw1, qw2, qw3, qw4⟩, _⟩ := Xw_8.out
      obtain ⟨⟨qx0, qx1, qx2, qx3, qx4⟩, _⟩ := Xx_8.out
      go_wp2_with fail
      clear qr0 qr1 qr2 qr3 qr4
      clear qw0 qw1 qw2 qw3 qw4
      clear qx0 qx1 qx2 qx3 qx4
      refine (srok_is fr br arp crp (Pr) lr arm crm (Mr) hr _ ⟨⟨(OwnI.intA Orp_8.out).2.2, (OwnI.intA Orm_8.out).2.2⟩, (OwnI.intA Orp_8.out).2.1, (OwnI.intA Orm_8.out).2.1, by omega, by omega⟩).mono ?_
      rintro en w9 ⟨rfl, b⟩
      have HB9 := Lib.hid (HB8.out.trans (b.mono HB8.out.size))
      have hs9 := Lib.hid b.size
      have Orp_9 := Lib.hid (owni_later Orp_8.out b)
      have Orm_9 := Lib.hid (owni_later Orm_8.out b)
      have Owp_9 := Lib.hid (owni_later Owp_8.out b)
      have Owm_9 := Lib.hid (owni_later Owm_8.out b)
      have Oxp_9 := Lib.hid (owni_later Oxp_8.out b)
      have Oxm_9 := Lib.hid (owni_later Oxm_8.out b)
      have Xr_9 := Lib.hid (At5.below Xr_8.out b)
      have Xw_9 := Lib.hid (At5.below Xw_8.out b)
      have Xx_9 := Lib.hid (At5.below Xx_8.out b)
      have Cp_9 := Lib.hid (ownc_later Cp_8.out b)
      clear b
      obtain ⟨⟨qr0, qr1, qr2, qr3, qr4⟩, _⟩ := Xr_9.out
      obtain ⟨⟨qw0, qw1, qw2, qw3, qw4⟩, _⟩ := Xw_9.out
      obtain ⟨⟨qx0, qx1, qx2, qx3, qx4⟩, _⟩ := Xx_9.out
      go_wp2_with fail
      clear qr0 qr1 qr2 qr3 qr4
      clear qw0 qw1 qw2 qw3 qw4
      clear qx0 qx1 qx2 qx3 qx4
      refine (lyrt_is fU bU axp cxp (PU) lU axm cxm (MU) fU bU awp cwp (PU) lU awm cwm (MU) (show decide (((fU, bU, PU, lU, MU) : Rt) = (fU, bU, PU, lU, MU)) = true from decide_eq_true rfl) _ ⟨⟨(OwnI.intA Oxp_9.out).2.2, (OwnI.intA Oxm_9.out).2.2⟩, (OwnI.intA Oxp_9.out).2.1, (OwnI.intA Oxm_9.out).2.1, by omega, by omega⟩ ⟨⟨(OwnI.intA Owp_9.out).2.2, (OwnI.intA Owm_9.out).2.2⟩, (OwnI.intA Owp_9.out).2.1, (OwnI.intA Owm_9.out).2.1, by omega, by omega⟩).mono ?_
      rintro en w10 ⟨rfl, b⟩
      have HB10 := Lib.hid (HB9.out.trans (b.mono HB9.out.size))
      have hs10 := Lib.hid b.size
      have Orp_10 := Lib.hid (owni_later Orp_9.out b)
      have Orm_10 := Lib.hid (owni_later Orm_9.out b)
      have Owp_10 := Lib.hid (owni_later Owp_9.out b)
      have Owm_10 := Lib.hid (owni_later Owm_9.out b)
      have Oxp_10 := Lib.hid (owni_later Oxp_9.out b)
      have Oxm_10 := Lib.hid (owni_later Oxm_9.out b)
      have Xr_10 := Lib.hid (At5.below Xr_9.out b)
      have Xw_10 := Lib.hid (At5.below Xw_9.out b)
      have Xx_10 := Lib.hid (At5.below Xx_9.out b)
      have Cp_10 := Lib.hid (ownc_later Cp_9.out b)
      clear b
      obtain ⟨⟨qr0, qr1, qr2, qr3, qr4⟩, _⟩ := Xr_10.out
      obtain ⟨⟨qw0, qw1, qw2, qw3, qw4⟩, _⟩ := Xw_10.out
      obtain ⟨⟨qx0, qx1, qx2, qx3, qx4⟩, _⟩ := Xx_10.out
      go_wp2_with fail
      clear qr0 qr1 qr2 qr3 qr4
      clear qw0 qw1 qw2 qw3 qw4
      clear qx0 qx1 qx2 qx3 qx4
      go_ret
      exact ⟨rfl, HB10.out⟩
    | true =>
      obtain ⟨⟨qr0, qr1, qr2, qr3, qr4⟩, _⟩ := Xr_8.out
      obtain ⟨⟨qw0, qw1, qw2, qw3, qw4⟩, _⟩ := Xw_8.out
      obtain ⟨⟨qx0, qx1, qx2, qx3, qx4⟩, _⟩ := Xx_8.out
      go_wp2_with fail
      clear qr0 qr1 qr2 qr3 qr4
      clear qw0 qw1 qw2 qw3 qw4
      clear qx0 qx1 qx2 qx3 qx4
      refine (srok_is fr br arp crp (Pr) lr arm crm (Mr) hr _ ⟨⟨(OwnI.intA Orp_8.out).2.2, (OwnI.intA Orm_8.out).2.2⟩, (OwnI.intA Orp_8.out).2.1, (OwnI.intA Orm_8.out).2.1, by omega, by omega⟩).mono ?_
      rintro en w9 ⟨rfl, b⟩
      have HB9 := Lib.hid (HB8.out.trans (b.mono HB8.out.size))
      have hs9 := Lib.hid b.size
      have Orp_9 := Lib.hid (owni_later Orp_8.out b)
      have Orm_9 := Lib.hid (owni_later Orm_8.out b)
      have Owp_9 := Lib.hid (owni_later Owp_8.out b)
      have Owm_9 := Lib.hid (owni_later Owm_8.out b)
      have Oxp_9 := Lib.hid (owni_later Oxp_8.out b)
      have Oxm_9 := Lib.hid (owni_later Oxm_8.out b)
      have Xr_9 := Lib.hid (At5.below Xr_8.out b)
      have Xw_9 := Lib.hid (At5.below Xw_8.out b)
      have Xx_9 := Lib.hid (At5.below Xx_8.out b)
      have Cp_9 := Lib.hid (ownc_later Cp_8.out b)
      clear b
      cases u with
      | false =>
        obtain ⟨⟨qr0, qr1, qr2, qr3, qr4⟩, _⟩ := Xr_9.out
        obtain ⟨⟨qx0, qx1, qx2, qx3, qx4⟩, _⟩ := Xx_9.out
        go_wp2_with fail
        clear qr0 qr1 qr2 qr3 qr4
        clear qx0 qx1 qx2 qx3 qx4
        go_ret
        exact ⟨rfl, HB9.out⟩
      | true =>
        obtain ⟨⟨qr0, qr1, qr2, qr3, qr4⟩, _⟩ := Xr_9.out
        obtain ⟨⟨qx0, qx1, qx2, qx3, qx4⟩, _⟩ := Xx_9.out
        go_wp2_with fail
        clear qr0 qr1 qr2 qr3 qr4
        clear qx0 qx1 qx2 qx3 qx4
        go_loopw [9] (fun i wr => ∃ k : Nat, k ≤ Lp.length ∧ i = .int .i64 k ∧ Hid (∀ (j : Nat) d, j < k → Lp[j]? = some d → d.i ≠ 3) ∧ w9 = wr) (fun i _ => Lp.length - (intOf i).toNat)
        case atStart => exact ⟨0, Nat.zero_le _, rfl, Lib.hid (fun j d hj => by omega), rfl⟩
        case round =>
          obtain ⟨k, hk, rfl, HN, rfl⟩ := hrel
          by_cases hlt : k < Lp.length
          · obtain ⟨d, hd⟩ : ∃ d, Lp[k]? = some d := ⟨_, List.getElem?_eq_getElem hlt⟩
            have HD := Lib.hid hd
            obtain ⟨b3, off3, rfl, n0, _⟩ := CsA.at (OwnC.cs Cp_9.out) hd
            have i0 : (0 : Int) ≤ (k : Int) := by omega
            have i1 : (k : Int) < (Lp.length : Int) := by omega
            clear hd
            by_cases h3 : d.i = 3
            · have e3 : (d.i == 3) = true := by simp [h3]
              clear h3
              go_wp2_with fail
              go_ret
              exact ⟨rfl, HB9.out⟩
            · have e3 : (d.i == 3) = false := by simp [h3]
              have HN2 : Hid (∀ (j : Nat) x, j < k + 1 → Lp[j]? = some x → x.i ≠ 3) := Lib.hid (fun j x hj hx => by
                by_cases e : j = k
                · subst e; rw [HD.out] at hx; cases hx; exact h3
                · exact HN.out j x (by omega) hx)
              clear h3
              go_wp2_with fail
              go_roundw
              case rel => exact ⟨k + 1, by omega, by go_num, HN2, by first | rfl | trivial⟩
              case measure => simp [intOf]; omega
          · obtain rfl : k = Lp.length := by omega
            have HV : Hid (polDo Lp (fU, bU, PU, lU, MU) = ((fU, bU, PU, lU, MU), true)) := Lib.hid (polDo_twice hp hr HU.out (fun d hd => by obtain ⟨j, hj⟩ := List.mem_iff_getElem?.1 hd; exact HN.out j d (List.getElem?_eq_some_iff.1 hj).1 hj))
            obtain ⟨⟨qr0, qr1, qr2, qr3, qr4⟩, _⟩ := Xr_9.out
            obtain ⟨⟨qx0, qx1, qx2, qx3, qx4⟩, _⟩ := Xx_9.out
            go_wp2_with fail
            clear qr0 qr1 qr2 qr3 qr4
            clear qx0 qx1 qx2 qx3 qx4
            refine (ipoldo_is Lp ap _ cp fU bU axp cxp (PU) lU axm cxm (MU) HV.out _ p rfl (OwnC.cs Cp_9.out) (by omega) ⟨⟨(OwnI.intA Oxp_9.out).2.2, (OwnI.intA Oxm_9.out).2.2⟩, (OwnI.intA Oxp_9.out).2.1, (OwnI.intA Oxm_9.out).2.1, by omega, by omega⟩ (HE.out.below HB9.out)).mono ?_
            rintro en w10 ⟨pv, mv, rfl, S, o, bP, o2, hS, b⟩
            have HB10 := Lib.hid (HB9.out.trans (b.mono HB9.out.size))
            have hs10 := Lib.hid b.size
            have Orp_10 := Lib.hid (owni_later Orp_9.out b)
            have Orm_10 := Lib.hid (owni_later Orm_9.out b)
            have Oxp_10 := Lib.hid (owni_later Oxp_9.out b)
            have Oxm_10 := Lib.hid (owni_later Oxm_9.out b)
            have Xr_10 := Lib.hid (At5.below Xr_9.out b)
            have Xx_10 := Lib.hid (At5.below Xx_9.out b)
            have Cp_10 := Lib.hid (ownc_later Cp_9.out b)
            replace o : OwnI w10 w9.heap.size pv PU := o
            replace o2 : OwnI w10 S mv MU := o2
            obtain ⟨ayp, cyp, rfl, _, _⟩ := OwnI.tab o
            obtain ⟨aym, cym, rfl, _, _⟩ := OwnI.tab o2
            have Ay := Lib.hid (apart2 bP o2)
            have Byp := Lib.hid (OwnI.btw o)
            have Bym := Lib.hid ((OwnI.btw o2).mono hS (Nat.le_refl _))
            have Oyp_10 := Lib.hid (owni_mono o HB9.out.size)
            have Oym_10 := Lib.hid (owni_mono o2 (Nat.le_trans HB9.out.size hS))
            clear o o2 bP hS b
            have HB11 := Lib.hid (HB10.out.alloc HB10.out.size (.cells #[.int .i64 fU, .int .i64 bU, .slice ayp (PU).length cyp, .int .i64 lU, .slice aym (MU).length cym] 29))
            have hs11 := Lib.hid (show w10.heap.size + 1 = (w10.alloc (.cells #[.int .i64 fU, .int .i64 bU, .slice ayp (PU).length cyp, .int .i64 lU, .slice aym (MU).length cym] 29)).heap.size by simp)
            have Orp_11 := Lib.hid (World.ownsRow.alloc Orp_10.out (.cells #[.int .i64 fU, .int .i64 bU, .slice ayp (PU).length cyp, .int .i64 lU, .slice aym (MU).length cym] 29))
            have Orm_11 := Lib.hid (World.ownsRow.alloc Orm_10.out (.cells #[.int .i64 fU, .int .i64 bU, .slice ayp (PU).length cyp, .int .i64 lU, .slice aym (MU).length cym] 29))
            have Oxp_11 := Lib.hid (World.ownsRow.alloc Oxp_10.out (.cells #[.int .i64 fU, .int .i64 bU, .slice ayp (PU).length cyp, .int .i64 lU, .slice aym (MU).length cym] 29))
            have Oxm_11 := Lib.hid (World.ownsRow.alloc Oxm_10.out (.cells #[.int .i64 fU, .int .i64 bU, .slice ayp (PU).length cyp, .int .i64 lU, .slice aym (MU).length cym] 29))
            have Oyp_11 := Lib.hid (World.ownsRow.alloc Oyp_10.out (.cells #[.int .i64 fU, .int .i64 bU, .slice ayp (PU).length cyp, .int .i64 lU, .slice aym (MU).length cym] 29))
            have Oym_11 := Lib.hid (World.ownsRow.alloc Oym_10.out (.cells #[.int .i64 fU, .int .i64 bU, .slice ayp (PU).length cyp, .int .i64 lU, .slice aym (MU).length cym] 29))
            have Xr_11 := Lib.hid (At5.alloc Xr_10.out (.cells #[.int .i64 fU, .int .i64 bU, .slice ayp (PU).length cyp, .int .i64 lU, .slice aym (MU).length cym] 29))
            have Xx_11 := Lib.hid (At5.alloc Xx_10.out (.cells #[.int .i64 fU, .int .i64 bU, .slice ayp (PU).length cyp, .int .i64 lU, .slice aym (MU).length cym] 29))
            have Cp_11 := Lib.hid (World.ownsRow.alloc Cp_10.out (.cells #[.int .i64 fU, .int .i64 bU, .slice ayp (PU).length cyp, .int .i64 lU, .slice aym (MU).length cym] 29))
            have Xy_11 := Lib.hid (At5.new w10 (.int .i64 fU) (.int .i64 bU) (.slice ayp (PU).length cyp) (.int .i64 lU) (.slice aym (MU).length cym) 29)
            obtain ⟨⟨qr0, qr1, qr2, qr3, qr4⟩, _⟩ := Xr_11.out
            obtain ⟨⟨qx0, qx1, qx2, qx3, qx4⟩, _⟩ := Xx_11.out
            go_wp2_with fail
            clear qr0 qr1 qr2 qr3 qr4
            clear qx0 qx1 qx2 qx3 qx4
            generalize w10.alloc (.cells #[.int .i64 fU, .int .i64 bU, .slice ayp (PU).length cyp, .int .i64 lU, .slice aym (MU).length cym] 29) = w11 at *
            refine (lyrt_is fU bU ayp cyp (PU) lU aym cym (MU) fU bU axp cxp (PU) lU axm cxm (MU) (show decide (((fU, bU, PU, lU, MU) : Rt) = (fU, bU, PU, lU, MU)) = true from decide_eq_true rfl) _ ⟨⟨(OwnI.intA Oyp_11.out).2.2, (OwnI.intA Oym_11.out).2.2⟩, (OwnI.intA Oyp_11.out).2.1, (OwnI.intA Oym_11.out).2.1, by omega, by omega⟩ ⟨⟨(OwnI.intA Oxp_11.out).2.2, (OwnI.intA Oxm_11.out).2.2⟩, (OwnI.intA Oxp_11.out).2.1, (OwnI.intA Oxm_11.out).2.1, by omega, by omega⟩).mono ?_
            rintro en w12 ⟨rfl, b⟩
            have HB12 := Lib.hid (HB11.out.trans (b.mono HB11.out.size))
            have hs12 := Lib.hid b.size
            have Orp_12 := Lib.hid (owni_later Orp_11.out b)
            have Orm_12 := Lib.hid (owni_later Orm_11.out b)
            have Oxp_12 := Lib.hid (owni_later Oxp_11.out b)
            have Oxm_12 := Lib.hid (owni_later Oxm_11.out b)
            have Oyp_12 := Lib.hid (owni_later Oyp_11.out b)
            have Oym_12 := Lib.hid (owni_later Oym_11.out b)
            have Xr_12 := Lib.hid (At5.below Xr_11.out b)
            have Xx_12 := Lib.hid (At5.below Xx_11.out b)
            have Xy_12 := Lib.hid (At5.below Xy_11.out b)
            have Cp_12 := Lib.hid (ownc_later Cp_11.out b)
            clear b
            obtain ⟨⟨qr0, qr1, qr2, qr3, qr4⟩, _⟩ := Xr_12.out
            obtain ⟨⟨qx0, qx1, qx2, qx3, qx4⟩, _⟩ := Xx_12.out
            obtain ⟨⟨qy0, qy1, qy2, qy3, qy4⟩, _⟩ := Xy_12.out
            go_wp2_with fail
            clear qr0 qr1 qr2 qr3 qr4
            clear qx0 qx1 qx2 qx3 qx4
            clear qy0 qy1 qy2 qy3 qy4
            go_ret
            exact ⟨rfl, HB12.out⟩

end Go.Proofs.YthkaaamgkmmeeaaDoor
