/-
  The law that the first clause that fits counts: the walk.
-/
import Derived.Test.YthkaaamgkmmeeaaDoorClLl
namespace Go.Proofs.YthkaaamgkmmeeaaDoor
open Go.RowKit
set_option linter.unusedSimpArgs false
set_option linter.unusedVariables false

set_option maxRecDepth 100000 in
set_option maxHeartbeats 4000000 in
theorem lawPolicyDo (a0 : Option Addr) (len0 cap0 : Nat) (zs0 : List Int) (w : World) (h0 : IsRow w a0 len0 cap0 zs0) (p : Addr) (hE : EV w p) (_ : True) :
    Calls Tryd.prog 4 #[.slice a0 len0 cap0] w fun e w' => e = .returned (.bool true) ∧ Below w.heap.size w w' := by
  have H0 := Lib.hid h0
  have HE := Lib.hid hE
  clear h0 hE
  by_cases hl0 : (1048576 : Int) < (len0 : Int)
  · go_enter Tryd.func4, Tryd.ntmps4
    go_wp2_with fail
    go_ret
    exact ⟨rfl, Below.refl _ _⟩
  have HB0 := Lib.hid (Below.refl w.heap.size w)
  go_enter Tryd.func4, Tryd.ntmps4
  go_wp2_with fail
  refine (dPolicyDo_any a0 len0 cap0 zs0 _ (isrow_later H0.out HB0.out)).mono ?_
  rintro en w1 ⟨vc, Lp, fr, br, lr, Pr, Mr, pv, mv, rfl, hlL, oc, ⟨hlPr, hlMr⟩, ⟨o, o2⟩, b⟩
  have HB1 := Lib.hid (HB0.out.trans (b.mono HB0.out.size))
  have hs1 := Lib.hid b.size
  obtain ⟨ap, cp, rfl, _, _⟩ := OwnC.tab oc
  have Cp_1 := Lib.hid (ownc_mono oc HB0.out.size)
  clear oc
  obtain ⟨arp, crp, rfl, _, _⟩ := OwnI.tab o
  obtain ⟨arm, crm, rfl, _, _⟩ := OwnI.tab o2
  have Brp := Lib.hid (OwnI.btw o)
  have Brm := Lib.hid (OwnI.btw o2)
  have Orp_1 := Lib.hid (owni_mono o HB0.out.size)
  have Orm_1 := Lib.hid (owni_mono o2 HB0.out.size)
  clear o o2
  clear b
  have HB2 := Lib.hid (HB1.out.alloc HB1.out.size (.cells #[.int .i64 fr, .int .i64 br, .slice arp (Pr).length crp, .int .i64 lr, .slice arm (Mr).length crm] 29))
  have hs2 := Lib.hid (show w1.heap.size + 1 = (w1.alloc (.cells #[.int .i64 fr, .int .i64 br, .slice arp (Pr).length crp, .int .i64 lr, .slice arm (Mr).length crm] 29)).heap.size by simp)
  have Orp_2 := Lib.hid (World.ownsRow.alloc Orp_1.out (.cells #[.int .i64 fr, .int .i64 br, .slice arp (Pr).length crp, .int .i64 lr, .slice arm (Mr).length crm] 29))
  have Orm_2 := Lib.hid (World.ownsRow.alloc Orm_1.out (.cells #[.int .i64 fr, .int .i64 br, .slice arp (Pr).length crp, .int .i64 lr, .slice arm (Mr).length crm] 29))
  have Cp_2 := Lib.hid (World.ownsRow.alloc Cp_1.out (.cells #[.int .i64 fr, .int .i64 br, .slice arp (Pr).length crp, .int .i64 lr, .slice arm (Mr).length crm] 29))
  have Xr_2 := Lib.hid (At5.new w1 (.int .i64 fr) (.int .i64 br) (.slice arp (Pr).length crp) (.int .i64 lr) (.slice arm (Mr).length crm) 29)
  go_wp2_with fail
  generalize w1.alloc (.cells #[.int .i64 fr, .int .i64 br, .slice arp (Pr).length crp, .int .i64 lr, .slice arm (Mr).length crm] 29) = w2 at *
  obtain ⟨⟨⟨fU, bU, PU, lU, MU⟩, u⟩, hU⟩ : ∃ s, polDo Lp (fr, br, Pr, lr, Mr) = s := ⟨_, rfl⟩
  have hUl : PU.length ≤ 5 ∧ MU.length ≤ 10 := by have := polDo_len Lp (fr, br, Pr, lr, Mr); rw [hU] at this; exact this
  have HU := Lib.hid hU
  have huu : (u != u) = false := by simp
  have hue : (u == u) = true := by simp
  clear hU
  refine (spoldo_is Lp ap _ cp fr br arp crp (Pr) lr arm crm (Mr) HU.out _ rfl (OwnC.cs Cp_2.out) (by omega) ⟨⟨(OwnI.intA Orp_2.out).2.2, (OwnI.intA Orm_2.out).2.2⟩, (OwnI.intA Orp_2.out).2.1, (OwnI.intA Orm_2.out).2.1, by omega, by omega⟩).mono ?_
  rintro en w3 ⟨pv, mv, rfl, S, o, bP, o2, hS, b⟩
  have HB3 := Lib.hid (HB2.out.trans (b.mono HB2.out.size))
  have hs3 := Lib.hid b.size
  have Orp_3 := Lib.hid (owni_later Orp_2.out b)
  have Orm_3 := Lib.hid (owni_later Orm_2.out b)
  have Xr_3 := Lib.hid (At5.below Xr_2.out b)
  have Cp_3 := Lib.hid (ownc_later Cp_2.out b)
  replace o : OwnI w3 w2.heap.size pv PU := o
  replace o2 : OwnI w3 S mv MU := o2
  obtain ⟨awp, cwp, rfl, _, _⟩ := OwnI.tab o
  obtain ⟨awm, cwm, rfl, _, _⟩ := OwnI.tab o2
  have Aw := Lib.hid (apart2 bP o2)
  have Bwp := Lib.hid (OwnI.btw o)
  have Bwm := Lib.hid ((OwnI.btw o2).mono hS (Nat.le_refl _))
  have Owp_3 := Lib.hid (owni_mono o HB2.out.size)
  have Owm_3 := Lib.hid (owni_mono o2 (Nat.le_trans HB2.out.size hS))
  clear o o2 bP hS b
  have HB4 := Lib.hid (HB3.out.alloc HB3.out.size (.cells #[.int .i64 fU, .int .i64 bU, .slice awp (PU).length cwp, .int .i64 lU, .slice awm (MU).length cwm] 29))
  have hs4 := Lib.hid (show w3.heap.size + 1 = (w3.alloc (.cells #[.int .i64 fU, .int .i64 bU, .slice awp (PU).length cwp, .int .i64 lU, .slice awm (MU).length cwm] 29)).heap.size by simp)
  have Orp_4 := Lib.hid (World.ownsRow.alloc Orp_3.out (.cells #[.int .i64 fU, .int .i64 bU, .slice awp (PU).length cwp, .int .i64 lU, .slice awm (MU).length cwm] 29))
  have Orm_4 := Lib.hid (World.ownsRow.alloc Orm_3.out (.cells #[.int .i64 fU, .int .i64 bU, .slice awp (PU).length cwp, .int .i64 lU, .slice awm (MU).length cwm] 29))
  have Owp_4 := Lib.hid (World.ownsRow.alloc Owp_3.out (.cells #[.int .i64 fU, .int .i64 bU, .slice awp (PU).length cwp, .int .i64 lU, .slice awm (MU).length cwm] 29))
  have Owm_4 := Lib.hid (World.ownsRow.alloc Owm_3.out (.cells #[.int .i64 fU, .int .i64 bU, .slice awp (PU).length cwp, .int .i64 lU, .slice awm (MU).length cwm] 29))
  have Xr_4 := Lib.hid (At5.alloc Xr_3.out (.cells #[.int .i64 fU, .int .i64 bU, .slice awp (PU).length cwp, .int .i64 lU, .slice awm (MU).length cwm] 29))
  have Cp_4 := Lib.hid (World.ownsRow.alloc Cp_3.out (.cells #[.int .i64 fU, .int .i64 bU, .slice awp (PU).length cwp, .int .i64 lU, .slice awm (MU).length cwm] 29))
  have Xw_4 := Lib.hid (At5.new w3 (.int .i64 fU) (.int .i64 bU) (.slice awp (PU).length cwp) (.int .i64 lU) (.slice awm (MU).length cwm) 29)
  obtain ⟨⟨qr0, qr1, qr2, qr3, qr4⟩, _⟩ := Xr_4.out
  go_wp2_with fail
  clear qr0 qr1 qr2 qr3 qr4
  generalize w3.alloc (.cells #[.int .i64 fU, .int .i64 bU, .slice awp (PU).length cwp, .int .i64 lU, .slice awm (MU).length cwm] 29) = w4 at *
  refine (ipoldo_is Lp ap _ cp fr br arp crp (Pr) lr arm crm (Mr) HU.out _ p rfl (OwnC.cs Cp_4.out) (by omega) ⟨⟨(OwnI.intA Orp_4.out).2.2, (OwnI.intA Orm_4.out).2.2⟩, (OwnI.intA Orp_4.out).2.1, (OwnI.intA Orm_4.out).2.1, by omega, by omega⟩ (HE.out.below HB4.out)).mono ?_
  rintro en w5 ⟨pv, mv, rfl, S, o, bP, o2, hS, b⟩
  have HB5 := Lib.hid (HB4.out.trans (b.mono HB4.out.size))
  have hs5 := Lib.hid b.size
  have Orp_5 := Lib.hid (owni_later Orp_4.out b)
  have Orm_5 := Lib.hid (owni_later Orm_4.out b)
  have Owp_5 := Lib.hid (owni_later Owp_4.out b)
  have Owm_5 := Lib.hid (owni_later Owm_4.out b)
  have Xr_5 := Lib.hid (At5.below Xr_4.out b)
  have Xw_5 := Lib.hid (At5.below Xw_4.out b)
  have Cp_5 := Lib.hid (ownc_later Cp_4.out b)
  replace o : OwnI w5 w4.heap.size pv PU := o
  replace o2 : OwnI w5 S mv MU := o2
  obtain ⟨axp, cxp, rfl, _, _⟩ := OwnI.tab o
  obtain ⟨axm, cxm, rfl, _, _⟩ := OwnI.tab o2
  have Ax := Lib.hid (apart2 bP o2)
  have Bxp := Lib.hid (OwnI.btw o)
  have Bxm := Lib.hid ((OwnI.btw o2).mono hS (Nat.le_refl _))
  have Oxp_5 := Lib.hid (owni_mono o HB4.out.size)
  have Oxm_5 := Lib.hid (owni_mono o2 (Nat.le_trans HB4.out.size hS))
  clear o o2 bP hS b
  have HB6 := Lib.hid (HB5.out.alloc HB5.out.size (.cells #[.int .i64 fU, .int .i64 bU, .slice axp (PU).length cxp, .int .i64 lU, .slice axm (MU).length cxm] 29))
  have hs6 := Lib.hid (show w5.heap.size + 1 = (w5.alloc (.cells #[.int .i64 fU, .int .i64 bU, .slice axp (PU).length cxp, .int .i64 lU, .slice axm (MU).length cxm] 29)).heap.size by simp)
  have Orp_6 := Lib.hid (World.ownsRow.alloc Orp_5.out (.cells #[.int .i64 fU, .int .i64 bU, .slice axp (PU).length cxp, .int .i64 lU, .slice axm (MU).length cxm] 29))
  have Orm_6 := Lib.hid (World.ownsRow.alloc Orm_5.out (.cells #[.int .i64 fU, .int .i64 bU, .slice axp (PU).length cxp, .int .i64 lU, .slice axm (MU).length cxm] 29))
  have Owp_6 := Lib.hid (World.ownsRow.alloc Owp_5.out (.cells #[.int .i64 fU, .int .i64 bU, .slice axp (PU).length cxp, .int .i64 lU, .slice axm (MU).length cxm] 29))
  have Owm_6 := Lib.hid (World.ownsRow.alloc Owm_5.out (.cells #[.int .i64 fU, .int .i64 bU, .slice axp (PU).length cxp, .int .i64 lU, .slice axm (MU).length cxm] 29))
  have Oxp_6 := Lib.hid (World.ownsRow.alloc Oxp_5.out (.cells #[.int .i64 fU, .int .i64 bU, .slice axp (PU).length cxp, .int .i64 lU, .slice axm (MU).length cxm] 29))
  have Oxm_6 := Lib.hid (World.ownsRow.alloc Oxm_5.out (.cells #[.int .i64 fU, .int .i64 bU, .slice axp (PU).length cxp, .int .i64 lU, .slice axm (MU).length cxm] 29))
  have Xr_6 := Lib.hid (At5.alloc Xr_5.out (.cells #[.int .i64 fU, .int .i64 bU, .slice axp (PU).length cxp, .int .i64 lU, .slice axm (MU).length cxm] 29))
  have Xw_6 := Lib.hid (At5.alloc Xw_5.out (.cells #[.int .i64 fU, .int .i64 bU, .slice axp (PU).length cxp, .int .i64 lU, .slice axm (MU).length cxm] 29))
  have Cp_6 := Lib.hid (World.ownsRow.alloc Cp_5.out (.cells #[.int .i64 fU, .int .i64 bU, .slice axp (PU).length cxp, .int .i64 lU, .slice axm (MU).length cxm] 29))
  have Xx_6 := Lib.hid (At5.new w5 (.int .i64 fU) (.int .i64 bU) (.slice axp (PU).length cxp) (.int .i64 lU) (.slice axm (MU).length cxm) 29)
  obtain ⟨⟨qr0, qr1, qr2, qr3, qr4⟩, _⟩ := Xr_6.out
  obtain ⟨⟨qw0, qw1, qw2, qw3, qw4⟩, _⟩ := Xw_6.out
  go_wp2_with fail
  clear qr0 qr1 qr2 qr3 qr4
  clear qw0 qw1 qw2 qw3 qw4
  generalize w5.alloc (.cells #[.int .i64 fU, .int .i64 bU, .slice axp (PU).length cxp, .int .i64 lU, .slice axm (MU).length cxm] 29) = w6 at *
  refine (lyrt_is fU bU axp cxp (PU) lU axm cxm (MU) fU bU awp cwp (PU) lU awm cwm (MU) (show decide (((fU, bU, PU, lU, MU) : Rt) = (fU, bU, PU, lU, MU)) = true from decide_eq_true rfl) _ ⟨⟨(OwnI.intA Oxp_6.out).2.2, (OwnI.intA Oxm_6.out).2.2⟩, (OwnI.intA Oxp_6.out).2.1, (OwnI.intA Oxm_6.out).2.1, by omega, by omega⟩ ⟨⟨(OwnI.intA Owp_6.out).2.2, (OwnI.intA Owm_6.out).2.2⟩, (OwnI.intA Owp_6.out).2.1, (OwnI.intA Owm_6.out).2.1, by omega, by omega⟩).mono ?_
  rintro en w7 ⟨rfl, b⟩
  have HB7 := Lib.hid (HB6.out.trans (b.mono HB6.out.size))
  have hs7 := Lib.hid b.size
  have Orp_7 := Lib.hid (owni_later Orp_6.out b)
  have Orm_7 := Lib.hid (owni_later Orm_6.out b)
  have Owp_7 := Lib.hid (owni_later Owp_6.out b)
  have Owm_7 := Lib.hid (owni_later Owm_6.out b)
  have Oxp_7 := Lib.hid (owni_later Oxp_6.out b)
  have Oxm_7 := Lib.hid (owni_later Oxm_6.out b)
  have Xr_7 := Lib.hid (At5.below Xr_6.out b)
  have Xw_7 := Lib.hid (At5.below Xw_6.out b)
  have Xx_7 := Lib.hid (At5.below Xx_6.out b)
  have Cp_7 := Lib.hid (ownc_later Cp_6.out b)
  clear b
  cases hp : polOk Lp with
  | false =>
    obtain ⟨⟨qr0, qr1, qr2, qr3, qr4⟩, _⟩ := Xr_7.out
    obtain ⟨⟨qw0, qw1, qw2, qw3, qw4⟩, _⟩ := Xw_7.out
    obtain ⟨⟨qx0, qx1, qx2, qx3, qx4⟩, _⟩ := Xx_7.out
    go_wp2_with fail
    clear qr0 qr1 qr2 qr3 qr4
    clear qw0 qw1 qw2 qw3 qw4
    clear qx0 qx1 qx2 qx3 qx4
    refine (spolok_is Lp hp ap cp _ _ rfl (OwnC.cs Cp_7.out) (by omega)).mono ?_
    rintro en w8 ⟨rfl, b⟩
    have HB8 := Lib.hid (HB7.out.trans (b.mono HB7.out.size))
    have hs8 := Lib.hid b.size
    have Orp_8 := Lib.hid (owni_later Orp_7.out b)
    have Orm_8 := Lib.hid (owni_later Orm_7.out b)
    have Owp_8 := Lib.hid (owni_later Owp_7.out b)
    have Owm_8 := Lib.hid (owni_later Owm_7.out b)
    have Oxp_8 := Lib.hid (owni_later Oxp_7.out b)
    have Oxm_8 := Lib.hid (owni_later Oxm_7.out b)
    have Xr_8 := Lib.hid (At5.below Xr_7.out b)
    have Xw_8 := Lib.hid (At5.below Xw_7.out b)
    have Xx_8 := Lib.hid (At5.below Xx_7.out b)
    have Cp_8 := Lib.hid (ownc_later Cp_7.out b)
    clear b
    obtain ⟨⟨qr0, qr1, qr2, qr3, qr4⟩, _⟩ := Xr_8.out
    obtain ⟨⟨qw0, qw1, qw2, qw3, qw4⟩, _⟩ := Xw_8.out
    obtain ⟨⟨qx0, qx1, qx2, qx3, qx4⟩, _⟩ := Xx_8.out
    go_wp2_with fail
    clear qr0 qr1 qr2 qr3 qr4
    clear qw0 qw1 qw2 qw3 qw4
    clear qx0 qx1 qx2 qx3 qx4
    refine (lyrt_is fU bU axp cxp (PU) lU axm cxm (MU) fU bU awp cwp (PU) lU awm cwm (MU) (show decide (((fU, bU, PU, lU, MU) : Rt) = (fU, bU, PU, lU, MU)) = true from decide_eq_true rfl) _ ⟨⟨(OwnI.intA Oxp_8.out).2.2, (OwnI.intA Oxm_8.out).2.2⟩, (OwnI.intA Oxp_8.out).2.1, (OwnI.intA Oxm_8.out).2.1, by omega, by omega⟩ ⟨⟨(OwnI.intA Owp_8.out).2.2, (OwnI.intA Owm_8.out).2.2⟩, (OwnI.intA Owp_8.out).2.1, (OwnI.intA Owm_8.out).2.1, by omega, by omega⟩).mono ?_
    rintro en w9 ⟨rfl, b⟩
    have HB9 := Lib.hid (HB8.out.trans (b.mono HB8.out.size))
    have hs9 := Lib.hid b.size
    have Orp_9 := Lib.hid (owni_later Orp_8.out b)
    have Orm_9 := Lib.hid (owni_later Orm_8.out b)
    have Owp_9 := Lib.hid (owni_later Owp_8.out b)
    have Owm_9 := Lib.hid (owni_later Owm_8.out b)
    have Oxp_9 := Lib.hid (owni_later Oxp_8.out b)
    have Oxm_9 := Lib.hid (owni_later Oxm_8.out b)
    have Xr_9 := Lib.hid (At5.below Xr_8.out b)
    have Xw_9 := Lib.hid (At5.below Xw_8.out b)
    have Xx_9 := Lib.hid (At5.below Xx_8.out b)
    have Cp_9 := Lib.hid (ownc_later Cp_8.out b)
    clear b
    obtain ⟨⟨qr0, qr1, qr2, qr3, qr4⟩, _⟩ := Xr_9.out
    obtain ⟨⟨qw0, qw1, qw2, qw3, qw4⟩, _⟩ := Xw_9.out
    obtain ⟨⟨qx0, qx1, qx2, qx3, qx4⟩, _⟩ := Xx_9.out
    go_wp2_with fail
    clear qr0 qr1 qr2 qr3 qr4
    clear qw0 qw1 qw2 qw3 qw4
    clear qx0 qx1 qx2 qx3 qx4
    go_ret
    exact ⟨rfl, HB9.out⟩
  | true =>
    obtain ⟨⟨qr0, qr1, qr2, qr3, qr4⟩, _⟩ := Xr_7.out
    obtain ⟨⟨qw0, qw1, qw2, qw3, qw4⟩, _⟩ := Xw_7.out
    obtain ⟨⟨qx0, qx1, qx2, qx3, qx4⟩, _⟩ := Xx_7.out
    go_wp2_with fail
    clear qr0 qr1 qr2 qr3 qr4
    clear qw0 qw1 qw2 qw3 qw4
    clear qx0 qx1 qx2 qx3 qx4
    refine (spolok_is Lp hp ap cp _ _ rfl (OwnC.cs Cp_7.out) (by omega)).mono ?_
    rintro en w8 ⟨rfl, b⟩
    have HB8 := Lib.hid (HB7.out.trans (b.mono HB7.out.size))
    have hs8 := Lib.hid b.size
    have Orp_8 := Lib.hid (owni_later Orp_7.out b)
    have Orm_8 := Lib.hid (owni_later Orm_7.out b)
    have Owp_8 := Lib.hid (owni_later Owp_7.out b)
    have Owm_8 := Lib.hid (owni_later Owm_7.out b)
    have Oxp_8 := Lib.hid (owni_later Oxp_7.out b)
    have Oxm_8 := Lib.hid (owni_later Oxm_7.out b)
    have Xr_8 := Lib.hid (At5.below Xr_7.out b)
    have Xw_8 := Lib.hid (At5.below Xw_7.out b)
    have Xx_8 := Lib.hid (At5.below Xx_7.out b)
    have Cp_8 := Lib.hid (ownc_later Cp_7.out b)
    clear b
    cases hr : rtOk (fr, br, Pr, lr, Mr) with
    | false =>
      obtain ⟨⟨qr0, qr1, qr2, qr3, qr4⟩, _⟩ := Xr_8.out
      obtain ⟨⟨qw0, qw1, qw2, qw3, qw4⟩, _⟩ := Xw_8.out
      obtain ⟨⟨qx0, qx1, qx2, qx3, qx4⟩, _⟩ := Xx_8.out
      go_wp2_with fail
      clear qr0 qr1 qr2 qr3 qr4
      clear qw0 qw1 qw2 qw3 qw4
      clear qx0 qx1 qx2 qx3 qx4
      refine (srok_is fr br arp crp (Pr) lr arm crm (Mr) hr _ ⟨⟨(OwnI.intA Orp_8.out).2.2, (OwnI.intA Orm_8.out).2.2⟩, (OwnI.intA Orp_8.out).2.1, (OwnI.intA Orm_8.out).2.1, by omega, by omega⟩).mono ?_
      rintro en w9 ⟨rfl, b⟩
      have HB9 := Lib.hid (HB8.out.trans (b.mono HB8.out.size))
      have hs9 := Lib.hid b.size
      have Orp_9 := Lib.hid (owni_later Orp_8.out b)
      have Orm_9 := Lib.hid (owni_later Orm_8.out b)
      have Owp_9 := Lib.hid (owni_later Owp_8.out b)
      have Owm_9 := Lib.hid (owni_later Owm_8.out b)
      have Oxp_9 := Lib.hid (owni_later Oxp_8.out b)
      have Oxm_9 := Lib.hid (owni_later Oxm_8.out b)
      have Xr_9 := Lib.hid (At5.below Xr_8.out b)
      have Xw_9 := Lib.hid (At5.below Xw_8.out b)
      have Xx_9 := Lib.hid (At5.below Xx_8.out b)
      have Cp_9 := Lib.hid (ownc_later Cp_8.out b)
      clear b
      obtain ⟨⟨qr0, qr1, qr2, qr3, qr4⟩, _⟩ := Xr_9.out
      obtain ⟨⟨qw0, qw1, qw2, qw3, qw4⟩, _⟩ := Xw_9.out
      obtain ⟨⟨qx0, qx1, qx2, qx3, qx4⟩, _⟩ := Xx_9.out
      go_wp2_with fail
      clear qr0 qr1 qr2 qr3 qr4
      clear qw0 qw1 qw2 qw3 qw4
      clear qx0 qx1 qx2 qx3 qx4
      refine (lyrt_is fU bU axp cxp (PU) lU axm cxm (MU) fU bU awp cwp (PU) lU awm cwm (MU) (show decide (((fU, bU, PU, lU, MU) : Rt) = (fU, bU, PU, lU, MU)) = true from decide_eq_true rfl) _ ⟨⟨(OwnI.intA Oxp_9.out).2.2, (OwnI.intA Oxm_9.out).2.2⟩, (OwnI.intA Oxp_9.out).2.1, (OwnI.intA Oxm_9.out).2.1, by omega, by omega⟩ ⟨⟨(OwnI.intA Owp_9.out).2.2, (OwnI.intA Owm_9.out).2.2⟩, (OwnI.intA Owp_9.out).2.1, (OwnI.intA Owm_9.out).2.1, by omega, by omega⟩).mono ?_
      rintro en w10 ⟨rfl, b⟩
      have HB10 := Lib.hid (HB9.out.trans (b.mono HB9.out.size))
      have hs10 := Lib.hid b.size
      have Orp_10 := Lib.hid (owni_later Orp_9.out b)
      have Orm_10 := Lib.hid (owni_later Orm_9.out b)
      have Owp_10 := Lib.hid (owni_later Owp_9.out b)
      have Owm_10 := Lib.hid (owni_later Owm_9.out b)
      have Oxp_10 := Lib.hid (owni_later Oxp_9.out b)
      have Oxm_10 := Lib.hid (owni_later Oxm_9.out b)
      have Xr_10 := Lib.hid (At5.below Xr_9.out b)
      have Xw_10 := Lib.hid (At5.below Xw_9.out b)
      have Xx_10 := Lib.hid (At5.below Xx_9.out b)
      have Cp_10 := Lib.hid (ownc_later Cp_9.out b)
      clear b
      obtain ⟨⟨qr0, qr1, qr2, qr3, qr4⟩, _⟩ := Xr_10.out
      obtain ⟨⟨qw0, qw1, qw2, qw3, qw4⟩, _⟩ := Xw_10.out
      obtain ⟨⟨qx0, qx1, qx2, qx3, qx4⟩, _⟩ := Xx_10.out
      go_wp2_with fail
      clear qr0 qr1 qr2 qr3 qr4
      clear qw0 qw1 qw2 qw3 qw4
      clear qx0 qx1 qx2 qx3 qx4
      go_ret
      exact ⟨rfl, HB10.out⟩
    | true =>
      obtain ⟨⟨qr0, qr1, qr2, qr3, qr4⟩, _⟩ := Xr_8.out
      obtain ⟨⟨qw0, qw1, qw2, qw3, qw4⟩, _⟩ := Xw_8.out
      obtain ⟨⟨qx0, qx1, qx2, qx3, qx4⟩, _⟩ := Xx_8.out
      go_wp2_with fail
      clear qr0 qr1 qr2 qr3 qr4
      clear qw0 qw1 qw2 qw3 qw4
      clear qx0 qx1 qx2 qx3 qx4
      refine (srok_is fr br arp crp (Pr) lr arm crm (Mr) hr _ ⟨⟨(OwnI.intA Orp_8.out).2.2, (OwnI.intA Orm_8.out).2.2⟩, (OwnI.intA Orp_8.out).2.1, (OwnI.intA Orm_8.out).2.1, by omega, by omega⟩).mono ?_
      rintro en w9 ⟨rfl, b⟩
      have HB9 := Lib.hid (HB8.out.trans (b.mono HB8.out.size))
      have hs9 := Lib.hid b.size
      have Orp_9 := Lib.hid (owni_later Orp_8.out b)
      have Orm_9 := Lib.hid (owni_later Orm_8.out b)
      have Owp_9 := Lib.hid (owni_later Owp_8.out b)
      have Owm_9 := Lib.hid (owni_later Owm_8.out b)
      have Oxp_9 := Lib.hid (owni_later Oxp_8.out b)
      have Oxm_9 := Lib.hid (owni_later Oxm_8.out b)
      have Xr_9 := Lib.hid (At5.below Xr_8.out b)
      have Xw_9 := Lib.hid (At5.below Xw_8.out b)
      have Xx_9 := Lib.hid (At5.below Xx_8.out b)
      have Cp_9 := Lib.hid (ownc_later Cp_8.out b)
      clear b
      obtain ⟨⟨qr0, qr1, qr2, qr3, qr4⟩, _⟩ := Xr_9.out
      obtain ⟨⟨qx0, qx1, qx2, qx3, qx4⟩, _⟩ := Xx_9.out
      go_wp2_with fail
      clear qr0 qr1 qr2 qr3 qr4
      clear qx0 qx1 qx2 qx3 qx4
      have HUf := Lib.hid (show firstC Lp (fr, br, Pr, lr, Mr) = ((fU, bU, PU, lU, MU), u) by rw [← HU.out, polDo_yes hp hr])
      have HRg := Lib.hid ((rtOk_iff _).1 hr)
      have hlP5 : Pr.length ≤ 5 := HRg.out.path.len
      have hlM9 : Mr.length ≤ 9 := HRg.out.marks.len
      go_loopw [9, 10] (fun i _ wr => ∃ k : Nat, k ≤ Lp.length ∧ i = .int .i64 k ∧ Hid (∀ (j : Nat) d, j < k → Lp[j]? = some d → fitsC d (fr, br, Pr, lr, Mr) = false) ∧ Hid (Below w9.heap.size w9 wr)) (fun i _ _ => Lp.length - (intOf i).toNat)
      case atStart => exact ⟨0, Nat.zero_le _, rfl, Lib.hid (fun j d hj => by omega), Lib.hid (Below.refl _ _)⟩
      case round =>
        obtain ⟨k, hk, rfl, HN, HL⟩ := hrel
        have HB10 := Lib.hid (HB9.out.trans (HL.out.mono HB9.out.size))
        have hs10 := Lib.hid HL.out.size
        have Orp_10 := Lib.hid (owni_later Orp_9.out HL.out)
        have Orm_10 := Lib.hid (owni_later Orm_9.out HL.out)
        have Oxp_10 := Lib.hid (owni_later Oxp_9.out HL.out)
        have Oxm_10 := Lib.hid (owni_later Oxm_9.out HL.out)
        have Xr_10 := Lib.hid (At5.below Xr_9.out HL.out)
        have Xx_10 := Lib.hid (At5.below Xx_9.out HL.out)
        have Cp_10 := Lib.hid (ownc_later Cp_9.out HL.out)
        by_cases hlt : k < Lp.length
        · obtain ⟨d, hd⟩ : ∃ d, Lp[k]? = some d := ⟨_, List.getElem?_eq_getElem hlt⟩
          have HD := Lib.hid hd
          have hok : clOk d = true := ((polOk_iff Lp).1 hp).2 d (List.mem_of_getElem? hd)
          have HG := Lib.hid (clOk_good hok)
          obtain ⟨b3, off3, rfl, n0, n1, n2, n3, n4, n5, n6, n7⟩ := CsA.at (OwnC.cs Cp_10.out) hd
          have i0 : (0 : Int) ≤ (k : Int) := by omega
          have i1 : (k : Int) < (Lp.length : Int) := by omega
          clear hd
          have HB11 := Lib.hid (HB10.out.alloc HB10.out.size (.cells #[.int .i64 d.i, .int .i64 d.n, .int .i64 d.f, .int .i64 d.b, .bool d.x, .int .i64 d.l, .int .i64 d.m, .int .i64 d.k] 26))
          have hs11 := Lib.hid (show wr.heap.size + 1 = (wr.alloc (.cells #[.int .i64 d.i, .int .i64 d.n, .int .i64 d.f, .int .i64 d.b, .bool d.x, .int .i64 d.l, .int .i64 d.m, .int .i64 d.k] 26)).heap.size by simp)
          have Orp_11 := Lib.hid (World.ownsRow.alloc Orp_10.out (.cells #[.int .i64 d.i, .int .i64 d.n, .int .i64 d.f, .int .i64 d.b, .bool d.x, .int .i64 d.l, .int .i64 d.m, .int .i64 d.k] 26))
          have Orm_11 := Lib.hid (World.ownsRow.alloc Orm_10.out (.cells #[.int .i64 d.i, .int .i64 d.n, .int .i64 d.f, .int .i64 d.b, .bool d.x, .int .i64 d.l, .int .i64 d.m, .int .i64 d.k] 26))
          have Oxp_11 := Lib.hid (World.ownsRow.alloc Oxp_10.out (.cells #[.int .i64 d.i, .int .i64 d.n, .int .i64 d.f, .int .i64 d.b, .bool d.x, .int .i64 d.l, .int .i64 d.m, .int .i64 d.k] 26))
          have Oxm_11 := Lib.hid (World.ownsRow.alloc Oxm_10.out (.cells #[.int .i64 d.i, .int .i64 d.n, .int .i64 d.f, .int .i64 d.b, .bool d.x, .int .i64 d.l, .int .i64 d.m, .int .i64 d.k] 26))
          have Xr_11 := Lib.hid (At5.alloc Xr_10.out (.cells #[.int .i64 d.i, .int .i64 d.n, .int .i64 d.f, .int .i64 d.b, .bool d.x, .int .i64 d.l, .int .i64 d.m, .int .i64 d.k] 26))
          have Xx_11 := Lib.hid (At5.alloc Xx_10.out (.cells #[.int .i64 d.i, .int .i64 d.n, .int .i64 d.f, .int .i64 d.b, .bool d.x, .int .i64 d.l, .int .i64 d.m, .int .i64 d.k] 26))
          have Cp_11 := Lib.hid (World.ownsRow.alloc Cp_10.out (.cells #[.int .i64 d.i, .int .i64 d.n, .int .i64 d.f, .int .i64 d.b, .bool d.x, .int .i64 d.l, .int .i64 d.m, .int .i64 d.k] 26))
          have Ad_11 : Hid (AtL (wr.alloc (.cells #[.int .i64 d.i, .int .i64 d.n, .int .i64 d.f, .int .i64 d.b, .bool d.x, .int .i64 d.l, .int .i64 d.m, .int .i64 d.k] 26)) wr.heap.size 0 d.cells) := Lib.hid (AtL.new wr d 26)
          have HLa := Lib.hid (HL.out.alloc HL.out.size (.cells #[.int .i64 d.i, .int .i64 d.n, .int .i64 d.f, .int .i64 d.b, .bool d.x, .int .i64 d.l, .int .i64 d.m, .int .i64 d.k] 26))
          obtain ⟨⟨qr0, qr1, qr2, qr3, qr4⟩, _⟩ := Xr_11.out
          obtain ⟨⟨qx0, qx1, qx2, qx3, qx4⟩, _⟩ := Xx_11.out
          go_wp2_with fail
          clear n0 n1 n2 n3 n4 n5 n6 n7
          clear qr0 qr1 qr2 qr3 qr4
          clear qx0 qx1 qx2 qx3 qx4
          generalize wr.alloc (.cells #[.int .i64 d.i, .int .i64 d.n, .int .i64 d.f, .int .i64 d.b, .bool d.x, .int .i64 d.l, .int .i64 d.m, .int .i64 d.k] 26) = w11 at *
          cases hx : fitsC d (fr, br, Pr, lr, Mr) with
          | false =>
            have HX := Lib.hid (show clFits d (fr, br, Pr, lr, Mr) = false by rw [clFits_yes hok hr, hx])
            have HN2 : Hid (∀ (j : Nat) x, j < k + 1 → Lp[j]? = some x → fitsC x (fr, br, Pr, lr, Mr) = false) := Lib.hid (fun j x hj hxx => by
              by_cases e : j = k
              · subst e; rw [HD.out] at hxx; cases hxx; exact hx
              · exact HN.out j x (by omega) hxx)
            clear hx
            refine (iclfits_is d fr br arp crp (Pr) lr arm crm (Mr) HX.out _ p ⟨⟨(OwnI.intA Orp_11.out).2.2, (OwnI.intA Orm_11.out).2.2⟩, (OwnI.intA Orp_11.out).2.1, (OwnI.intA Orm_11.out).2.1, by omega, by omega⟩ (HE.out.below HB11.out)).mono ?_
            rintro en w12 ⟨rfl, b⟩
            have HLx := Lib.hid (HLa.out.trans (b.mono HLa.out.size))
            have HB12 := Lib.hid (HB11.out.trans (b.mono HB11.out.size))
            have hs12 := Lib.hid b.size
            have Orp_12 := Lib.hid (owni_later Orp_11.out b)
            have Orm_12 := Lib.hid (owni_later Orm_11.out b)
            have Oxp_12 := Lib.hid (owni_later Oxp_11.out b)
            have Oxm_12 := Lib.hid (owni_later Oxm_11.out b)
            have Xr_12 := Lib.hid (At5.below Xr_11.out b)
            have Xx_12 := Lib.hid (At5.below Xx_11.out b)
            have Ad_12 := Lib.hid (AtL.below Ad_11.out b)
            have Cp_12 := Lib.hid (ownc_later Cp_11.out b)
            clear b
            go_wp2_with fail
            go_roundw
            case rel => exact ⟨k + 1, by omega, by go_num, HN2, HLx⟩
            case measure => simp [intOf]; omega
          | true =>
            have HX := Lib.hid (show clFits d (fr, br, Pr, lr, Mr) = true by rw [clFits_yes hok hr, hx])
            have HAp := Lib.hid (show applyC d (fr, br, Pr, lr, Mr) = ((fU, bU, PU, lU, MU), u) by rw [← HUf.out]; exact (firstC_hit HD.out hx HN.out).symm)
            clear hx
            refine (iclfits_is d fr br arp crp (Pr) lr arm crm (Mr) HX.out _ p ⟨⟨(OwnI.intA Orp_11.out).2.2, (OwnI.intA Orm_11.out).2.2⟩, (OwnI.intA Orp_11.out).2.1, (OwnI.intA Orm_11.out).2.1, by omega, by omega⟩ (HE.out.below HB11.out)).mono ?_
            rintro en w12 ⟨rfl, b⟩
            have HB12 := Lib.hid (HB11.out.trans (b.mono HB11.out.size))
            have hs12 := Lib.hid b.size
            have Orp_12 := Lib.hid (owni_later Orp_11.out b)
            have Orm_12 := Lib.hid (owni_later Orm_11.out b)
            have Oxp_12 := Lib.hid (owni_later Oxp_11.out b)
            have Oxm_12 := Lib.hid (owni_later Oxm_11.out b)
            have Xr_12 := Lib.hid (At5.below Xr_11.out b)
            have Xx_12 := Lib.hid (At5.below Xx_11.out b)
            have Ad_12 := Lib.hid (AtL.below Ad_11.out b)
            have Cp_12 := Lib.hid (ownc_later Cp_11.out b)
            clear b
            have k4 := Ad_12.out.z8.1.2.2.2.2.1
            by_cases hxx : d.x = true
            · have hu : u = false := by have := HAp.out; simp [applyC, hxx] at this; first | exact this.2 | exact this.2.symm
              subst hu
              go_wp2_with fail
              go_ret
              exact ⟨rfl, HB12.out⟩
            have hxf : d.x = false := by simpa using hxx
            have hmk : makeC d (fr, br, Pr, lr, Mr) = (fU, bU, PU, lU, MU) ∧ u = true := by have := HAp.out; simp only [applyC, hxf] at this; simpa [eq_comm] using this
            obtain ⟨hmk, hu⟩ := hmk
            subst hu
            have HMK := Lib.hid hmk
            clear hxx hmk HAp
            have Nrp := Lib.hid (show (Value.slice arp (Pr).length crp).ownBlock ≠ some w12.heap.size from fun h => by have := (World.ownsRow.lt Orp_12.out _ h).2; omega)
            have Nrm := Lib.hid (show (Value.slice arm (Mr).length crm).ownBlock ≠ some w12.heap.size from fun h => by have := (World.ownsRow.lt Orm_12.out _ h).2; omega)
            have Nxp := Lib.hid (show (Value.slice axp (PU).length cxp).ownBlock ≠ some w12.heap.size from fun h => by have := (World.ownsRow.lt Oxp_12.out _ h).2; omega)
            have Nxm := Lib.hid (show (Value.slice axm (MU).length cxm).ownBlock ≠ some w12.heap.size from fun h => by have := (World.ownsRow.lt Oxm_12.out _ h).2; omega)
            have NXr := Lib.hid (show ¬ (some (w1.heap.size) = some w12.heap.size) from fun h => by have := At5.lt Xr_12.out; have e := Option.some.inj h; omega)
            have NXx := Lib.hid (show ¬ (some (w5.heap.size) = some w12.heap.size) from fun h => by have := At5.lt Xx_12.out; have e := Option.some.inj h; omega)
            have NAd := Lib.hid (show ¬ (some (wr.heap.size) = some w12.heap.size) from fun h => by have := AtL.lt Ad_12.out (by show 0 < 8; omega); have e := Option.some.inj h; omega)
            have hRw := Lib.hid HB12.out.size
            have HB13 := Lib.hid (HB12.out.alloc HB12.out.size (.cells #[.int .i64 fr, .int .i64 br, .slice arp (Pr).length crp, .int .i64 lr, .slice arm (Mr).length crm] 29))
            have hs13 : Hid (w12.heap.size ≤ (w12.alloc (.cells #[.int .i64 fr, .int .i64 br, .slice arp (Pr).length crp, .int .i64 lr, .slice arm (Mr).length crm] 29)).heap.size) := Lib.hid (by simp)
            have Orp_13 := Lib.hid (World.ownsRow.alloc Orp_12.out (.cells #[.int .i64 fr, .int .i64 br, .slice arp (Pr).length crp, .int .i64 lr, .slice arm (Mr).length crm] 29))
            have Orm_13 := Lib.hid (World.ownsRow.alloc Orm_12.out (.cells #[.int .i64 fr, .int .i64 br, .slice arp (Pr).length crp, .int .i64 lr, .slice arm (Mr).length crm] 29))
            have Oxp_13 := Lib.hid (World.ownsRow.alloc Oxp_12.out (.cells #[.int .i64 fr, .int .i64 br, .slice arp (Pr).length crp, .int .i64 lr, .slice arm (Mr).length crm] 29))
            have Oxm_13 := Lib.hid (World.ownsRow.alloc Oxm_12.out (.cells #[.int .i64 fr, .int .i64 br, .slice arp (Pr).length crp, .int .i64 lr, .slice arm (Mr).length crm] 29))
            have Xr_13 := Lib.hid (At5.alloc Xr_12.out (.cells #[.int .i64 fr, .int .i64 br, .slice arp (Pr).length crp, .int .i64 lr, .slice arm (Mr).length crm] 29))
            have Xx_13 := Lib.hid (At5.alloc Xx_12.out (.cells #[.int .i64 fr, .int .i64 br, .slice arp (Pr).length crp, .int .i64 lr, .slice arm (Mr).length crm] 29))
            have Ad_13 := Lib.hid (AtL.alloc Ad_12.out (.cells #[.int .i64 fr, .int .i64 br, .slice arp (Pr).length crp, .int .i64 lr, .slice arm (Mr).length crm] 29))
            have Xy_13 := Lib.hid (At5.new w12 (.int .i64 fr) (.int .i64 br) (.slice arp (Pr).length crp) (.int .i64 lr) (.slice arm (Mr).length crm) 29)
            obtain ⟨⟨qr0, qr1, qr2, qr3, qr4⟩, _⟩ := Xr_12.out
            go_wp2_with (refine wpList_halt 3 (.tmp 78) rfl ?_)
            clear qr0 qr1 qr2 qr3 qr4 k4 hxf
            intro w13 hw
            rw [← hw] at HB13 hs13 Orp_13 Orm_13 Oxp_13 Oxm_13 Xr_13 Xx_13 Xy_13 Ad_13
            clear hw
            have ltR : w12.heap.size < w13.heap.size := At5.lt Xy_13.out
            generalize hRR : w12.heap.size = R at *
            clear hRR
            by_cases hl : 0 ≤ d.l
            · have k5 := Ad_13.out.z8.1.2.2.2.2.2.1
              have EL := Lib.hid (show likeC d lr = d.l by rw [likeC, if_neg (by omega)])
              have hlr : 0 ≤ d.l ∧ d.l ≤ 9 := by have := HG.out.like; omega
              go_wp2_with (refine wpList_st1 rfl 3 (.tmp 83) (.tmp 82) rfl R 3 (.int .i64 d.l) ?x1 ?y1 rfl rfl infoI1 _ (At5.toL Xy_13.out) (by show 3 < 5; omega) ?g1)
              try case x1 => rfl
              try case y1 => rfl
              intro w14 aa gg
              have HB14 := Lib.hid (below_only HB13.out gg HB13.out.size hRw.out)
              have hs14 := Lib.hid gg.size
              have Orp_14 := Lib.hid (owni_only Orp_13.out gg Nrp.out)
              have Orm_14 := Lib.hid (owni_only Orm_13.out gg Nrm.out)
              have Oxp_14 := Lib.hid (owni_only Oxp_13.out gg Nxp.out)
              have Oxm_14 := Lib.hid (owni_only Oxm_13.out gg Nxm.out)
              have Xr_14 := Lib.hid (At5.only Xr_13.out gg (fun e => NXr.out e))
              have Xx_14 := Lib.hid (At5.only Xx_13.out gg (fun e => NXx.out e))
              have Ad_14 := Lib.hid (AtL.only Ad_13.out gg (fun e => NAd.out e))
              have Xy_14 : Hid (At5 w14 R (.int .i64 fr) (.int .i64 br) (.slice arp Pr.length crp) (.int .i64 (d.l)) (.slice arm (Mr).length crm)) := Lib.hid (AtL.to5 aa)
              clear aa gg
              clear k5
              by_cases hm : 0 < d.m
              · have k6 := Ad_14.out.z8.1.2.2.2.2.2.2.1
                obtain ⟨M2, hM2⟩ : ∃ N, N = mins Mr d.m := ⟨_, rfl⟩
                have EM := Lib.hid (show markC d Mr = M2 by rw [hM2, markC, if_neg (by omega)])
                have hr2 : 1 ≤ d.m ∧ d.m ≤ 9 := by have := HG.out.mark; omega
                have HK2 : Hid (Marks M2) := Lib.hid (by rw [hM2]; exact (HRg.out.marks).mins hr2)
                have hl2 : M2.length ≤ 9 := HK2.out.len
                have HV2 : Hid (rtMark ((fr, br, Pr, d.l, Mr) : Rt) d.m = ((fr, br, Pr, d.l, M2), true)) := Lib.hid (by rw [hM2]; exact rtMark_yes ((rtOk_iff _).2 ⟨HRg.out.ran, HRg.out.path, HRg.out.some, hlr, HRg.out.marks⟩) ((isM_iff _).2 hr2))
                clear hM2 hr2
                obtain ⟨⟨g0, g1, g2, g3, g4⟩, _⟩ := Xy_14.out
                go_wp2_with fail
                clear g0 g1 g2 g3 g4 k6 
                refine (irtmark_is fr br arp crp Pr (d.l) arm crm (Mr) HV2.out _ p ⟨⟨(OwnI.intA Orp_14.out).2.2, (OwnI.intA Orm_14.out).2.2⟩, (OwnI.intA Orp_14.out).2.1, (OwnI.intA Orm_14.out).2.1, by omega, by omega⟩ (HE.out.below HB14.out)).mono ?_
                rintro en w15 ⟨pv, mv, rfl, S, o, bP, o2, hS, b⟩
                have HB15 := Lib.hid (HB14.out.trans (b.mono HB14.out.size))
                have hs15 := Lib.hid b.size
                have Orp_15 := Lib.hid (owni_later Orp_14.out b)
                have Orm_15 := Lib.hid (owni_later Orm_14.out b)
                have Oxp_15 := Lib.hid (owni_later Oxp_14.out b)
                have Oxm_15 := Lib.hid (owni_later Oxm_14.out b)
                have Xr_15 := Lib.hid (At5.below Xr_14.out b)
                have Xx_15 := Lib.hid (At5.below Xx_14.out b)
                have Xy_15 := Lib.hid (At5.below Xy_14.out b)
                have Ad_15 := Lib.hid (AtL.below Ad_14.out b)
                replace o : OwnI w15 w14.heap.size pv Pr := o
                replace o2 : OwnI w15 S mv M2 := o2
                obtain ⟨az2p, cz2p, rfl, _, _⟩ := OwnI.tab o
                obtain ⟨az2m, cz2m, rfl, _, _⟩ := OwnI.tab o2
                have Az2 := Lib.hid (apart2 bP o2)
                have Bz2p := Lib.hid (OwnI.btw o)
                have Bz2m := Lib.hid ((OwnI.btw o2).mono hS (Nat.le_refl _))
                have Oz2p_15 := Lib.hid (owni_mono o HB14.out.size)
                have Oz2m_15 := Lib.hid (owni_mono o2 (Nat.le_trans HB14.out.size hS))
                clear o o2 bP hS b
                have Nz2p := Lib.hid (show (Value.slice az2p (Pr).length cz2p).ownBlock ≠ some R from fun h => by have := (Bz2p.out _ h).1; have := At5.lt Xy_14.out; omega)
                have Nz2m := Lib.hid (show (Value.slice az2m (M2).length cz2m).ownBlock ≠ some R from fun h => by have := (Bz2m.out _ h).1; have := At5.lt Xy_14.out; omega)
                go_wp2_with (refine wpList_stA rfl 29 (.tmp 11) (.tmp 92) rfl R #[.int .i64 fr, .int .i64 br, .slice az2p Pr.length cz2p, .int .i64 (d.l), .slice az2m (M2).length cz2m] ?x2 ?y2 (one5a _ _ _ _ _ _ _ _ _) infoR5 _ (At5.toL Xy_15.out) ?l2 ?g2)
                try case x2 => rfl
                try case y2 => rfl
                try case l2 => rfl
                intro w16 aa gg
                have HB16 := Lib.hid (below_only HB15.out gg HB15.out.size hRw.out)
                have hs16 := Lib.hid gg.size
                have Orp_16 := Lib.hid (owni_only Orp_15.out gg Nrp.out)
                have Orm_16 := Lib.hid (owni_only Orm_15.out gg Nrm.out)
                have Oxp_16 := Lib.hid (owni_only Oxp_15.out gg Nxp.out)
                have Oxm_16 := Lib.hid (owni_only Oxm_15.out gg Nxm.out)
                have Oz2p_16 := Lib.hid (owni_only Oz2p_15.out gg Nz2p.out)
                have Oz2m_16 := Lib.hid (owni_only Oz2m_15.out gg Nz2m.out)
                have Xr_16 := Lib.hid (At5.only Xr_15.out gg (fun e => NXr.out e))
                have Xx_16 := Lib.hid (At5.only Xx_15.out gg (fun e => NXx.out e))
                have Ad_16 := Lib.hid (AtL.only Ad_15.out gg (fun e => NAd.out e))
                have Xy_16 : Hid (At5 w16 R (.int .i64 fr) (.int .i64 br) (.slice az2p Pr.length cz2p) (.int .i64 (d.l)) (.slice az2m (M2).length cz2m)) := Lib.hid (AtL.to5 aa)
                clear aa gg
                by_cases hk : 0 < d.k
                · have k7 := Ad_16.out.z8.1.2.2.2.2.2.2.2
                  obtain ⟨M3, hM3⟩ : ∃ N, N = mdel M2 d.k := ⟨_, rfl⟩
                  have EK := Lib.hid (show clearC d M2 = M3 by rw [hM3, clearC, if_neg (by omega)])
                  have hr3 : 1 ≤ d.k ∧ d.k ≤ 9 := by have := HG.out.clear; omega
                  have HK3 : Hid (Marks M3) := Lib.hid (by rw [hM3]; exact (HK2.out).mdel)
                  have hl3 : M3.length ≤ 9 := HK3.out.len
                  have HV3 : Hid (rtClear ((fr, br, Pr, d.l, M2) : Rt) d.k = ((fr, br, Pr, d.l, M3), true)) := Lib.hid (by rw [hM3]; exact rtClear_yes ((rtOk_iff _).2 ⟨HRg.out.ran, HRg.out.path, HRg.out.some, hlr, HK2.out⟩) ((isM_iff _).2 hr3))
                  clear hM3 hr3
                  obtain ⟨⟨g0, g1, g2, g3, g4⟩, _⟩ := Xy_16.out
                  go_wp2_with fail
                  clear g0 g1 g2 g3 g4 k7 
                  refine (irtclear_is fr br az2p cz2p Pr (d.l) az2m cz2m (M2) HV3.out _ p ⟨⟨(OwnI.intA Oz2p_16.out).2.2, (OwnI.intA Oz2m_16.out).2.2⟩, (OwnI.intA Oz2p_16.out).2.1, (OwnI.intA Oz2m_16.out).2.1, by omega, by omega⟩ (HE.out.below HB16.out)).mono ?_
                  rintro en w17 ⟨pv, mv, rfl, S, o, bP, o2, hS, b⟩
                  have HB17 := Lib.hid (HB16.out.trans (b.mono HB16.out.size))
                  have hs17 := Lib.hid b.size
                  have Orp_17 := Lib.hid (owni_later Orp_16.out b)
                  have Orm_17 := Lib.hid (owni_later Orm_16.out b)
                  have Oxp_17 := Lib.hid (owni_later Oxp_16.out b)
                  have Oxm_17 := Lib.hid (owni_later Oxm_16.out b)
                  have Oz2p_17 := Lib.hid (owni_later Oz2p_16.out b)
                  have Oz2m_17 := Lib.hid (owni_later Oz2m_16.out b)
                  have Xr_17 := Lib.hid (At5.below Xr_16.out b)
                  have Xx_17 := Lib.hid (At5.below Xx_16.out b)
                  have Xy_17 := Lib.hid (At5.below Xy_16.out b)
                  have Ad_17 := Lib.hid (AtL.below Ad_16.out b)
                  replace o : OwnI w17 w16.heap.size pv Pr := o
                  replace o2 : OwnI w17 S mv M3 := o2
                  obtain ⟨az3p, cz3p, rfl, _, _⟩ := OwnI.tab o
                  obtain ⟨az3m, cz3m, rfl, _, _⟩ := OwnI.tab o2
                  have Az3 := Lib.hid (apart2 bP o2)
                  have Bz3p := Lib.hid (OwnI.btw o)
                  have Bz3m := Lib.hid ((OwnI.btw o2).mono hS (Nat.le_refl _))
                  have Oz3p_17 := Lib.hid (owni_mono o HB16.out.size)
                  have Oz3m_17 := Lib.hid (owni_mono o2 (Nat.le_trans HB16.out.size hS))
                  clear o o2 bP hS b
                  have Nz3p := Lib.hid (show (Value.slice az3p (Pr).length cz3p).ownBlock ≠ some R from fun h => by have := (Bz3p.out _ h).1; have := At5.lt Xy_16.out; omega)
                  have Nz3m := Lib.hid (show (Value.slice az3m (M3).length cz3m).ownBlock ≠ some R from fun h => by have := (Bz3m.out _ h).1; have := At5.lt Xy_16.out; omega)
                  go_wp2_with (refine wpList_stA rfl 29 (.tmp 11) (.tmp 102) rfl R #[.int .i64 fr, .int .i64 br, .slice az3p Pr.length cz3p, .int .i64 (d.l), .slice az3m (M3).length cz3m] ?x3 ?y3 (one5a _ _ _ _ _ _ _ _ _) infoR5 _ (At5.toL Xy_17.out) ?l3 ?g3)
                  try case x3 => rfl
                  try case y3 => rfl
                  try case l3 => rfl
                  intro w18 aa gg
                  have HB18 := Lib.hid (below_only HB17.out gg HB17.out.size hRw.out)
                  have hs18 := Lib.hid gg.size
                  have Orp_18 := Lib.hid (owni_only Orp_17.out gg Nrp.out)
                  have Orm_18 := Lib.hid (owni_only Orm_17.out gg Nrm.out)
                  have Oxp_18 := Lib.hid (owni_only Oxp_17.out gg Nxp.out)
                  have Oxm_18 := Lib.hid (owni_only Oxm_17.out gg Nxm.out)
                  have Oz2p_18 := Lib.hid (owni_only Oz2p_17.out gg Nz2p.out)
                  have Oz2m_18 := Lib.hid (owni_only Oz2m_17.out gg Nz2m.out)
                  have Oz3p_18 := Lib.hid (owni_only Oz3p_17.out gg Nz3p.out)
                  have Oz3m_18 := Lib.hid (owni_only Oz3m_17.out gg Nz3m.out)
                  have Xr_18 := Lib.hid (At5.only Xr_17.out gg (fun e => NXr.out e))
                  have Xx_18 := Lib.hid (At5.only Xx_17.out gg (fun e => NXx.out e))
                  have Ad_18 := Lib.hid (AtL.only Ad_17.out gg (fun e => NAd.out e))
                  have Xy_18 : Hid (At5 w18 R (.int .i64 fr) (.int .i64 br) (.slice az3p Pr.length cz3p) (.int .i64 (d.l)) (.slice az3m (M3).length cz3m)) := Lib.hid (AtL.to5 aa)
                  clear aa gg
                  have HEQ := Lib.hid (show decide (((fU, bU, PU, lU, MU) : Rt) = (fr, br, Pr, d.l, M3)) = true from decide_eq_true (by rw [← HMK.out]; unfold makeC; dsimp only; rw [EL.out, EM.out, EK.out]))
                  obtain ⟨⟨g0, g1, g2, g3, g4⟩, _⟩ := Xy_18.out
                  obtain ⟨⟨qx0, qx1, qx2, qx3, qx4⟩, _⟩ := Xx_18.out
                  go_wp2_with fail
                  clear g0 g1 g2 g3 g4 qx0 qx1 qx2 qx3 qx4 
                  refine (lyrt_is fU bU axp cxp (PU) lU axm cxm (MU) fr br az3p cz3p Pr (d.l) az3m cz3m (M3) HEQ.out _ ⟨⟨(OwnI.intA Oxp_18.out).2.2, (OwnI.intA Oxm_18.out).2.2⟩, (OwnI.intA Oxp_18.out).2.1, (OwnI.intA Oxm_18.out).2.1, by omega, by omega⟩ ⟨⟨(OwnI.intA Oz3p_18.out).2.2, (OwnI.intA Oz3m_18.out).2.2⟩, (OwnI.intA Oz3p_18.out).2.1, (OwnI.intA Oz3m_18.out).2.1, by omega, by omega⟩).mono ?_
                  rintro en w19 ⟨rfl, b⟩
                  have HB19 := Lib.hid (HB18.out.trans (b.mono HB18.out.size))
                  have hs19 := Lib.hid b.size
                  have Orp_19 := Lib.hid (owni_later Orp_18.out b)
                  have Orm_19 := Lib.hid (owni_later Orm_18.out b)
                  have Oxp_19 := Lib.hid (owni_later Oxp_18.out b)
                  have Oxm_19 := Lib.hid (owni_later Oxm_18.out b)
                  have Oz2p_19 := Lib.hid (owni_later Oz2p_18.out b)
                  have Oz2m_19 := Lib.hid (owni_later Oz2m_18.out b)
                  have Oz3p_19 := Lib.hid (owni_later Oz3p_18.out b)
                  have Oz3m_19 := Lib.hid (owni_later Oz3m_18.out b)
                  have Xr_19 := Lib.hid (At5.below Xr_18.out b)
                  have Xx_19 := Lib.hid (At5.below Xx_18.out b)
                  have Xy_19 := Lib.hid (At5.below Xy_18.out b)
                  have Ad_19 := Lib.hid (AtL.below Ad_18.out b)
                  clear b
                  go_wp2_with fail
                  go_ret
                  exact ⟨rfl, HB19.out⟩
                · have k7 := Ad_16.out.z8.1.2.2.2.2.2.2.2
                  have EK := Lib.hid (show clearC d M2 = M2 by rw [clearC, if_pos (by have := HG.out.clear; omega)])
                  have HEQ := Lib.hid (show decide (((fU, bU, PU, lU, MU) : Rt) = (fr, br, Pr, d.l, M2)) = true from decide_eq_true (by rw [← HMK.out]; unfold makeC; dsimp only; rw [EL.out, EM.out, EK.out]))
                  obtain ⟨⟨g0, g1, g2, g3, g4⟩, _⟩ := Xy_16.out
                  obtain ⟨⟨qx0, qx1, qx2, qx3, qx4⟩, _⟩ := Xx_16.out
                  go_wp2_with fail
                  clear g0 g1 g2 g3 g4 qx0 qx1 qx2 qx3 qx4 k7
                  refine (lyrt_is fU bU axp cxp (PU) lU axm cxm (MU) fr br az2p cz2p Pr (d.l) az2m cz2m (M2) HEQ.out _ ⟨⟨(OwnI.intA Oxp_16.out).2.2, (OwnI.intA Oxm_16.out).2.2⟩, (OwnI.intA Oxp_16.out).2.1, (OwnI.intA Oxm_16.out).2.1, by omega, by omega⟩ ⟨⟨(OwnI.intA Oz2p_16.out).2.2, (OwnI.intA Oz2m_16.out).2.2⟩, (OwnI.intA Oz2p_16.out).2.1, (OwnI.intA Oz2m_16.out).2.1, by omega, by omega⟩).mono ?_
                  rintro en w17 ⟨rfl, b⟩
                  have HB17 := Lib.hid (HB16.out.trans (b.mono HB16.out.size))
                  have hs17 := Lib.hid b.size
                  have Orp_17 := Lib.hid (owni_later Orp_16.out b)
                  have Orm_17 := Lib.hid (owni_later Orm_16.out b)
                  have Oxp_17 := Lib.hid (owni_later Oxp_16.out b)
                  have Oxm_17 := Lib.hid (owni_later Oxm_16.out b)
                  have Oz2p_17 := Lib.hid (owni_later Oz2p_16.out b)
                  have Oz2m_17 := Lib.hid (owni_later Oz2m_16.out b)
                  have Xr_17 := Lib.hid (At5.below Xr_16.out b)
                  have Xx_17 := Lib.hid (At5.below Xx_16.out b)
                  have Xy_17 := Lib.hid (At5.below Xy_16.out b)
                  have Ad_17 := Lib.hid (AtL.below Ad_16.out b)
                  clear b
                  go_wp2_with fail
                  go_ret
                  exact ⟨rfl, HB17.out⟩
              · have k6 := Ad_14.out.z8.1.2.2.2.2.2.2.1
                have EM := Lib.hid (show markC d Mr = Mr by rw [markC, if_pos (by have := HG.out.mark; omega)])
                by_cases hk : 0 < d.k
                · have k7 := Ad_14.out.z8.1.2.2.2.2.2.2.2
                  obtain ⟨M3, hM3⟩ : ∃ N, N = mdel Mr d.k := ⟨_, rfl⟩
                  have EK := Lib.hid (show clearC d Mr = M3 by rw [hM3, clearC, if_neg (by omega)])
                  have hr3 : 1 ≤ d.k ∧ d.k ≤ 9 := by have := HG.out.clear; omega
                  have HK3 : Hid (Marks M3) := Lib.hid (by rw [hM3]; exact (HRg.out.marks).mdel)
                  have hl3 : M3.length ≤ 9 := HK3.out.len
                  have HV3 : Hid (rtClear ((fr, br, Pr, d.l, Mr) : Rt) d.k = ((fr, br, Pr, d.l, M3), true)) := Lib.hid (by rw [hM3]; exact rtClear_yes ((rtOk_iff _).2 ⟨HRg.out.ran, HRg.out.path, HRg.out.some, hlr, HRg.out.marks⟩) ((isM_iff _).2 hr3))
                  clear hM3 hr3
                  obtain ⟨⟨g0, g1, g2, g3, g4⟩, _⟩ := Xy_14.out
                  go_wp2_with fail
                  clear g0 g1 g2 g3 g4 k7 k6
                  refine (irtclear_is fr br arp crp Pr (d.l) arm crm (Mr) HV3.out _ p ⟨⟨(OwnI.intA Orp_14.out).2.2, (OwnI.intA Orm_14.out).2.2⟩, (OwnI.intA Orp_14.out).2.1, (OwnI.intA Orm_14.out).2.1, by omega, by omega⟩ (HE.out.below HB14.out)).mono ?_
                  rintro en w15 ⟨pv, mv, rfl, S, o, bP, o2, hS, b⟩
                  have HB15 := Lib.hid (HB14.out.trans (b.mono HB14.out.size))
                  have hs15 := Lib.hid b.size
                  have Orp_15 := Lib.hid (owni_later Orp_14.out b)
                  have Orm_15 := Lib.hid (owni_later Orm_14.out b)
                  have Oxp_15 := Lib.hid (owni_later Oxp_14.out b)
                  have Oxm_15 := Lib.hid (owni_later Oxm_14.out b)
                  have Xr_15 := Lib.hid (At5.below Xr_14.out b)
                  have Xx_15 := Lib.hid (At5.below Xx_14.out b)
                  have Xy_15 := Lib.hid (At5.below Xy_14.out b)
                  have Ad_15 := Lib.hid (AtL.below Ad_14.out b)
                  replace o : OwnI w15 w14.heap.size pv Pr := o
                  replace o2 : OwnI w15 S mv M3 := o2
                  obtain ⟨az3p, cz3p, rfl, _, _⟩ := OwnI.tab o
                  obtain ⟨az3m, cz3m, rfl, _, _⟩ := OwnI.tab o2
                  have Az3 := Lib.hid (apart2 bP o2)
                  have Bz3p := Lib.hid (OwnI.btw o)
                  have Bz3m := Lib.hid ((OwnI.btw o2).mono hS (Nat.le_refl _))
                  have Oz3p_15 := Lib.hid (owni_mono o HB14.out.size)
                  have Oz3m_15 := Lib.hid (owni_mono o2 (Nat.le_trans HB14.out.size hS))
                  clear o o2 bP hS b
                  have Nz3p := Lib.hid (show (Value.slice az3p (Pr).length cz3p).ownBlock ≠ some R from fun h => by have := (Bz3p.out _ h).1; have := At5.lt Xy_14.out; omega)
                  have Nz3m := Lib.hid (show (Value.slice az3m (M3).length cz3m).ownBlock ≠ some R from fun h => by have := (Bz3m.out _ h).1; have := At5.lt Xy_14.out; omega)
                  go_wp2_with (refine wpList_stA rfl 29 (.tmp 11) (.tmp 102) rfl R #[.int .i64 fr, .int .i64 br, .slice az3p Pr.length cz3p, .int .i64 (d.l), .slice az3m (M3).length cz3m] ?x4 ?y4 (one5a _ _ _ _ _ _ _ _ _) infoR5 _ (At5.toL Xy_15.out) ?l4 ?g4)
                  try case x4 => rfl
                  try case y4 => rfl
                  try case l4 => rfl
                  intro w16 aa gg
                  have HB16 := Lib.hid (below_only HB15.out gg HB15.out.size hRw.out)
                  have hs16 := Lib.hid gg.size
                  have Orp_16 := Lib.hid (owni_only Orp_15.out gg Nrp.out)
                  have Orm_16 := Lib.hid (owni_only Orm_15.out gg Nrm.out)
                  have Oxp_16 := Lib.hid (owni_only Oxp_15.out gg Nxp.out)
                  have Oxm_16 := Lib.hid (owni_only Oxm_15.out gg Nxm.out)
                  have Oz3p_16 := Lib.hid (owni_only Oz3p_15.out gg Nz3p.out)
                  have Oz3m_16 := Lib.hid (owni_only Oz3m_15.out gg Nz3m.out)
                  have Xr_16 := Lib.hid (At5.only Xr_15.out gg (fun e => NXr.out e))
                  have Xx_16 := Lib.hid (At5.only Xx_15.out gg (fun e => NXx.out e))
                  have Ad_16 := Lib.hid (AtL.only Ad_15.out gg (fun e => NAd.out e))
                  have Xy_16 : Hid (At5 w16 R (.int .i64 fr) (.int .i64 br) (.slice az3p Pr.length cz3p) (.int .i64 (d.l)) (.slice az3m (M3).length cz3m)) := Lib.hid (AtL.to5 aa)
                  clear aa gg
                  have HEQ := Lib.hid (show decide (((fU, bU, PU, lU, MU) : Rt) = (fr, br, Pr, d.l, M3)) = true from decide_eq_true (by rw [← HMK.out]; unfold makeC; dsimp only; rw [EL.out, EM.out, EK.out]))
                  obtain ⟨⟨g0, g1, g2, g3, g4⟩, _⟩ := Xy_16.out
                  obtain ⟨⟨qx0, qx1, qx2, qx3, qx4⟩, _⟩ := Xx_16.out
                  go_wp2_with fail
                  clear g0 g1 g2 g3 g4 qx0 qx1 qx2 qx3 qx4 
                  refine (lyrt_is fU bU axp cxp (PU) lU axm cxm (MU) fr br az3p cz3p Pr (d.l) az3m cz3m (M3) HEQ.out _ ⟨⟨(OwnI.intA Oxp_16.out).2.2, (OwnI.intA Oxm_16.out).2.2⟩, (OwnI.intA Oxp_16.out).2.1, (OwnI.intA Oxm_16.out).2.1, by omega, by omega⟩ ⟨⟨(OwnI.intA Oz3p_16.out).2.2, (OwnI.intA Oz3m_16.out).2.2⟩, (OwnI.intA Oz3p_16.out).2.1, (OwnI.intA Oz3m_16.out).2.1, by omega, by omega⟩).mono ?_
                  rintro en w17 ⟨rfl, b⟩
                  have HB17 := Lib.hid (HB16.out.trans (b.mono HB16.out.size))
                  have hs17 := Lib.hid b.size
                  have Orp_17 := Lib.hid (owni_later Orp_16.out b)
                  have Orm_17 := Lib.hid (owni_later Orm_16.out b)
                  have Oxp_17 := Lib.hid (owni_later Oxp_16.out b)
                  have Oxm_17 := Lib.hid (owni_later Oxm_16.out b)
                  have Oz3p_17 := Lib.hid (owni_later Oz3p_16.out b)
                  have Oz3m_17 := Lib.hid (owni_later Oz3m_16.out b)
                  have Xr_17 := Lib.hid (At5.below Xr_16.out b)
                  have Xx_17 := Lib.hid (At5.below Xx_16.out b)
                  have Xy_17 := Lib.hid (At5.below Xy_16.out b)
                  have Ad_17 := Lib.hid (AtL.below Ad_16.out b)
                  clear b
                  go_wp2_with fail
                  go_ret
                  exact ⟨rfl, HB17.out⟩
                · have k7 := Ad_14.out.z8.1.2.2.2.2.2.2.2
                  have EK := Lib.hid (show clearC d Mr = Mr by rw [clearC, if_pos (by have := HG.out.clear; omega)])
                  have HEQ := Lib.hid (show decide (((fU, bU, PU, lU, MU) : Rt) = (fr, br, Pr, d.l, Mr)) = true from decide_eq_true (by rw [← HMK.out]; unfold makeC; dsimp only; rw [EL.out, EM.out, EK.out]))
                  obtain ⟨⟨g0, g1, g2, g3, g4⟩, _⟩ := Xy_14.out
                  obtain ⟨⟨qx0, qx1, qx2, qx3, qx4⟩, _⟩ := Xx_14.out
                  go_wp2_with fail
                  clear g0 g1 g2 g3 g4 qx0 qx1 qx2 qx3 qx4 k6 k7
                  refine (lyrt_is fU bU axp cxp (PU) lU axm cxm (MU) fr br arp crp Pr (d.l) arm crm (Mr) HEQ.out _ ⟨⟨(OwnI.intA Oxp_14.out).2.2, (OwnI.intA Oxm_14.out).2.2⟩, (OwnI.intA Oxp_14.out).2.1, (OwnI.intA Oxm_14.out).2.1, by omega, by omega⟩ ⟨⟨(OwnI.intA Orp_14.out).2.2, (OwnI.intA Orm_14.out).2.2⟩, (OwnI.intA Orp_14.out).2.1, (OwnI.intA Orm_14.out).2.1, by omega, by omega⟩).mono ?_
                  rintro en w15 ⟨rfl, b⟩
                  have HB15 := Lib.hid (HB14.out.trans (b.mono HB14.out.size))
                  have hs15 := Lib.hid b.size
                  have Orp_15 := Lib.hid (owni_later Orp_14.out b)
                  have Orm_15 := Lib.hid (owni_later Orm_14.out b)
                  have Oxp_15 := Lib.hid (owni_later Oxp_14.out b)
                  have Oxm_15 := Lib.hid (owni_later Oxm_14.out b)
                  have Xr_15 := Lib.hid (At5.below Xr_14.out b)
                  have Xx_15 := Lib.hid (At5.below Xx_14.out b)
                  have Xy_15 := Lib.hid (At5.below Xy_14.out b)
                  have Ad_15 := Lib.hid (AtL.below Ad_14.out b)
                  clear b
                  go_wp2_with fail
                  go_ret
                  exact ⟨rfl, HB15.out⟩
            · have k5 := Ad_13.out.z8.1.2.2.2.2.2.1
              have EL := Lib.hid (show likeC d lr = lr by rw [likeC, if_pos (by have := HG.out.like; omega)])
              by_cases hm : 0 < d.m
              · have k6 := Ad_13.out.z8.1.2.2.2.2.2.2.1
                obtain ⟨M2, hM2⟩ : ∃ N, N = mins Mr d.m := ⟨_, rfl⟩
                have EM := Lib.hid (show markC d Mr = M2 by rw [hM2, markC, if_neg (by omega)])
                have hr2 : 1 ≤ d.m ∧ d.m ≤ 9 := by have := HG.out.mark; omega
                have HK2 : Hid (Marks M2) := Lib.hid (by rw [hM2]; exact (HRg.out.marks).mins hr2)
                have hl2 : M2.length ≤ 9 := HK2.out.len
                have HV2 : Hid (rtMark ((fr, br, Pr, lr, Mr) : Rt) d.m = ((fr, br, Pr, lr, M2), true)) := Lib.hid (by rw [hM2]; exact rtMark_yes ((rtOk_iff _).2 ⟨HRg.out.ran, HRg.out.path, HRg.out.some, HRg.out.like, HRg.out.marks⟩) ((isM_iff _).2 hr2))
                clear hM2 hr2
                obtain ⟨⟨g0, g1, g2, g3, g4⟩, _⟩ := Xy_13.out
                go_wp2_with fail
                clear g0 g1 g2 g3 g4 k6 k5
                refine (irtmark_is fr br arp crp Pr (lr) arm crm (Mr) HV2.out _ p ⟨⟨(OwnI.intA Orp_13.out).2.2, (OwnI.intA Orm_13.out).2.2⟩, (OwnI.intA Orp_13.out).2.1, (OwnI.intA Orm_13.out).2.1, by omega, by omega⟩ (HE.out.below HB13.out)).mono ?_
                rintro en w14 ⟨pv, mv, rfl, S, o, bP, o2, hS, b⟩
                have HB14 := Lib.hid (HB13.out.trans (b.mono HB13.out.size))
                have hs14 := Lib.hid b.size
                have Orp_14 := Lib.hid (owni_later Orp_13.out b)
                have Orm_14 := Lib.hid (owni_later Orm_13.out b)
                have Oxp_14 := Lib.hid (owni_later Oxp_13.out b)
                have Oxm_14 := Lib.hid (owni_later Oxm_13.out b)
                have Xr_14 := Lib.hid (At5.below Xr_13.out b)
                have Xx_14 := Lib.hid (At5.below Xx_13.out b)
                have Xy_14 := Lib.hid (At5.below Xy_13.out b)
                have Ad_14 := Lib.hid (AtL.below Ad_13.out b)
                replace o : OwnI w14 w13.heap.size pv Pr := o
                replace o2 : OwnI w14 S mv M2 := o2
                obtain ⟨az2p, cz2p, rfl, _, _⟩ := OwnI.tab o
                obtain ⟨az2m, cz2m, rfl, _, _⟩ := OwnI.tab o2
                have Az2 := Lib.hid (apart2 bP o2)
                have Bz2p := Lib.hid (OwnI.btw o)
                have Bz2m := Lib.hid ((OwnI.btw o2).mono hS (Nat.le_refl _))
                have Oz2p_14 := Lib.hid (owni_mono o HB13.out.size)
                have Oz2m_14 := Lib.hid (owni_mono o2 (Nat.le_trans HB13.out.size hS))
                clear o o2 bP hS b
                have Nz2p := Lib.hid (show (Value.slice az2p (Pr).length cz2p).ownBlock ≠ some R from fun h => by have := (Bz2p.out _ h).1; have := At5.lt Xy_13.out; omega)
                have Nz2m := Lib.hid (show (Value.slice az2m (M2).length cz2m).ownBlock ≠ some R from fun h => by have := (Bz2m.out _ h).1; have := At5.lt Xy_13.out; omega)
                go_wp2_with (refine wpList_stA rfl 29 (.tmp 11) (.tmp 92) rfl R #[.int .i64 fr, .int .i64 br, .slice az2p Pr.length cz2p, .int .i64 (lr), .slice az2m (M2).length cz2m] ?x5 ?y5 (one5a _ _ _ _ _ _ _ _ _) infoR5 _ (At5.toL Xy_14.out) ?l5 ?g5)
                try case x5 => rfl
                try case y5 => rfl
                try case l5 => rfl
                intro w15 aa gg
                have HB15 := Lib.hid (below_only HB14.out gg HB14.out.size hRw.out)
                have hs15 := Lib.hid gg.size
                have Orp_15 := Lib.hid (owni_only Orp_14.out gg Nrp.out)
                have Orm_15 := Lib.hid (owni_only Orm_14.out gg Nrm.out)
                have Oxp_15 := Lib.hid (owni_only Oxp_14.out gg Nxp.out)
                have Oxm_15 := Lib.hid (owni_only Oxm_14.out gg Nxm.out)
                have Oz2p_15 := Lib.hid (owni_only Oz2p_14.out gg Nz2p.out)
                have Oz2m_15 := Lib.hid (owni_only Oz2m_14.out gg Nz2m.out)
                have Xr_15 := Lib.hid (At5.only Xr_14.out gg (fun e => NXr.out e))
                have Xx_15 := Lib.hid (At5.only Xx_14.out gg (fun e => NXx.out e))
                have Ad_15 := Lib.hid (AtL.only Ad_14.out gg (fun e => NAd.out e))
                have Xy_15 : Hid (At5 w15 R (.int .i64 fr) (.int .i64 br) (.slice az2p Pr.length cz2p) (.int .i64 (lr)) (.slice az2m (M2).length cz2m)) := Lib.hid (AtL.to5 aa)
                clear aa gg
                by_cases hk : 0 < d.k
                · have k7 := Ad_15.out.z8.1.2.2.2.2.2.2.2
                  obtain ⟨M3, hM3⟩ : ∃ N, N = mdel M2 d.k := ⟨_, rfl⟩
                  have EK := Lib.hid (show clearC d M2 = M3 by rw [hM3, clearC, if_neg (by omega)])
                  have hr3 : 1 ≤ d.k ∧ d.k ≤ 9 := by have := HG.out.clear; omega
                  have HK3 : Hid (Marks M3) := Lib.hid (by rw [hM3]; exact (HK2.out).mdel)
                  have hl3 : M3.length ≤ 9 := HK3.out.len
                  have HV3 : Hid (rtClear ((fr, br, Pr, lr, M2) : Rt) d.k = ((fr, br, Pr, lr, M3), true)) := Lib.hid (by rw [hM3]; exact rtClear_yes ((rtOk_iff _).2 ⟨HRg.out.ran, HRg.out.path, HRg.out.some, HRg.out.like, HK2.out⟩) ((isM_iff _).2 hr3))
                  clear hM3 hr3
                  obtain ⟨⟨g0, g1, g2, g3, g4⟩, _⟩ := Xy_15.out
                  go_wp2_with fail
                  clear g0 g1 g2 g3 g4 k7 
                  refine (irtclear_is fr br az2p cz2p Pr (lr) az2m cz2m (M2) HV3.out _ p ⟨⟨(OwnI.intA Oz2p_15.out).2.2, (OwnI.intA Oz2m_15.out).2.2⟩, (OwnI.intA Oz2p_15.out).2.1, (OwnI.intA Oz2m_15.out).2.1, by omega, by omega⟩ (HE.out.below HB15.out)).mono ?_
                  rintro en w16 ⟨pv, mv, rfl, S, o, bP, o2, hS, b⟩
                  have HB16 := Lib.hid (HB15.out.trans (b.mono HB15.out.size))
                  have hs16 := Lib.hid b.size
                  have Orp_16 := Lib.hid (owni_later Orp_15.out b)
                  have Orm_16 := Lib.hid (owni_later Orm_15.out b)
                  have Oxp_16 := Lib.hid (owni_later Oxp_15.out b)
                  have Oxm_16 := Lib.hid (owni_later Oxm_15.out b)
                  have Oz2p_16 := Lib.hid (owni_later Oz2p_15.out b)
                  have Oz2m_16 := Lib.hid (owni_later Oz2m_15.out b)
                  have Xr_16 := Lib.hid (At5.below Xr_15.out b)
                  have Xx_16 := Lib.hid (At5.below Xx_15.out b)
                  have Xy_16 := Lib.hid (At5.below Xy_15.out b)
                  have Ad_16 := Lib.hid (AtL.below Ad_15.out b)
                  replace o : OwnI w16 w15.heap.size pv Pr := o
                  replace o2 : OwnI w16 S mv M3 := o2
                  obtain ⟨az3p, cz3p, rfl, _, _⟩ := OwnI.tab o
                  obtain ⟨az3m, cz3m, rfl, _, _⟩ := OwnI.tab o2
                  have Az3 := Lib.hid (apart2 bP o2)
                  have Bz3p := Lib.hid (OwnI.btw o)
                  have Bz3m := Lib.hid ((OwnI.btw o2).mono hS (Nat.le_refl _))
                  have Oz3p_16 := Lib.hid (owni_mono o HB15.out.size)
                  have Oz3m_16 := Lib.hid (owni_mono o2 (Nat.le_trans HB15.out.size hS))
                  clear o o2 bP hS b
                  have Nz3p := Lib.hid (show (Value.slice az3p (Pr).length cz3p).ownBlock ≠ some R from fun h => by have := (Bz3p.out _ h).1; have := At5.lt Xy_15.out; omega)
                  have Nz3m := Lib.hid (show (Value.slice az3m (M3).length cz3m).ownBlock ≠ some R from fun h => by have := (Bz3m.out _ h).1; have := At5.lt Xy_15.out; omega)
                  go_wp2_with (refine wpList_stA rfl 29 (.tmp 11) (.tmp 102) rfl R #[.int .i64 fr, .int .i64 br, .slice az3p Pr.length cz3p, .int .i64 (lr), .slice az3m (M3).length cz3m] ?x6 ?y6 (one5a _ _ _ _ _ _ _ _ _) infoR5 _ (At5.toL Xy_16.out) ?l6 ?g6)
                  try case x6 => rfl
                  try case y6 => rfl
                  try case l6 => rfl
                  intro w17 aa gg
                  have HB17 := Lib.hid (below_only HB16.out gg HB16.out.size hRw.out)
                  have hs17 := Lib.hid gg.size
                  have Orp_17 := Lib.hid (owni_only Orp_16.out gg Nrp.out)
                  have Orm_17 := Lib.hid (owni_only Orm_16.out gg Nrm.out)
                  have Oxp_17 := Lib.hid (owni_only Oxp_16.out gg Nxp.out)
                  have Oxm_17 := Lib.hid (owni_only Oxm_16.out gg Nxm.out)
                  have Oz2p_17 := Lib.hid (owni_only Oz2p_16.out gg Nz2p.out)
                  have Oz2m_17 := Lib.hid (owni_only Oz2m_16.out gg Nz2m.out)
                  have Oz3p_17 := Lib.hid (owni_only Oz3p_16.out gg Nz3p.out)
                  have Oz3m_17 := Lib.hid (owni_only Oz3m_16.out gg Nz3m.out)
                  have Xr_17 := Lib.hid (At5.only Xr_16.out gg (fun e => NXr.out e))
                  have Xx_17 := Lib.hid (At5.only Xx_16.out gg (fun e => NXx.out e))
                  have Ad_17 := Lib.hid (AtL.only Ad_16.out gg (fun e => NAd.out e))
                  have Xy_17 : Hid (At5 w17 R (.int .i64 fr) (.int .i64 br) (.slice az3p Pr.length cz3p) (.int .i64 (lr)) (.slice az3m (M3).length cz3m)) := Lib.hid (AtL.to5 aa)
                  clear aa gg
                  have HEQ := Lib.hid (show decide (((fU, bU, PU, lU, MU) : Rt) = (fr, br, Pr, lr, M3)) = true from decide_eq_true (by rw [← HMK.out]; unfold makeC; dsimp only; rw [EL.out, EM.out, EK.out]))
                  obtain ⟨⟨g0, g1, g2, g3, g4⟩, _⟩ := Xy_17.out
                  obtain ⟨⟨qx0, qx1, qx2, qx3, qx4⟩, _⟩ := Xx_17.out
                  go_wp2_with fail
                  clear g0 g1 g2 g3 g4 qx0 qx1 qx2 qx3 qx4 
                  refine (lyrt_is fU bU axp cxp (PU) lU axm cxm (MU) fr br az3p cz3p Pr (lr) az3m cz3m (M3) HEQ.out _ ⟨⟨(OwnI.intA Oxp_17.out).2.2, (OwnI.intA Oxm_17.out).2.2⟩, (OwnI.intA Oxp_17.out).2.1, (OwnI.intA Oxm_17.out).2.1, by omega, by omega⟩ ⟨⟨(OwnI.intA Oz3p_17.out).2.2, (OwnI.intA Oz3m_17.out).2.2⟩, (OwnI.intA Oz3p_17.out).2.1, (OwnI.intA Oz3m_17.out).2.1, by omega, by omega⟩).mono ?_
                  rintro en w18 ⟨rfl, b⟩
                  have HB18 := Lib.hid (HB17.out.trans (b.mono HB17.out.size))
                  have hs18 := Lib.hid b.size
                  have Orp_18 := Lib.hid (owni_later Orp_17.out b)
                  have Orm_18 := Lib.hid (owni_later Orm_17.out b)
                  have Oxp_18 := Lib.hid (owni_later Oxp_17.out b)
                  have Oxm_18 := Lib.hid (owni_later Oxm_17.out b)
                  have Oz2p_18 := Lib.hid (owni_later Oz2p_17.out b)
                  have Oz2m_18 := Lib.hid (owni_later Oz2m_17.out b)
                  have Oz3p_18 := Lib.hid (owni_later Oz3p_17.out b)
                  have Oz3m_18 := Lib.hid (owni_later Oz3m_17.out b)
                  have Xr_18 := Lib.hid (At5.below Xr_17.out b)
                  have Xx_18 := Lib.hid (At5.below Xx_17.out b)
                  have Xy_18 := Lib.hid (At5.below Xy_17.out b)
                  have Ad_18 := Lib.hid (AtL.below Ad_17.out b)
                  clear b
                  go_wp2_with fail
                  go_ret
                  exact ⟨rfl, HB18.out⟩
                · have k7 := Ad_15.out.z8.1.2.2.2.2.2.2.2
                  have EK := Lib.hid (show clearC d M2 = M2 by rw [clearC, if_pos (by have := HG.out.clear; omega)])
                  have HEQ := Lib.hid (show decide (((fU, bU, PU, lU, MU) : Rt) = (fr, br, Pr, lr, M2)) = true from decide_eq_true (by rw [← HMK.out]; unfold makeC; dsimp only; rw [EL.out, EM.out, EK.out]))
                  obtain ⟨⟨g0, g1, g2, g3, g4⟩, _⟩ := Xy_15.out
                  obtain ⟨⟨qx0, qx1, qx2, qx3, qx4⟩, _⟩ := Xx_15.out
                  go_wp2_with fail
                  clear g0 g1 g2 g3 g4 qx0 qx1 qx2 qx3 qx4 k7
                  refine (lyrt_is fU bU axp cxp (PU) lU axm cxm (MU) fr br az2p cz2p Pr (lr) az2m cz2m (M2) HEQ.out _ ⟨⟨(OwnI.intA Oxp_15.out).2.2, (OwnI.intA Oxm_15.out).2.2⟩, (OwnI.intA Oxp_15.out).2.1, (OwnI.intA Oxm_15.out).2.1, by omega, by omega⟩ ⟨⟨(OwnI.intA Oz2p_15.out).2.2, (OwnI.intA Oz2m_15.out).2.2⟩, (OwnI.intA Oz2p_15.out).2.1, (OwnI.intA Oz2m_15.out).2.1, by omega, by omega⟩).mono ?_
                  rintro en w16 ⟨rfl, b⟩
                  have HB16 := Lib.hid (HB15.out.trans (b.mono HB15.out.size))
                  have hs16 := Lib.hid b.size
                  have Orp_16 := Lib.hid (owni_later Orp_15.out b)
                  have Orm_16 := Lib.hid (owni_later Orm_15.out b)
                  have Oxp_16 := Lib.hid (owni_later Oxp_15.out b)
                  have Oxm_16 := Lib.hid (owni_later Oxm_15.out b)
                  have Oz2p_16 := Lib.hid (owni_later Oz2p_15.out b)
                  have Oz2m_16 := Lib.hid (owni_later Oz2m_15.out b)
                  have Xr_16 := Lib.hid (At5.below Xr_15.out b)
                  have Xx_16 := Lib.hid (At5.below Xx_15.out b)
                  have Xy_16 := Lib.hid (At5.below Xy_15.out b)
                  have Ad_16 := Lib.hid (AtL.below Ad_15.out b)
                  clear b
                  go_wp2_with fail
                  go_ret
                  exact ⟨rfl, HB16.out⟩
              · have k6 := Ad_13.out.z8.1.2.2.2.2.2.2.1
                have EM := Lib.hid (show markC d Mr = Mr by rw [markC, if_pos (by have := HG.out.mark; omega)])
                by_cases hk : 0 < d.k
                · have k7 := Ad_13.out.z8.1.2.2.2.2.2.2.2
                  obtain ⟨M3, hM3⟩ : ∃ N, N = mdel Mr d.k := ⟨_, rfl⟩
                  have EK := Lib.hid (show clearC d Mr = M3 by rw [hM3, clearC, if_neg (by omega)])
                  have hr3 : 1 ≤ d.k ∧ d.k ≤ 9 := by have := HG.out.clear; omega
                  have HK3 : Hid (Marks M3) := Lib.hid (by rw [hM3]; exact (HRg.out.marks).mdel)
                  have hl3 : M3.length ≤ 9 := HK3.out.len
                  have HV3 : Hid (rtClear ((fr, br, Pr, lr, Mr) : Rt) d.k = ((fr, br, Pr, lr, M3), true)) := Lib.hid (by rw [hM3]; exact rtClear_yes ((rtOk_iff _).2 ⟨HRg.out.ran, HRg.out.path, HRg.out.some, HRg.out.like, HRg.out.marks⟩) ((isM_iff _).2 hr3))
                  clear hM3 hr3
                  obtain ⟨⟨g0, g1, g2, g3, g4⟩, _⟩ := Xy_13.out
                  go_wp2_with fail
                  clear g0 g1 g2 g3 g4 k7 k5 k6
                  refine (irtclear_is fr br arp crp Pr (lr) arm crm (Mr) HV3.out _ p ⟨⟨(OwnI.intA Orp_13.out).2.2, (OwnI.intA Orm_13.out).2.2⟩, (OwnI.intA Orp_13.out).2.1, (OwnI.intA Orm_13.out).2.1, by omega, by omega⟩ (HE.out.below HB13.out)).mono ?_
                  rintro en w14 ⟨pv, mv, rfl, S, o, bP, o2, hS, b⟩
                  have HB14 := Lib.hid (HB13.out.trans (b.mono HB13.out.size))
                  have hs14 := Lib.hid b.size
                  have Orp_14 := Lib.hid (owni_later Orp_13.out b)
                  have Orm_14 := Lib.hid (owni_later Orm_13.out b)
                  have Oxp_14 := Lib.hid (owni_later Oxp_13.out b)
                  have Oxm_14 := Lib.hid (owni_later Oxm_13.out b)
                  have Xr_14 := Lib.hid (At5.below Xr_13.out b)
                  have Xx_14 := Lib.hid (At5.below Xx_13.out b)
                  have Xy_14 := Lib.hid (At5.below Xy_13.out b)
                  have Ad_14 := Lib.hid (AtL.below Ad_13.out b)
                  replace o : OwnI w14 w13.heap.size pv Pr := o
                  replace o2 : OwnI w14 S mv M3 := o2
                  obtain ⟨az3p, cz3p, rfl, _, _⟩ := OwnI.tab o
                  obtain ⟨az3m, cz3m, rfl, _, _⟩ := OwnI.tab o2
                  have Az3 := Lib.hid (apart2 bP o2)
                  have Bz3p := Lib.hid (OwnI.btw o)
                  have Bz3m := Lib.hid ((OwnI.btw o2).mono hS (Nat.le_refl _))
                  have Oz3p_14 := Lib.hid (owni_mono o HB13.out.size)
                  have Oz3m_14 := Lib.hid (owni_mono o2 (Nat.le_trans HB13.out.size hS))
                  clear o o2 bP hS b
                  have Nz3p := Lib.hid (show (Value.slice az3p (Pr).length cz3p).ownBlock ≠ some R from fun h => by have := (Bz3p.out _ h).1; have := At5.lt Xy_13.out; omega)
                  have Nz3m := Lib.hid (show (Value.slice az3m (M3).length cz3m).ownBlock ≠ some R from fun h => by have := (Bz3m.out _ h).1; have := At5.lt Xy_13.out; omega)
                  go_wp2_with (refine wpList_stA rfl 29 (.tmp 11) (.tmp 102) rfl R #[.int .i64 fr, .int .i64 br, .slice az3p Pr.length cz3p, .int .i64 (lr), .slice az3m (M3).length cz3m] ?x7 ?y7 (one5a _ _ _ _ _ _ _ _ _) infoR5 _ (At5.toL Xy_14.out) ?l7 ?g7)
                  try case x7 => rfl
                  try case y7 => rfl
                  try case l7 => rfl
                  intro w15 aa gg
                  have HB15 := Lib.hid (below_only HB14.out gg HB14.out.size hRw.out)
                  have hs15 := Lib.hid gg.size
                  have Orp_15 := Lib.hid (owni_only Orp_14.out gg Nrp.out)
                  have Orm_15 := Lib.hid (owni_only Orm_14.out gg Nrm.out)
                  have Oxp_15 := Lib.hid (owni_only Oxp_14.out gg Nxp.out)
                  have Oxm_15 := Lib.hid (owni_only Oxm_14.out gg Nxm.out)
                  have Oz3p_15 := Lib.hid (owni_only Oz3p_14.out gg Nz3p.out)
                  have Oz3m_15 := Lib.hid (owni_only Oz3m_14.out gg Nz3m.out)
                  have Xr_15 := Lib.hid (At5.only Xr_14.out gg (fun e => NXr.out e))
                  have Xx_15 := Lib.hid (At5.only Xx_14.out gg (fun e => NXx.out e))
                  have Ad_15 := Lib.hid (AtL.only Ad_14.out gg (fun e => NAd.out e))
                  have Xy_15 : Hid (At5 w15 R (.int .i64 fr) (.int .i64 br) (.slice az3p Pr.length cz3p) (.int .i64 (lr)) (.slice az3m (M3).length cz3m)) := Lib.hid (AtL.to5 aa)
                  clear aa gg
                  have HEQ := Lib.hid (show decide (((fU, bU, PU, lU, MU) : Rt) = (fr, br, Pr, lr, M3)) = true from decide_eq_true (by rw [← HMK.out]; unfold makeC; dsimp only; rw [EL.out, EM.out, EK.out]))
                  obtain ⟨⟨g0, g1, g2, g3, g4⟩, _⟩ := Xy_15.out
                  obtain ⟨⟨qx0, qx1, qx2, qx3, qx4⟩, _⟩ := Xx_15.out
                  go_wp2_with fail
                  clear g0 g1 g2 g3 g4 qx0 qx1 qx2 qx3 qx4 
                  refine (lyrt_is fU bU axp cxp (PU) lU axm cxm (MU) fr br az3p cz3p Pr (lr) az3m cz3m (M3) HEQ.out _ ⟨⟨(OwnI.intA Oxp_15.out).2.2, (OwnI.intA Oxm_15.out).2.2⟩, (OwnI.intA Oxp_15.out).2.1, (OwnI.intA Oxm_15.out).2.1, by omega, by omega⟩ ⟨⟨(OwnI.intA Oz3p_15.out).2.2, (OwnI.intA Oz3m_15.out).2.2⟩, (OwnI.intA Oz3p_15.out).2.1, (OwnI.intA Oz3m_15.out).2.1, by omega, by omega⟩).mono ?_
                  rintro en w16 ⟨rfl, b⟩
                  have HB16 := Lib.hid (HB15.out.trans (b.mono HB15.out.size))
                  have hs16 := Lib.hid b.size
                  have Orp_16 := Lib.hid (owni_later Orp_15.out b)
                  have Orm_16 := Lib.hid (owni_later Orm_15.out b)
                  have Oxp_16 := Lib.hid (owni_later Oxp_15.out b)
                  have Oxm_16 := Lib.hid (owni_later Oxm_15.out b)
                  have Oz3p_16 := Lib.hid (owni_later Oz3p_15.out b)
                  have Oz3m_16 := Lib.hid (owni_later Oz3m_15.out b)
                  have Xr_16 := Lib.hid (At5.below Xr_15.out b)
                  have Xx_16 := Lib.hid (At5.below Xx_15.out b)
                  have Xy_16 := Lib.hid (At5.below Xy_15.out b)
                  have Ad_16 := Lib.hid (AtL.below Ad_15.out b)
                  clear b
                  go_wp2_with fail
                  go_ret
                  exact ⟨rfl, HB16.out⟩
                · have k7 := Ad_13.out.z8.1.2.2.2.2.2.2.2
                  have EK := Lib.hid (show clearC d Mr = Mr by rw [clearC, if_pos (by have := HG.out.clear; omega)])
                  have HEQ := Lib.hid (show decide (((fU, bU, PU, lU, MU) : Rt) = (fr, br, Pr, lr, Mr)) = true from decide_eq_true (by rw [← HMK.out]; unfold makeC; dsimp only; rw [EL.out, EM.out, EK.out]))
                  obtain ⟨⟨g0, g1, g2, g3, g4⟩, _⟩ := Xy_13.out
                  obtain ⟨⟨qx0, qx1, qx2, qx3, qx4⟩, _⟩ := Xx_13.out
                  go_wp2_with fail
                  clear g0 g1 g2 g3 g4 qx0 qx1 qx2 qx3 qx4 k5 k6 k7
                  refine (lyrt_is fU bU axp cxp (PU) lU axm cxm (MU) fr br arp crp Pr (lr) arm crm (Mr) HEQ.out _ ⟨⟨(OwnI.intA Oxp_13.out).2.2, (OwnI.intA Oxm_13.out).2.2⟩, (OwnI.intA Oxp_13.out).2.1, (OwnI.intA Oxm_13.out).2.1, by omega, by omega⟩ ⟨⟨(OwnI.intA Orp_13.out).2.2, (OwnI.intA Orm_13.out).2.2⟩, (OwnI.intA Orp_13.out).2.1, (OwnI.intA Orm_13.out).2.1, by omega, by omega⟩).mono ?_
                  rintro en w14 ⟨rfl, b⟩
                  have HB14 := Lib.hid (HB13.out.trans (b.mono HB13.out.size))
                  have hs14 := Lib.hid b.size
                  have Orp_14 := Lib.hid (owni_later Orp_13.out b)
                  have Orm_14 := Lib.hid (owni_later Orm_13.out b)
                  have Oxp_14 := Lib.hid (owni_later Oxp_13.out b)
                  have Oxm_14 := Lib.hid (owni_later Oxm_13.out b)
                  have Xr_14 := Lib.hid (At5.below Xr_13.out b)
                  have Xx_14 := Lib.hid (At5.below Xx_13.out b)
                  have Xy_14 := Lib.hid (At5.below Xy_13.out b)
                  have Ad_14 := Lib.hid (AtL.below Ad_13.out b)
                  clear b
                  go_wp2_with fail
                  go_ret
                  exact ⟨rfl, HB14.out⟩
        · obtain rfl : k = Lp.length := by omega
          have hu : u = false := by have := HUf.out; rw [firstC_miss (fun j d hd => HN.out j d (List.getElem?_eq_some_iff.1 hd).1 hd)] at this; simp at this; exact this.2
          subst hu
          go_wp2_with fail
          go_ret
          exact ⟨rfl, HB10.out⟩

end Go.Proofs.YthkaaamgkmmeeaaDoor
