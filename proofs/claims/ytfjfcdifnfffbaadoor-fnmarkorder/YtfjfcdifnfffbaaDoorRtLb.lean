/-
  The law that marks are put in any order: the walk.
-/
import Derived.Test.YtfjfcdifnfffbaaDoorRtDd
import Derived.Test.YtfjfcdifnfffbaaDoorRtExA
import Derived.Test.YtfjfcdifnfffbaaDoorRtLm
namespace Go.Proofs.YtfjfcdifnfffbaaDoor
open Go.RowKit
set_option linter.unusedSimpArgs false
set_option linter.unusedVariables false

set_option maxRecDepth 100000 in
set_option maxHeartbeats 4000000 in
theorem lawMarkOrder (a0 : Option Addr) (len0 cap0 : Nat) (zs0 : List Int) (a1 : Option Addr) (len1 cap1 : Nat) (zs1 : List Int) (w : World) (h0 : IsRow w a0 len0 cap0 zs0) (h1 : IsRow w a1 len1 cap1 zs1) (p : Addr) (hE : EV w p) (_ : True) :
    Calls Tryd.prog 5 #[.slice a0 len0 cap0, .slice a1 len1 cap1] w fun e w' => e = .returned (.bool true) ∧ Below w.heap.size w w' := by
  have H0 := Lib.hid h0
  have H1 := Lib.hid h1
  have HE := Lib.hid hE
  clear h0 hE h1
  by_cases hl0 : (1048576 : Int) < (len0 : Int)
  · go_enter Tryd.func5, Tryd.ntmps5
    go_wp2_with fail
    go_ret
    exact ⟨rfl, Below.refl _ _⟩
  by_cases hl1 : (1048576 : Int) < (len1 : Int)
  · go_enter Tryd.func5, Tryd.ntmps5
    go_wp2_with fail
    go_ret
    exact ⟨rfl, Below.refl _ _⟩
  have HB0 := Lib.hid (Below.refl w.heap.size w)
  go_enter Tryd.func5, Tryd.ntmps5
  go_wp2_with fail
  refine (dRouteMark_any a0 len0 cap0 zs0 _ (isrow_later H0.out HB0.out)).mono ?_
  rintro en w1 ⟨fr, br, lr, Pr, Mr, pv, mv, mr, rfl, ⟨hlPr, hlMr⟩, ⟨o, o2⟩, b⟩
  have HB1 := Lib.hid (HB0.out.trans (b.mono HB0.out.size))
  have hs1 := Lib.hid b.size
  obtain ⟨arp, crp, rfl, _, _⟩ := OwnI.tab o
  obtain ⟨arm, crm, rfl, _, _⟩ := OwnI.tab o2
  have Brp := Lib.hid (OwnI.btw o)
  have Brm := Lib.hid (OwnI.btw o2)
  have Orp_1 := Lib.hid (owni_mono o HB0.out.size)
  have Orm_1 := Lib.hid (owni_mono o2 HB0.out.size)
  clear o o2
  clear b
  have HB2 := Lib.hid (HB1.out.alloc HB1.out.size (.cells #[.int .i64 fr, .int .i64 br, .slice arp (Pr).length crp, .int .i64 lr, .slice arm (Mr).length crm] 27))
  have hs2 := Lib.hid (show w1.heap.size + 1 = (w1.alloc (.cells #[.int .i64 fr, .int .i64 br, .slice arp (Pr).length crp, .int .i64 lr, .slice arm (Mr).length crm] 27)).heap.size by simp)
  have Orp_2 := Lib.hid (World.ownsRow.alloc Orp_1.out (.cells #[.int .i64 fr, .int .i64 br, .slice arp (Pr).length crp, .int .i64 lr, .slice arm (Mr).length crm] 27))
  have Orm_2 := Lib.hid (World.ownsRow.alloc Orm_1.out (.cells #[.int .i64 fr, .int .i64 br, .slice arp (Pr).length crp, .int .i64 lr, .slice arm (Mr).length crm] 27))
  have Xr_2 := Lib.hid (At5.new w1 (.int .i64 fr) (.int .i64 br) (.slice arp (Pr).length crp) (.int .i64 lr) (.slice arm (Mr).length crm) 27)
  go_wp2_with fail
  generalize w1.alloc (.cells #[.int .i64 fr, .int .i64 br, .slice arp (Pr).length crp, .int .i64 lr, .slice arm (Mr).length crm] 27) = w2 at *
  obtain ⟨⟨⟨fU, bU, PU, lU, MU⟩, ufU⟩, hU⟩ : ∃ r, rtMark (fr, br, Pr, lr, Mr) mr = r := ⟨_, rfl⟩
  have hUlfU : PU.length ≤ 5 ∧ MU.length ≤ 10 := by have := rtMark_len (fr, br, Pr, lr, Mr) mr; rw [hU] at this; exact this
  have HUfU := Lib.hid hU
  clear hU
  have huu : (ufU != ufU) = false := by simp
  have hue : (ufU == ufU) = true := by simp
  refine (srtmark_is fr br arp crp (Pr) lr arm crm (Mr) HUfU.out _ ⟨⟨(OwnI.intA Orp_2.out).2.2, (OwnI.intA Orm_2.out).2.2⟩, (OwnI.intA Orp_2.out).2.1, (OwnI.intA Orm_2.out).2.1, by omega, by omega⟩).mono ?_
  rintro en w3 ⟨pv, mv, rfl, S, o, bP, o2, hS, b⟩
  have HB3 := Lib.hid (HB2.out.trans (b.mono HB2.out.size))
  have hs3 := Lib.hid b.size
  have Orp_3 := Lib.hid (owni_later Orp_2.out b)
  have Orm_3 := Lib.hid (owni_later Orm_2.out b)
  have Xr_3 := Lib.hid (At5.below Xr_2.out b)
  replace o : OwnI w3 w2.heap.size pv PU := o
  replace o2 : OwnI w3 S mv MU := o2
  obtain ⟨awp, cwp, rfl, _, _⟩ := OwnI.tab o
  obtain ⟨awm, cwm, rfl, _, _⟩ := OwnI.tab o2
  have Aw := Lib.hid (apart2 bP o2)
  have Bwp := Lib.hid (OwnI.btw o)
  have Bwm := Lib.hid ((OwnI.btw o2).mono hS (Nat.le_refl _))
  have Owp_3 := Lib.hid (owni_mono o HB2.out.size)
  have Owm_3 := Lib.hid (owni_mono o2 (Nat.le_trans HB2.out.size hS))
  clear o o2 bP hS b
  have HB4 := Lib.hid (HB3.out.alloc HB3.out.size (.cells #[.int .i64 fU, .int .i64 bU, .slice awp (PU).length cwp, .int .i64 lU, .slice awm (MU).length cwm] 27))
  have hs4 := Lib.hid (show w3.heap.size + 1 = (w3.alloc (.cells #[.int .i64 fU, .int .i64 bU, .slice awp (PU).length cwp, .int .i64 lU, .slice awm (MU).length cwm] 27)).heap.size by simp)
  have Orp_4 := Lib.hid (World.ownsRow.alloc Orp_3.out (.cells #[.int .i64 fU, .int .i64 bU, .slice awp (PU).length cwp, .int .i64 lU, .slice awm (MU).length cwm] 27))
  have Orm_4 := Lib.hid (World.ownsRow.alloc Orm_3.out (.cells #[.int .i64 fU, .int .i64 bU, .slice awp (PU).length cwp, .int .i64 lU, .slice awm (MU).length cwm] 27))
  have Owp_4 := Lib.hid (World.ownsRow.alloc Owp_3.out (.cells #[.int .i64 fU, .int .i64 bU, .slice awp (PU).length cwp, .int .i64 lU, .slice awm (MU).length cwm] 27))
  have Owm_4 := Lib.hid (World.ownsRow.alloc Owm_3.out (.cells #[.int .i64 fU, .int .i64 bU, .slice awp (PU).length cwp, .int .i64 lU, .slice awm (MU).length cwm] 27))
  have Xr_4 := Lib.hid (At5.alloc Xr_3.out (.cells #[.int .i64 fU, .int .i64 bU, .slice awp (PU).length cwp, .int .i64 lU, .slice awm (MU).length cwm] 27))
  have Xw_4 := Lib.hid (At5.new w3 (.int .i64 fU) (.int .i64 bU) (.slice awp (PU).length cwp) (.int .i64 lU) (.slice awm (MU).length cwm) 27)
  obtain ⟨⟨qr0, qr1, qr2, qr3, qr4⟩, _⟩ := Xr_4.out
  go_wp2_with fail
  clear qr0 qr1 qr2 qr3 qr4
  generalize w3.alloc (.cells #[.int .i64 fU, .int .i64 bU, .slice awp (PU).length cwp, .int .i64 lU, .slice awm (MU).length cwm] 27) = w4 at *
  refine (irtmark_is fr br arp crp (Pr) lr arm crm (Mr) HUfU.out _ p ⟨⟨(OwnI.intA Orp_4.out).2.2, (OwnI.intA Orm_4.out).2.2⟩, (OwnI.intA Orp_4.out).2.1, (OwnI.intA Orm_4.out).2.1, by omega, by omega⟩ (HE.out.below HB4.out)).mono ?_
  rintro en w5 ⟨pv, mv, rfl, S, o, bP, o2, hS, b⟩
  have HB5 := Lib.hid (HB4.out.trans (b.mono HB4.out.size))
  have hs5 := Lib.hid b.size
  have Orp_5 := Lib.hid (owni_later Orp_4.out b)
  have Orm_5 := Lib.hid (owni_later Orm_4.out b)
  have Owp_5 := Lib.hid (owni_later Owp_4.out b)
  have Owm_5 := Lib.hid (owni_later Owm_4.out b)
  have Xr_5 := Lib.hid (At5.below Xr_4.out b)
  have Xw_5 := Lib.hid (At5.below Xw_4.out b)
  replace o : OwnI w5 w4.heap.size pv PU := o
  replace o2 : OwnI w5 S mv MU := o2
  obtain ⟨axp, cxp, rfl, _, _⟩ := OwnI.tab o
  obtain ⟨axm, cxm, rfl, _, _⟩ := OwnI.tab o2
  have Ax := Lib.hid (apart2 bP o2)
  have Bxp := Lib.hid (OwnI.btw o)
  have Bxm := Lib.hid ((OwnI.btw o2).mono hS (Nat.le_refl _))
  have Oxp_5 := Lib.hid (owni_mono o HB4.out.size)
  have Oxm_5 := Lib.hid (owni_mono o2 (Nat.le_trans HB4.out.size hS))
  clear o o2 bP hS b
  have HB6 := Lib.hid (HB5.out.alloc HB5.out.size (.cells #[.int .i64 fU, .int .i64 bU, .slice axp (PU).length cxp, .int .i64 lU, .slice axm (MU).length cxm] 27))
  have hs6 := Lib.hid (show w5.heap.size + 1 = (w5.alloc (.cells #[.int .i64 fU, .int .i64 bU, .slice axp (PU).length cxp, .int .i64 lU, .slice axm (MU).length cxm] 27)).heap.size by simp)
  have Orp_6 := Lib.hid (World.ownsRow.alloc Orp_5.out (.cells #[.int .i64 fU, .int .i64 bU, .slice axp (PU).length cxp, .int .i64 lU, .slice axm (MU).length cxm] 27))
  have Orm_6 := Lib.hid (World.ownsRow.alloc Orm_5.out (.cells #[.int .i64 fU, .int .i64 bU, .slice axp (PU).length cxp, .int .i64 lU, .slice axm (MU).length cxm] 27))
  have Owp_6 := Lib.hid (World.ownsRow.alloc Owp_5.out (.cells #[.int .i64 fU, .int .i64 bU, .slice axp (PU).length cxp, .int .i64 lU, .slice axm (MU).length cxm] 27))
  have Owm_6 := Lib.hid (World.ownsRow.alloc Owm_5.out (.cells #[.int .i64 fU, .int .i64 bU, .slice axp (PU).length cxp, .int .i64 lU, .slice axm (MU).length cxm] 27))
  have Oxp_6 := Lib.hid (World.ownsRow.alloc Oxp_5.out (.cells #[.int .i64 fU, .int .i64 bU, .slice axp (PU).length cxp, .int .i64 lU, .slice axm (MU).length cxm] 27))
  have Oxm_6 := Lib.hid (World.ownsRow.alloc Oxm_5.out (.cells #[.int .i64 fU, .int .i64 bU, .slice axp (PU).length cxp, .int .i64 lU, .slice axm (MU).length cxm] 27))
  have Xr_6 := Lib.hid (At5.alloc Xr_5.out (.cells #[.int .i64 fU, .int .i64 bU, .slice axp (PU).length cxp, .int .i64 lU, .slice axm (MU).length cxm] 27))
  have Xw_6 := Lib.hid (At5.alloc Xw_5.out (.cells #[.int .i64 fU, .int .i64 bU, .slice axp (PU).length cxp, .int .i64 lU, .slice axm (MU).length cxm] 27))
  have Xx_6 := Lib.hid (At5.new w5 (.int .i64 fU) (.int .i64 bU) (.slice axp (PU).length cxp) (.int .i64 lU) (.slice axm (MU).length cxm) 27)
  obtain ⟨⟨qr0, qr1, qr2, qr3, qr4⟩, _⟩ := Xr_6.out
  obtain ⟨⟨qw0, qw1, qw2, qw3, qw4⟩, _⟩ := Xw_6.out
  go_wp2_with fail
  clear qr0 qr1 qr2 qr3 qr4
  clear qw0 qw1 qw2 qw3 qw4
  generalize w5.alloc (.cells #[.int .i64 fU, .int .i64 bU, .slice axp (PU).length cxp, .int .i64 lU, .slice axm (MU).length cxm] 27) = w6 at *
  refine (lyrt_is fU bU axp cxp (PU) lU axm cxm (MU) fU bU awp cwp (PU) lU awm cwm (MU) (show decide (((fU, bU, PU, lU, MU) : Rt) = (fU, bU, PU, lU, MU)) = true from decide_eq_true rfl) _ ⟨⟨(OwnI.intA Oxp_6.out).2.2, (OwnI.intA Oxm_6.out).2.2⟩, (OwnI.intA Oxp_6.out).2.1, (OwnI.intA Oxm_6.out).2.1, by omega, by omega⟩ ⟨⟨(OwnI.intA Owp_6.out).2.2, (OwnI.intA Owm_6.out).2.2⟩, (OwnI.intA Owp_6.out).2.1, (OwnI.intA Owm_6.out).2.1, by omega, by omega⟩).mono ?_
  rintro en w7 ⟨rfl, b⟩
  have HB7 := Lib.hid (HB6.out.trans (b.mono HB6.out.size))
  have hs7 := Lib.hid b.size
  have Orp_7 := Lib.hid (owni_later Orp_6.out b)
  have Orm_7 := Lib.hid (owni_later Orm_6.out b)
  have Owp_7 := Lib.hid (owni_later Owp_6.out b)
  have Owm_7 := Lib.hid (owni_later Owm_6.out b)
  have Oxp_7 := Lib.hid (owni_later Oxp_6.out b)
  have Oxm_7 := Lib.hid (owni_later Oxm_6.out b)
  have Xr_7 := Lib.hid (At5.below Xr_6.out b)
  have Xw_7 := Lib.hid (At5.below Xw_6.out b)
  have Xx_7 := Lib.hid (At5.below Xx_6.out b)
  clear b
  cases ufU with
  | false =>
    obtain ⟨⟨qr0, qr1, qr2, qr3, qr4⟩, _⟩ := Xr_7.out
    obtain ⟨⟨qw0, qw1, qw2, qw3, qw4⟩, _⟩ := Xw_7.out
    obtain ⟨⟨qx0, qx1, qx2, qx3, qx4⟩, _⟩ := Xx_7.out
    go_wp2_with fail
    clear qr0 qr1 qr2 qr3 qr4
    clear qw0 qw1 qw2 qw3 qw4
    clear qx0 qx1 qx2 qx3 qx4
    refine (lyrt_is fU bU axp cxp (PU) lU axm cxm (MU) fU bU awp cwp (PU) lU awm cwm (MU) (show decide (((fU, bU, PU, lU, MU) : Rt) = (fU, bU, PU, lU, MU)) = true from decide_eq_true rfl) _ ⟨⟨(OwnI.intA Oxp_7.out).2.2, (OwnI.intA Oxm_7.out).2.2⟩, (OwnI.intA Oxp_7.out).2.1, (OwnI.intA Oxm_7.out).2.1, by omega, by omega⟩ ⟨⟨(OwnI.intA Owp_7.out).2.2, (OwnI.intA Owm_7.out).2.2⟩, (OwnI.intA Owp_7.out).2.1, (OwnI.intA Owm_7.out).2.1, by omega, by omega⟩).mono ?_
    rintro en w8 ⟨rfl, b⟩
    have HB8 := Lib.hid (HB7.out.trans (b.mono HB7.out.size))
    have hs8 := Lib.hid b.size
    have Orp_8 := Lib.hid (owni_later Orp_7.out b)
    have Orm_8 := Lib.hid (owni_later Orm_7.out b)
    have Owp_8 := Lib.hid (owni_later Owp_7.out b)
    have Owm_8 := Lib.hid (owni_later Owm_7.out b)
    have Oxp_8 := Lib.hid (owni_later Oxp_7.out b)
    have Oxm_8 := Lib.hid (owni_later Oxm_7.out b)
    have Xr_8 := Lib.hid (At5.below Xr_7.out b)
    have Xw_8 := Lib.hid (At5.below Xw_7.out b)
    have Xx_8 := Lib.hid (At5.below Xx_7.out b)
    clear b
    obtain ⟨⟨qr0, qr1, qr2, qr3, qr4⟩, _⟩ := Xr_8.out
    obtain ⟨⟨qw0, qw1, qw2, qw3, qw4⟩, _⟩ := Xw_8.out
    obtain ⟨⟨qx0, qx1, qx2, qx3, qx4⟩, _⟩ := Xx_8.out
    go_wp2_with fail
    clear qr0 qr1 qr2 qr3 qr4
    clear qw0 qw1 qw2 qw3 qw4
    clear qx0 qx1 qx2 qx3 qx4
    go_ret
    exact ⟨rfl, HB8.out⟩
  | true =>
    have HF := Lib.hid (mkF HUfU.out)
    have t1 : (len1 : Int).tmod 9 = ((len1 % 9 : Nat) : Int) := by rw [Int.tmod_eq_emod_of_nonneg (by omega)]; omega
    have hr9 : len1 % 9 < 9 := by omega
    generalize len1 % 9 = s at *
    have hw : IntKind.i64.wrap (1 + (s : Int)) = 1 + (s : Int) := by rw [IntKind.wrap_i64]; omega
    have hn9 : 1 ≤ (1 + (s : Int)) ∧ (1 + (s : Int)) ≤ 9 := by omega
    obtain ⟨⟨fV, bV, PV, lV, MV⟩, hV⟩ : ∃ r : Rt, rtMark (fr, br, Pr, lr, Mr) (1 + (s : Int)) = (r, true) := ⟨_, mark_of HF.out.good hn9⟩
    have hVl : PV.length ≤ 5 ∧ MV.length ≤ 10 := by have := rtMark_len (fr, br, Pr, lr, Mr) (1 + (s : Int)); rw [hV] at this; exact this
    have HV := Lib.hid hV
    have HG := Lib.hid (mkF hV)
    clear hV
    obtain ⟨⟨fY, bY, PY, lY, MY⟩, hY⟩ : ∃ r : Rt, rtMark (fU, bU, PU, lU, MU) (1 + (s : Int)) = (r, true) := ⟨_, mark_of HF.out.goodU hn9⟩
    have hYl : PY.length ≤ 5 ∧ MY.length ≤ 10 := by have := rtMark_len (fU, bU, PU, lU, MU) (1 + (s : Int)); rw [hY] at this; exact this
    have HY := Lib.hid hY
    have HW : Hid (rtMark (fV, bV, PV, lV, MV) mr = ((fY, bY, PY, lY, MY), true)) := Lib.hid (by rw [← hY, mark_of HG.out.goodU HF.out.mark, mark_of HF.out.goodU hn9]; have e1 := HF.out.is; have e2 := HG.out.is; rw [e1, e2]; simp only [mins_swap HF.out.good.marks HF.out.mark hn9])
    clear hY
    obtain ⟨⟨qr0, qr1, qr2, qr3, qr4⟩, _⟩ := Xr_7.out
    obtain ⟨⟨qw0, qw1, qw2, qw3, qw4⟩, _⟩ := Xw_7.out
    obtain ⟨⟨qx0, qx1, qx2, qx3, qx4⟩, _⟩ := Xx_7.out
    go_wp2_with fail
    clear qr0 qr1 qr2 qr3 qr4
    clear qw0 qw1 qw2 qw3 qw4
    clear qx0 qx1 qx2 qx3 qx4
    refine (irtmark_is fU bU axp cxp (PU) lU axm cxm (MU) HY.out _ p ⟨⟨(OwnI.intA Oxp_7.out).2.2, (OwnI.intA Oxm_7.out).2.2⟩, (OwnI.intA Oxp_7.out).2.1, (OwnI.intA Oxm_7.out).2.1, by omega, by omega⟩ (HE.out.below HB7.out)).mono ?_
    rintro en w8 ⟨pv, mv, rfl, S, o, bP, o2, hS, b⟩
    have HB8 := Lib.hid (HB7.out.trans (b.mono HB7.out.size))
    have hs8 := Lib.hid b.size
    have Orp_8 := Lib.hid (owni_later Orp_7.out b)
    have Orm_8 := Lib.hid (owni_later Orm_7.out b)
    have Owp_8 := Lib.hid (owni_later Owp_7.out b)
    have Owm_8 := Lib.hid (owni_later Owm_7.out b)
    have Oxp_8 := Lib.hid (owni_later Oxp_7.out b)
    have Oxm_8 := Lib.hid (owni_later Oxm_7.out b)
    have Xr_8 := Lib.hid (At5.below Xr_7.out b)
    have Xw_8 := Lib.hid (At5.below Xw_7.out b)
    have Xx_8 := Lib.hid (At5.below Xx_7.out b)
    replace o : OwnI w8 w7.heap.size pv PY := o
    replace o2 : OwnI w8 S mv MY := o2
    obtain ⟨ayp, cyp, rfl, _, _⟩ := OwnI.tab o
    obtain ⟨aym, cym, rfl, _, _⟩ := OwnI.tab o2
    have Ay := Lib.hid (apart2 bP o2)
    have Byp := Lib.hid (OwnI.btw o)
    have Bym := Lib.hid ((OwnI.btw o2).mono hS (Nat.le_refl _))
    have Oyp_8 := Lib.hid (owni_mono o HB7.out.size)
    have Oym_8 := Lib.hid (owni_mono o2 (Nat.le_trans HB7.out.size hS))
    clear o o2 bP hS b
    have HB9 := Lib.hid (HB8.out.alloc HB8.out.size (.cells #[.int .i64 fY, .int .i64 bY, .slice ayp (PY).length cyp, .int .i64 lY, .slice aym (MY).length cym] 27))
    have hs9 := Lib.hid (show w8.heap.size + 1 = (w8.alloc (.cells #[.int .i64 fY, .int .i64 bY, .slice ayp (PY).length cyp, .int .i64 lY, .slice aym (MY).length cym] 27)).heap.size by simp)
    have Orp_9 := Lib.hid (World.ownsRow.alloc Orp_8.out (.cells #[.int .i64 fY, .int .i64 bY, .slice ayp (PY).length cyp, .int .i64 lY, .slice aym (MY).length cym] 27))
    have Orm_9 := Lib.hid (World.ownsRow.alloc Orm_8.out (.cells #[.int .i64 fY, .int .i64 bY, .slice ayp (PY).length cyp, .int .i64 lY, .slice aym (MY).length cym] 27))
    have Owp_9 := Lib.hid (World.ownsRow.alloc Owp_8.out (.cells #[.int .i64 fY, .int .i64 bY, .slice ayp (PY).length cyp, .int .i64 lY, .slice aym (MY).length cym] 27))
    have Owm_9 := Lib.hid (World.ownsRow.alloc Owm_8.out (.cells #[.int .i64 fY, .int .i64 bY, .slice ayp (PY).length cyp, .int .i64 lY, .slice aym (MY).length cym] 27))
    have Oxp_9 := Lib.hid (World.ownsRow.alloc Oxp_8.out (.cells #[.int .i64 fY, .int .i64 bY, .slice ayp (PY).length cyp, .int .i64 lY, .slice aym (MY).length cym] 27))
    have Oxm_9 := Lib.hid (World.ownsRow.alloc Oxm_8.out (.cells #[.int .i64 fY, .int .i64 bY, .slice ayp (PY).length cyp, .int .i64 lY, .slice aym (MY).length cym] 27))
    have Oyp_9 := Lib.hid (World.ownsRow.alloc Oyp_8.out (.cells #[.int .i64 fY, .int .i64 bY, .slice ayp (PY).length cyp, .int .i64 lY, .slice aym (MY).length cym] 27))
    have Oym_9 := Lib.hid (World.ownsRow.alloc Oym_8.out (.cells #[.int .i64 fY, .int .i64 bY, .slice ayp (PY).length cyp, .int .i64 lY, .slice aym (MY).length cym] 27))
    have Xr_9 := Lib.hid (At5.alloc Xr_8.out (.cells #[.int .i64 fY, .int .i64 bY, .slice ayp (PY).length cyp, .int .i64 lY, .slice aym (MY).length cym] 27))
    have Xw_9 := Lib.hid (At5.alloc Xw_8.out (.cells #[.int .i64 fY, .int .i64 bY, .slice ayp (PY).length cyp, .int .i64 lY, .slice aym (MY).length cym] 27))
    have Xx_9 := Lib.hid (At5.alloc Xx_8.out (.cells #[.int .i64 fY, .int .i64 bY, .slice ayp (PY).length cyp, .int .i64 lY, .slice aym (MY).length cym] 27))
    have Xy_9 := Lib.hid (At5.new w8 (.int .i64 fY) (.int .i64 bY) (.slice ayp (PY).length cyp) (.int .i64 lY) (.slice aym (MY).length cym) 27)
    obtain ⟨⟨qr0, qr1, qr2, qr3, qr4⟩, _⟩ := Xr_9.out
    obtain ⟨⟨qw0, qw1, qw2, qw3, qw4⟩, _⟩ := Xw_9.out
    obtain ⟨⟨qx0, qx1, qx2, qx3, qx4⟩, _⟩ := Xx_9.out
    go_wp2_with fail
    clear qr0 qr1 qr2 qr3 qr4
    clear qw0 qw1 qw2 qw3 qw4
    clear qx0 qx1 qx2 qx3 qx4
    generalize w8.alloc (.cells #[.int .i64 fY, .int .i64 bY, .slice ayp (PY).length cyp, .int .i64 lY, .slice aym (MY).length cym] 27) = w9 at *
    refine (irtmark_is fr br arp crp (Pr) lr arm crm (Mr) HV.out _ p ⟨⟨(OwnI.intA Orp_9.out).2.2, (OwnI.intA Orm_9.out).2.2⟩, (OwnI.intA Orp_9.out).2.1, (OwnI.intA Orm_9.out).2.1, by omega, by omega⟩ (HE.out.below HB9.out)).mono ?_
    rintro en w10 ⟨pv, mv, rfl, S, o, bP, o2, hS, b⟩
    have HB10 := Lib.hid (HB9.out.trans (b.mono HB9.out.size))
    have hs10 := Lib.hid b.size
    have Orp_10 := Lib.hid (owni_later Orp_9.out b)
    have Orm_10 := Lib.hid (owni_later Orm_9.out b)
    have Owp_10 := Lib.hid (owni_later Owp_9.out b)
    have Owm_10 := Lib.hid (owni_later Owm_9.out b)
    have Oxp_10 := Lib.hid (owni_later Oxp_9.out b)
    have Oxm_10 := Lib.hid (owni_later Oxm_9.out b)
    have Oyp_10 := Lib.hid (owni_later Oyp_9.out b)
    have Oym_10 := Lib.hid (owni_later Oym_9.out b)
    have Xr_10 := Lib.hid (At5.below Xr_9.out b)
    have Xw_10 := Lib.hid (At5.below Xw_9.out b)
    have Xx_10 := Lib.hid (At5.below Xx_9.out b)
    have Xy_10 := Lib.hid (At5.below Xy_9.out b)
    replace o : OwnI w10 w9.heap.size pv PV := o
    replace o2 : OwnI w10 S mv MV := o2
    obtain ⟨aup, cup, rfl, _, _⟩ := OwnI.tab o
    obtain ⟨aum, cum, rfl, _, _⟩ := OwnI.tab o2
    have Au := Lib.hid (apart2 bP o2)
    have Bup := Lib.hid (OwnI.btw o)
    have Bum := Lib.hid ((OwnI.btw o2).mono hS (Nat.le_refl _))
    have Oup_10 := Lib.hid (owni_mono o HB9.out.size)
    have Oum_10 := Lib.hid (owni_mono o2 (Nat.le_trans HB9.out.size hS))
    clear o o2 bP hS b
    have HB11 := Lib.hid (HB10.out.alloc HB10.out.size (.cells #[.int .i64 fV, .int .i64 bV, .slice aup (PV).length cup, .int .i64 lV, .slice aum (MV).length cum] 27))
    have hs11 := Lib.hid (show w10.heap.size + 1 = (w10.alloc (.cells #[.int .i64 fV, .int .i64 bV, .slice aup (PV).length cup, .int .i64 lV, .slice aum (MV).length cum] 27)).heap.size by simp)
    have Orp_11 := Lib.hid (World.ownsRow.alloc Orp_10.out (.cells #[.int .i64 fV, .int .i64 bV, .slice aup (PV).length cup, .int .i64 lV, .slice aum (MV).length cum] 27))
    have Orm_11 := Lib.hid (World.ownsRow.alloc Orm_10.out (.cells #[.int .i64 fV, .int .i64 bV, .slice aup (PV).length cup, .int .i64 lV, .slice aum (MV).length cum] 27))
    have Owp_11 := Lib.hid (World.ownsRow.alloc Owp_10.out (.cells #[.int .i64 fV, .int .i64 bV, .slice aup (PV).length cup, .int .i64 lV, .slice aum (MV).length cum] 27))
    have Owm_11 := Lib.hid (World.ownsRow.alloc Owm_10.out (.cells #[.int .i64 fV, .int .i64 bV, .slice aup (PV).length cup, .int .i64 lV, .slice aum (MV).length cum] 27))
    have Oxp_11 := Lib.hid (World.ownsRow.alloc Oxp_10.out (.cells #[.int .i64 fV, .int .i64 bV, .slice aup (PV).length cup, .int .i64 lV, .slice aum (MV).length cum] 27))
    have Oxm_11 := Lib.hid (World.ownsRow.alloc Oxm_10.out (.cells #[.int .i64 fV, .int .i64 bV, .slice aup (PV).length cup, .int .i64 lV, .slice aum (MV).length cum] 27))
    have Oyp_11 := Lib.hid (World.ownsRow.alloc Oyp_10.out (.cells #[.int .i64 fV, .int .i64 bV, .slice aup (PV).length cup, .int .i64 lV, .slice aum (MV).length cum] 27))
    have Oym_11 := Lib.hid (World.ownsRow.alloc Oym_10.out (.cells #[.int .i64 fV, .int .i64 bV, .slice aup (PV).length cup, .int .i64 lV, .slice aum (MV).length cum] 27))
    have Oup_11 := Lib.hid (World.ownsRow.alloc Oup_10.out (.cells #[.int .i64 fV, .int .i64 bV, .slice aup (PV).length cup, .int .i64 lV, .slice aum (MV).length cum] 27))
    have Oum_11 := Lib.hid (World.ownsRow.alloc Oum_10.out (.cells #[.int .i64 fV, .int .i64 bV, .slice aup (PV).length cup, .int .i64 lV, .slice aum (MV).length cum] 27))
    have Xr_11 := Lib.hid (At5.alloc Xr_10.out (.cells #[.int .i64 fV, .int .i64 bV, .slice aup (PV).length cup, .int .i64 lV, .slice aum (MV).length cum] 27))
    have Xw_11 := Lib.hid (At5.alloc Xw_10.out (.cells #[.int .i64 fV, .int .i64 bV, .slice aup (PV).length cup, .int .i64 lV, .slice aum (MV).length cum] 27))
    have Xx_11 := Lib.hid (At5.alloc Xx_10.out (.cells #[.int .i64 fV, .int .i64 bV, .slice aup (PV).length cup, .int .i64 lV, .slice aum (MV).length cum] 27))
    have Xy_11 := Lib.hid (At5.alloc Xy_10.out (.cells #[.int .i64 fV, .int .i64 bV, .slice aup (PV).length cup, .int .i64 lV, .slice aum (MV).length cum] 27))
    have Xu_11 := Lib.hid (At5.new w10 (.int .i64 fV) (.int .i64 bV) (.slice aup (PV).length cup) (.int .i64 lV) (.slice aum (MV).length cum) 27)
    obtain ⟨⟨qr0, qr1, qr2, qr3, qr4⟩, _⟩ := Xr_11.out
    obtain ⟨⟨qw0, qw1, qw2, qw3, qw4⟩, _⟩ := Xw_11.out
    obtain ⟨⟨qx0, qx1, qx2, qx3, qx4⟩, _⟩ := Xx_11.out
    obtain ⟨⟨qy0, qy1, qy2, qy3, qy4⟩, _⟩ := Xy_11.out
    go_wp2_with fail
    clear qr0 qr1 qr2 qr3 qr4
    clear qw0 qw1 qw2 qw3 qw4
    clear qx0 qx1 qx2 qx3 qx4
    clear qy0 qy1 qy2 qy3 qy4
    generalize w10.alloc (.cells #[.int .i64 fV, .int .i64 bV, .slice aup (PV).length cup, .int .i64 lV, .slice aum (MV).length cum] 27) = w11 at *
    refine (irtmark_is fV bV aup cup (PV) lV aum cum (MV) HW.out _ p ⟨⟨(OwnI.intA Oup_11.out).2.2, (OwnI.intA Oum_11.out).2.2⟩, (OwnI.intA Oup_11.out).2.1, (OwnI.intA Oum_11.out).2.1, by omega, by omega⟩ (HE.out.below HB11.out)).mono ?_
    rintro en w12 ⟨pv, mv, rfl, S, o, bP, o2, hS, b⟩
    have HB12 := Lib.hid (HB11.out.trans (b.mono HB11.out.size))
    have hs12 := Lib.hid b.size
    have Orp_12 := Lib.hid (owni_later Orp_11.out b)
    have Orm_12 := Lib.hid (owni_later Orm_11.out b)
    have Owp_12 := Lib.hid (owni_later Owp_11.out b)
    have Owm_12 := Lib.hid (owni_later Owm_11.out b)
    have Oxp_12 := Lib.hid (owni_later Oxp_11.out b)
    have Oxm_12 := Lib.hid (owni_later Oxm_11.out b)
    have Oyp_12 := Lib.hid (owni_later Oyp_11.out b)
    have Oym_12 := Lib.hid (owni_later Oym_11.out b)
    have Oup_12 := Lib.hid (owni_later Oup_11.out b)
    have Oum_12 := Lib.hid (owni_later Oum_11.out b)
    have Xr_12 := Lib.hid (At5.below Xr_11.out b)
    have Xw_12 := Lib.hid (At5.below Xw_11.out b)
    have Xx_12 := Lib.hid (At5.below Xx_11.out b)
    have Xy_12 := Lib.hid (At5.below Xy_11.out b)
    have Xu_12 := Lib.hid (At5.below Xu_11.out b)
    replace o : OwnI w12 w11.heap.size pv PY := o
    replace o2 : OwnI w12 S mv MY := o2
    obtain ⟨avp, cvp, rfl, _, _⟩ := OwnI.tab o
    obtain ⟨avm, cvm, rfl, _, _⟩ := OwnI.tab o2
    have Av := Lib.hid (apart2 bP o2)
    have Bvp := Lib.hid (OwnI.btw o)
    have Bvm := Lib.hid ((OwnI.btw o2).mono hS (Nat.le_refl _))
    have Ovp_12 := Lib.hid (owni_mono o HB11.out.size)
    have Ovm_12 := Lib.hid (owni_mono o2 (Nat.le_trans HB11.out.size hS))
    clear o o2 bP hS b
    have HB13 := Lib.hid (HB12.out.alloc HB12.out.size (.cells #[.int .i64 fY, .int .i64 bY, .slice avp (PY).length cvp, .int .i64 lY, .slice avm (MY).length cvm] 27))
    have hs13 := Lib.hid (show w12.heap.size + 1 = (w12.alloc (.cells #[.int .i64 fY, .int .i64 bY, .slice avp (PY).length cvp, .int .i64 lY, .slice avm (MY).length cvm] 27)).heap.size by simp)
    have Orp_13 := Lib.hid (World.ownsRow.alloc Orp_12.out (.cells #[.int .i64 fY, .int .i64 bY, .slice avp (PY).length cvp, .int .i64 lY, .slice avm (MY).length cvm] 27))
    have Orm_13 := Lib.hid (World.ownsRow.alloc Orm_12.out (.cells #[.int .i64 fY, .int .i64 bY, .slice avp (PY).length cvp, .int .i64 lY, .slice avm (MY).length cvm] 27))
    have Owp_13 := Lib.hid (World.ownsRow.alloc Owp_12.out (.cells #[.int .i64 fY, .int .i64 bY, .slice avp (PY).length cvp, .int .i64 lY, .slice avm (MY).length cvm] 27))
    have Owm_13 := Lib.hid (World.ownsRow.alloc Owm_12.out (.cells #[.int .i64 fY, .int .i64 bY, .slice avp (PY).length cvp, .int .i64 lY, .slice avm (MY).length cvm] 27))
    have Oxp_13 := Lib.hid (World.ownsRow.alloc Oxp_12.out (.cells #[.int .i64 fY, .int .i64 bY, .slice avp (PY).length cvp, .int .i64 lY, .slice avm (MY).length cvm] 27))
    have Oxm_13 := Lib.hid (World.ownsRow.alloc Oxm_12.out (.cells #[.int .i64 fY, .int .i64 bY, .slice avp (PY).length cvp, .int .i64 lY, .slice avm (MY).length cvm] 27))
    have Oyp_13 := Lib.hid (World.ownsRow.alloc Oyp_12.out (.cells #[.int .i64 fY, .int .i64 bY, .slice avp (PY).length cvp, .int .i64 lY, .slice avm (MY).length cvm] 27))
    have Oym_13 := Lib.hid (World.ownsRow.alloc Oym_12.out (.cells #[.int .i64 fY, .int .i64 bY, .slice avp (PY).length cvp, .int .i64 lY, .slice avm (MY).length cvm] 27))
    have Oup_13 := Lib.hid (World.ownsRow.alloc Oup_12.out (.cells #[.int .i64 fY, .int .i64 bY, .slice avp (PY).length cvp, .int .i64 lY, .slice avm (MY).length cvm] 27))
    have Oum_13 := Lib.hid (World.ownsRow.alloc Oum_12.out (.cells #[.int .i64 fY, .int .i64 bY, .slice avp (PY).length cvp, .int .i64 lY, .slice avm (MY).length cvm] 27))
    have Ovp_13 := Lib.hid (World.ownsRow.alloc Ovp_12.out (.cells #[.int .i64 fY, .int .i64 bY, .slice avp (PY).length cvp, .int .i64 lY, .slice avm (MY).length cvm] 27))
    have Ovm_13 := Lib.hid (World.ownsRow.alloc Ovm_12.out (.cells #[.int .i64 fY, .int .i64 bY, .slice avp (PY).length cvp, .int .i64 lY, .slice avm (MY).length cvm] 27))
    have Xr_13 := Lib.hid (At5.alloc Xr_12.out (.cells #[.int .i64 fY, .int .i64 bY, .slice avp (PY).length cvp, .int .i64 lY, .slice avm (MY).length cvm] 27))
    have Xw_13 := Lib.hid (At5.alloc Xw_12.out (.cells #[.int .i64 fY, .int .i64 bY, .slice avp (PY).length cvp, .int .i64 lY, .slice avm (MY).length cvm] 27))
    have Xx_13 := Lib.hid (At5.alloc Xx_12.out (.cells #[.int .i64 fY, .int .i64 bY, .slice avp (PY).length cvp, .int .i64 lY, .slice avm (MY).length cvm] 27))
    have Xy_13 := Lib.hid (At5.alloc Xy_12.out (.cells #[.int .i64 fY, .int .i64 bY, .slice avp (PY).length cvp, .int .i64 lY, .slice avm (MY).length cvm] 27))
    have Xu_13 := Lib.hid (At5.alloc Xu_12.out (.cells #[.int .i64 fY, .int .i64 bY, .slice avp (PY).length cvp, .int .i64 lY, .slice avm (MY).length cvm] 27))
    have Xv_13 := Lib.hid (At5.new w12 (.int .i64 fY) (.int .i64 bY) (.slice avp (PY).length cvp) (.int .i64 lY) (.slice avm (MY).length cvm) 27)
    obtain ⟨⟨qr0, qr1, qr2, qr3, qr4⟩, _⟩ := Xr_13.out
    obtain ⟨⟨qw0, qw1, qw2, qw3, qw4⟩, _⟩ := Xw_13.out
    obtain ⟨⟨qx0, qx1, qx2, qx3, qx4⟩, _⟩ := Xx_13.out
    obtain ⟨⟨qy0, qy1, qy2, qy3, qy4⟩, _⟩ := Xy_13.out
    obtain ⟨⟨qu0, qu1, qu2, qu3, qu4⟩, _⟩ := Xu_13.out
    go_wp2_with fail
    clear qr0 qr1 qr2 qr3 qr4
    clear qw0 qw1 qw2 qw3 qw4
    clear qx0 qx1 qx2 qx3 qx4
    clear qy0 qy1 qy2 qy3 qy4
    clear qu0 qu1 qu2 qu3 qu4
    generalize w12.alloc (.cells #[.int .i64 fY, .int .i64 bY, .slice avp (PY).length cvp, .int .i64 lY, .slice avm (MY).length cvm] 27) = w13 at *
    refine (lyrt_is fY bY ayp cyp (PY) lY aym cym (MY) fY bY avp cvp (PY) lY avm cvm (MY) (show decide (((fY, bY, PY, lY, MY) : Rt) = (fY, bY, PY, lY, MY)) = true from decide_eq_true rfl) _ ⟨⟨(OwnI.intA Oyp_13.out).2.2, (OwnI.intA Oym_13.out).2.2⟩, (OwnI.intA Oyp_13.out).2.1, (OwnI.intA Oym_13.out).2.1, by omega, by omega⟩ ⟨⟨(OwnI.intA Ovp_13.out).2.2, (OwnI.intA Ovm_13.out).2.2⟩, (OwnI.intA Ovp_13.out).2.1, (OwnI.intA Ovm_13.out).2.1, by omega, by omega⟩).mono ?_
    rintro en w14 ⟨rfl, b⟩
    have HB14 := Lib.hid (HB13.out.trans (b.mono HB13.out.size))
    have hs14 := Lib.hid b.size
    have Orp_14 := Lib.hid (owni_later Orp_13.out b)
    have Orm_14 := Lib.hid (owni_later Orm_13.out b)
    have Owp_14 := Lib.hid (owni_later Owp_13.out b)
    have Owm_14 := Lib.hid (owni_later Owm_13.out b)
    have Oxp_14 := Lib.hid (owni_later Oxp_13.out b)
    have Oxm_14 := Lib.hid (owni_later Oxm_13.out b)
    have Oyp_14 := Lib.hid (owni_later Oyp_13.out b)
    have Oym_14 := Lib.hid (owni_later Oym_13.out b)
    have Oup_14 := Lib.hid (owni_later Oup_13.out b)
    have Oum_14 := Lib.hid (owni_later Oum_13.out b)
    have Ovp_14 := Lib.hid (owni_later Ovp_13.out b)
    have Ovm_14 := Lib.hid (owni_later Ovm_13.out b)
    have Xr_14 := Lib.hid (At5.below Xr_13.out b)
    have Xw_14 := Lib.hid (At5.below Xw_13.out b)
    have Xx_14 := Lib.hid (At5.below Xx_13.out b)
    have Xy_14 := Lib.hid (At5.below Xy_13.out b)
    have Xu_14 := Lib.hid (At5.below Xu_13.out b)
    have Xv_14 := Lib.hid (At5.below Xv_13.out b)
    clear b
    obtain ⟨⟨qr0, qr1, qr2, qr3, qr4⟩, _⟩ := Xr_14.out
    obtain ⟨⟨qw0, qw1, qw2, qw3, qw4⟩, _⟩ := Xw_14.out
    obtain ⟨⟨qx0, qx1, qx2, qx3, qx4⟩, _⟩ := Xx_14.out
    obtain ⟨⟨qy0, qy1, qy2, qy3, qy4⟩, _⟩ := Xy_14.out
    obtain ⟨⟨qu0, qu1, qu2, qu3, qu4⟩, _⟩ := Xu_14.out
    obtain ⟨⟨qv0, qv1, qv2, qv3, qv4⟩, _⟩ := Xv_14.out
    go_wp2_with fail
    clear qr0 qr1 qr2 qr3 qr4
    clear qw0 qw1 qw2 qw3 qw4
    clear qx0 qx1 qx2 qx3 qx4
    clear qy0 qy1 qy2 qy3 qy4
    clear qu0 qu1 qu2 qu3 qu4
    clear qv0 qv1 qv2 qv3 qv4
    go_ret
    exact ⟨rfl, HB14.out⟩

end Go.Proofs.YtfjfcdifnfffbaaDoor
