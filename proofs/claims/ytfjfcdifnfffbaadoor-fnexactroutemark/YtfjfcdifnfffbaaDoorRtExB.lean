/-
  The exact law of RouteMark: the walk.
-/
import Derived.Test.YtfjfcdifnfffbaaDoorRtExA
namespace Go.Proofs.YtfjfcdifnfffbaaDoor
open Go.RowKit
set_option linter.unusedSimpArgs false
set_option linter.unusedVariables false

set_option maxRecDepth 100000 in
set_option maxHeartbeats 4000000 in
theorem exactRouteMark_walk (f1 b1 : Int) (a1 : Option Addr) (n1 c1 : Nat) (P1 : List Int) (l1 : Int) (d1 : Option Addr) (m1 e1 : Nat) (M1 : List Int) (m : Int) (w : World) (hP1 : IntA w a1 P1) (hM1 : IntA w d1 M1) (hn1 : n1 = P1.length) (hm1 : m1 = M1.length) (hcP1 : n1 ≤ c1) (hcM1 : m1 ≤ e1) (hnl1 : n1 ≤ 9223372036854775807) (hml1 : m1 ≤ 9223372036854775807) (_ : (Lit.int .i64 m).wf = true) (p : Addr) (hE : EV w p) (_ : True) :
    Calls Tryd.prog 15 #[.agg #[.int .i64 f1, .int .i64 b1, .slice a1 n1 c1, .int .i64 l1, .slice d1 m1 e1], .int .i64 m] w fun e w' => e = .returned (.bool true) ∧ Below w.heap.size w w' := by
  subst hn1 hm1
  have HM1 := Lib.hid (And.intro hP1 hM1)
  clear hP1 hM1
  have HE := Lib.hid hE
  clear hE
  have HB0 := Lib.hid (Below.refl w.heap.size w)
  go_enter Tryd.func15, Tryd.ntmps15
  have HB1 := Lib.hid (HB0.out.alloc HB0.out.size (.cells #[.int .i64 f1, .int .i64 b1, .slice a1 P1.length c1, .int .i64 l1, .slice d1 M1.length e1] 49))
  have hs1 := Lib.hid (show w.heap.size + 1 = (w.alloc (.cells #[.int .i64 f1, .int .i64 b1, .slice a1 P1.length c1, .int .i64 l1, .slice d1 M1.length e1] 49)).heap.size by simp)
  have XA1_1 := Lib.hid (At5.new w (.int .i64 f1) (.int .i64 b1) (.slice a1 P1.length c1) (.int .i64 l1) (.slice d1 M1.length e1) 49)
  go_wp2_with fail
  generalize w.alloc (.cells #[.int .i64 f1, .int .i64 b1, .slice a1 P1.length c1, .int .i64 l1, .slice d1 M1.length e1] 49) = w1 at *
  by_cases hl : P1.length + M1.length ≤ 1048576
  · have hz : szR 1048576 P1.length M1.length = 1048576 - (P1.length : Int) - (M1.length : Int) := szR_pos (by omega)
    have hz0 : ¬ (1048576 : Int) - (P1.length : Int) - (M1.length : Int) < 0 := by omega
    refine (szrt_is f1 b1 l1 a1 d1 _ c1 _ e1 hz (by omega) (by omega) hnl1 hml1 _).mono ?_
    rintro en w2 ⟨rfl, b⟩
    have HB2 := Lib.hid (HB1.out.trans (b.mono HB1.out.size))
    have hs2 := Lib.hid b.size
    have XA1_2 := Lib.hid (At5.below XA1_1.out b)
    clear b
    obtain ⟨⟨⟨fU, bU, PU, lU, MU⟩, u⟩, hU⟩ : ∃ r, rtMark (f1, b1, P1, l1, M1) m = r := ⟨_, rfl⟩
    have hUl : PU.length ≤ 5 ∧ MU.length ≤ 10 := by have := rtMark_len (f1, b1, P1, l1, M1) m; rw [hU] at this; exact this
    have HU := Lib.hid hU
    have huu : (u != u) = false := by simp
    clear hU
    obtain ⟨⟨qA10, qA11, qA12, qA13, qA14⟩, _⟩ := XA1_2.out
    go_wp2_with fail
    clear qA10 qA11 qA12 qA13 qA14
    refine (tort_is f1 b1 a1 c1 P1 l1 d1 e1 M1 _ ⟨⟨HM1.out.1.below HB2.out, HM1.out.2.below HB2.out⟩, hcP1, hcM1, by omega, by omega⟩ (by omega) (by omega)).mono ?_
    rintro en w3 ⟨pv, mv, rfl, S, o, bP, o2, hS, b⟩
    have HB3 := Lib.hid (HB2.out.trans (b.mono HB2.out.size))
    have hs3 := Lib.hid b.size
    have XA1_3 := Lib.hid (At5.below XA1_2.out b)
    replace o : OwnI w3 w2.heap.size pv P1 := o
    replace o2 : OwnI w3 S mv M1 := o2
    obtain ⟨aqp, cqp, rfl, _, _⟩ := OwnI.tab o
    obtain ⟨aqm, cqm, rfl, _, _⟩ := OwnI.tab o2
    have Aq := Lib.hid (apart2 bP o2)
    have Bqp := Lib.hid (OwnI.btw o)
    have Bqm := Lib.hid ((OwnI.btw o2).mono hS (Nat.le_refl _))
    have Oqp_3 := Lib.hid (owni_mono o HB2.out.size)
    have Oqm_3 := Lib.hid (owni_mono o2 (Nat.le_trans HB2.out.size hS))
    clear o o2 bP hS b
    obtain ⟨⟨qA10, qA11, qA12, qA13, qA14⟩, _⟩ := XA1_3.out
    go_wp2_with fail
    clear qA10 qA11 qA12 qA13 qA14
    refine (srtmark_is f1 b1 aqp cqp (P1) l1 aqm cqm (M1) HU.out _ ⟨⟨(OwnI.intA Oqp_3.out).2.2, (OwnI.intA Oqm_3.out).2.2⟩, (OwnI.intA Oqp_3.out).2.1, (OwnI.intA Oqm_3.out).2.1, by omega, by omega⟩).mono ?_
    rintro en w4 ⟨pv, mv, rfl, S, o, bP, o2, hS, b⟩
    have HB4 := Lib.hid (HB3.out.trans (b.mono HB3.out.size))
    have hs4 := Lib.hid b.size
    have Oqp_4 := Lib.hid (owni_later Oqp_3.out b)
    have Oqm_4 := Lib.hid (owni_later Oqm_3.out b)
    have XA1_4 := Lib.hid (At5.below XA1_3.out b)
    replace o : OwnI w4 w3.heap.size pv PU := o
    replace o2 : OwnI w4 S mv MU := o2
    obtain ⟨awp, cwp, rfl, _, _⟩ := OwnI.tab o
    obtain ⟨awm, cwm, rfl, _, _⟩ := OwnI.tab o2
    have Aw := Lib.hid (apart2 bP o2)
    have Bwp := Lib.hid (OwnI.btw o)
    have Bwm := Lib.hid ((OwnI.btw o2).mono hS (Nat.le_refl _))
    have Owp_4 := Lib.hid (owni_mono o HB3.out.size)
    have Owm_4 := Lib.hid (owni_mono o2 (Nat.le_trans HB3.out.size hS))
    clear o o2 bP hS b
    have HB5 := Lib.hid (HB4.out.alloc HB4.out.size (.cells #[.int .i64 fU, .int .i64 bU, .slice awp (PU).length cwp, .int .i64 lU, .slice awm (MU).length cwm] 27))
    have hs5 := Lib.hid (show w4.heap.size + 1 = (w4.alloc (.cells #[.int .i64 fU, .int .i64 bU, .slice awp (PU).length cwp, .int .i64 lU, .slice awm (MU).length cwm] 27)).heap.size by simp)
    have Owp_5 := Lib.hid (World.ownsRow.alloc Owp_4.out (.cells #[.int .i64 fU, .int .i64 bU, .slice awp (PU).length cwp, .int .i64 lU, .slice awm (MU).length cwm] 27))
    have Owm_5 := Lib.hid (World.ownsRow.alloc Owm_4.out (.cells #[.int .i64 fU, .int .i64 bU, .slice awp (PU).length cwp, .int .i64 lU, .slice awm (MU).length cwm] 27))
    have XA1_5 := Lib.hid (At5.alloc XA1_4.out (.cells #[.int .i64 fU, .int .i64 bU, .slice awp (PU).length cwp, .int .i64 lU, .slice awm (MU).length cwm] 27))
    have Xw_5 := Lib.hid (At5.new w4 (.int .i64 fU) (.int .i64 bU) (.slice awp (PU).length cwp) (.int .i64 lU) (.slice awm (MU).length cwm) 27)
    obtain ⟨⟨qA10, qA11, qA12, qA13, qA14⟩, _⟩ := XA1_5.out
    go_wp2_with fail
    clear qA10 qA11 qA12 qA13 qA14
    generalize w4.alloc (.cells #[.int .i64 fU, .int .i64 bU, .slice awp (PU).length cwp, .int .i64 lU, .slice awm (MU).length cwm] 27) = w5 at *
    refine (tort_is f1 b1 a1 c1 P1 l1 d1 e1 M1 _ ⟨⟨HM1.out.1.below HB5.out, HM1.out.2.below HB5.out⟩, hcP1, hcM1, by omega, by omega⟩ (by omega) (by omega)).mono ?_
    rintro en w6 ⟨pv, mv, rfl, S, o, bP, o2, hS, b⟩
    have HB6 := Lib.hid (HB5.out.trans (b.mono HB5.out.size))
    have hs6 := Lib.hid b.size
    have Owp_6 := Lib.hid (owni_later Owp_5.out b)
    have Owm_6 := Lib.hid (owni_later Owm_5.out b)
    have XA1_6 := Lib.hid (At5.below XA1_5.out b)
    have Xw_6 := Lib.hid (At5.below Xw_5.out b)
    replace o : OwnI w6 w5.heap.size pv P1 := o
    replace o2 : OwnI w6 S mv M1 := o2
    obtain ⟨axp, cxp, rfl, _, _⟩ := OwnI.tab o
    obtain ⟨axm, cxm, rfl, _, _⟩ := OwnI.tab o2
    have Ax := Lib.hid (apart2 bP o2)
    have Bxp := Lib.hid (OwnI.btw o)
    have Bxm := Lib.hid ((OwnI.btw o2).mono hS (Nat.le_refl _))
    have Oxp_6 := Lib.hid (owni_mono o HB5.out.size)
    have Oxm_6 := Lib.hid (owni_mono o2 (Nat.le_trans HB5.out.size hS))
    clear o o2 bP hS b
    have HB7 := Lib.hid (HB6.out.alloc HB6.out.size (.cells #[.int .i64 f1, .int .i64 b1, .slice axp (P1).length cxp, .int .i64 l1, .slice axm (M1).length cxm] 27))
    have hs7 := Lib.hid (show w6.heap.size + 1 = (w6.alloc (.cells #[.int .i64 f1, .int .i64 b1, .slice axp (P1).length cxp, .int .i64 l1, .slice axm (M1).length cxm] 27)).heap.size by simp)
    have Owp_7 := Lib.hid (World.ownsRow.alloc Owp_6.out (.cells #[.int .i64 f1, .int .i64 b1, .slice axp (P1).length cxp, .int .i64 l1, .slice axm (M1).length cxm] 27))
    have Owm_7 := Lib.hid (World.ownsRow.alloc Owm_6.out (.cells #[.int .i64 f1, .int .i64 b1, .slice axp (P1).length cxp, .int .i64 l1, .slice axm (M1).length cxm] 27))
    have Oxp_7 := Lib.hid (World.ownsRow.alloc Oxp_6.out (.cells #[.int .i64 f1, .int .i64 b1, .slice axp (P1).length cxp, .int .i64 l1, .slice axm (M1).length cxm] 27))
    have Oxm_7 := Lib.hid (World.ownsRow.alloc Oxm_6.out (.cells #[.int .i64 f1, .int .i64 b1, .slice axp (P1).length cxp, .int .i64 l1, .slice axm (M1).length cxm] 27))
    have XA1_7 := Lib.hid (At5.alloc XA1_6.out (.cells #[.int .i64 f1, .int .i64 b1, .slice axp (P1).length cxp, .int .i64 l1, .slice axm (M1).length cxm] 27))
    have Xw_7 := Lib.hid (At5.alloc Xw_6.out (.cells #[.int .i64 f1, .int .i64 b1, .slice axp (P1).length cxp, .int .i64 l1, .slice axm (M1).length cxm] 27))
    have Xx_7 := Lib.hid (At5.new w6 (.int .i64 f1) (.int .i64 b1) (.slice axp (P1).length cxp) (.int .i64 l1) (.slice axm (M1).length cxm) 27)
    obtain ⟨⟨qA10, qA11, qA12, qA13, qA14⟩, _⟩ := XA1_7.out
    obtain ⟨⟨qw0, qw1, qw2, qw3, qw4⟩, _⟩ := Xw_7.out
    go_wp2_with fail
    clear qA10 qA11 qA12 qA13 qA14
    clear qw0 qw1 qw2 qw3 qw4
    generalize w6.alloc (.cells #[.int .i64 f1, .int .i64 b1, .slice axp (P1).length cxp, .int .i64 l1, .slice axm (M1).length cxm] 27) = w7 at *
    refine (irtmark_is f1 b1 axp cxp (P1) l1 axm cxm (M1) HU.out _ p ⟨⟨(OwnI.intA Oxp_7.out).2.2, (OwnI.intA Oxm_7.out).2.2⟩, (OwnI.intA Oxp_7.out).2.1, (OwnI.intA Oxm_7.out).2.1, by omega, by omega⟩ (HE.out.below HB7.out)).mono ?_
    rintro en w8 ⟨pv, mv, rfl, S, o, bP, o2, hS, b⟩
    have HB8 := Lib.hid (HB7.out.trans (b.mono HB7.out.size))
    have hs8 := Lib.hid b.size
    have Owp_8 := Lib.hid (owni_later Owp_7.out b)
    have Owm_8 := Lib.hid (owni_later Owm_7.out b)
    have Oxp_8 := Lib.hid (owni_later Oxp_7.out b)
    have Oxm_8 := Lib.hid (owni_later Oxm_7.out b)
    have XA1_8 := Lib.hid (At5.below XA1_7.out b)
    have Xw_8 := Lib.hid (At5.below Xw_7.out b)
    have Xx_8 := Lib.hid (At5.below Xx_7.out b)
    replace o : OwnI w8 w7.heap.size pv PU := o
    replace o2 : OwnI w8 S mv MU := o2
    obtain ⟨agp, cgp, rfl, _, _⟩ := OwnI.tab o
    obtain ⟨agm, cgm, rfl, _, _⟩ := OwnI.tab o2
    have Ag := Lib.hid (apart2 bP o2)
    have Bgp := Lib.hid (OwnI.btw o)
    have Bgm := Lib.hid ((OwnI.btw o2).mono hS (Nat.le_refl _))
    have Ogp_8 := Lib.hid (owni_mono o HB7.out.size)
    have Ogm_8 := Lib.hid (owni_mono o2 (Nat.le_trans HB7.out.size hS))
    clear o o2 bP hS b
    have HB9 := Lib.hid (HB8.out.alloc HB8.out.size (.cells #[.int .i64 fU, .int .i64 bU, .slice agp (PU).length cgp, .int .i64 lU, .slice agm (MU).length cgm] 27))
    have hs9 := Lib.hid (show w8.heap.size + 1 = (w8.alloc (.cells #[.int .i64 fU, .int .i64 bU, .slice agp (PU).length cgp, .int .i64 lU, .slice agm (MU).length cgm] 27)).heap.size by simp)
    have Owp_9 := Lib.hid (World.ownsRow.alloc Owp_8.out (.cells #[.int .i64 fU, .int .i64 bU, .slice agp (PU).length cgp, .int .i64 lU, .slice agm (MU).length cgm] 27))
    have Owm_9 := Lib.hid (World.ownsRow.alloc Owm_8.out (.cells #[.int .i64 fU, .int .i64 bU, .slice agp (PU).length cgp, .int .i64 lU, .slice agm (MU).length cgm] 27))
    have Oxp_9 := Lib.hid (World.ownsRow.alloc Oxp_8.out (.cells #[.int .i64 fU, .int .i64 bU, .slice agp (PU).length cgp, .int .i64 lU, .slice agm (MU).length cgm] 27))
    have Oxm_9 := Lib.hid (World.ownsRow.alloc Oxm_8.out (.cells #[.int .i64 fU, .int .i64 bU, .slice agp (PU).length cgp, .int .i64 lU, .slice agm (MU).length cgm] 27))
    have Ogp_9 := Lib.hid (World.ownsRow.alloc Ogp_8.out (.cells #[.int .i64 fU, .int .i64 bU, .slice agp (PU).length cgp, .int .i64 lU, .slice agm (MU).length cgm] 27))
    have Ogm_9 := Lib.hid (World.ownsRow.alloc Ogm_8.out (.cells #[.int .i64 fU, .int .i64 bU, .slice agp (PU).length cgp, .int .i64 lU, .slice agm (MU).length cgm] 27))
    have XA1_9 := Lib.hid (At5.alloc XA1_8.out (.cells #[.int .i64 fU, .int .i64 bU, .slice agp (PU).length cgp, .int .i64 lU, .slice agm (MU).length cgm] 27))
    have Xw_9 := Lib.hid (At5.alloc Xw_8.out (.cells #[.int .i64 fU, .int .i64 bU, .slice agp (PU).length cgp, .int .i64 lU, .slice agm (MU).length cgm] 27))
    have Xx_9 := Lib.hid (At5.alloc Xx_8.out (.cells #[.int .i64 fU, .int .i64 bU, .slice agp (PU).length cgp, .int .i64 lU, .slice agm (MU).length cgm] 27))
    have Xg_9 := Lib.hid (At5.new w8 (.int .i64 fU) (.int .i64 bU) (.slice agp (PU).length cgp) (.int .i64 lU) (.slice agm (MU).length cgm) 27)
    obtain ⟨⟨qA10, qA11, qA12, qA13, qA14⟩, _⟩ := XA1_9.out
    obtain ⟨⟨qw0, qw1, qw2, qw3, qw4⟩, _⟩ := Xw_9.out
    obtain ⟨⟨qx0, qx1, qx2, qx3, qx4⟩, _⟩ := Xx_9.out
    go_wp2_with fail
    clear qA10 qA11 qA12 qA13 qA14
    clear qw0 qw1 qw2 qw3 qw4
    clear qx0 qx1 qx2 qx3 qx4
    generalize w8.alloc (.cells #[.int .i64 fU, .int .i64 bU, .slice agp (PU).length cgp, .int .i64 lU, .slice agm (MU).length cgm] 27) = w9 at *
    refine (eqrt_is fU bU agp cgp (PU) lU agm cgm (MU) fU bU awp cwp (PU) lU awm cwm (MU) (show decide (((fU, bU, PU, lU, MU) : Rt) = ((fU, bU, PU, lU, MU) : Rt)) = true from decide_eq_true rfl) _ ⟨⟨(OwnI.intA Ogp_9.out).2.2, (OwnI.intA Ogm_9.out).2.2⟩, (OwnI.intA Ogp_9.out).2.1, (OwnI.intA Ogm_9.out).2.1, by omega, by omega⟩ ⟨⟨(OwnI.intA Owp_9.out).2.2, (OwnI.intA Owm_9.out).2.2⟩, (OwnI.intA Owp_9.out).2.1, (OwnI.intA Owm_9.out).2.1, by omega, by omega⟩).mono ?_
    rintro en w10 ⟨rfl, b⟩
    have HB10 := Lib.hid (HB9.out.trans (b.mono HB9.out.size))
    have hs10 := Lib.hid b.size
    have Owp_10 := Lib.hid (owni_later Owp_9.out b)
    have Owm_10 := Lib.hid (owni_later Owm_9.out b)
    have Oxp_10 := Lib.hid (owni_later Oxp_9.out b)
    have Oxm_10 := Lib.hid (owni_later Oxm_9.out b)
    have Ogp_10 := Lib.hid (owni_later Ogp_9.out b)
    have Ogm_10 := Lib.hid (owni_later Ogm_9.out b)
    have XA1_10 := Lib.hid (At5.below XA1_9.out b)
    have Xw_10 := Lib.hid (At5.below Xw_9.out b)
    have Xx_10 := Lib.hid (At5.below Xx_9.out b)
    have Xg_10 := Lib.hid (At5.below Xg_9.out b)
    clear b
    obtain ⟨⟨qA10, qA11, qA12, qA13, qA14⟩, _⟩ := XA1_10.out
    obtain ⟨⟨qw0, qw1, qw2, qw3, qw4⟩, _⟩ := Xw_10.out
    obtain ⟨⟨qx0, qx1, qx2, qx3, qx4⟩, _⟩ := Xx_10.out
    obtain ⟨⟨qg0, qg1, qg2, qg3, qg4⟩, _⟩ := Xg_10.out
    go_wp2_with fail
    clear qA10 qA11 qA12 qA13 qA14
    clear qw0 qw1 qw2 qw3 qw4
    clear qx0 qx1 qx2 qx3 qx4
    clear qg0 qg1 qg2 qg3 qg4
    refine wp_region_held_drew (S := fun W => ((W.cell? ⟨w6.heap.size, 0, none⟩ = some (.int .i64 f1) ∧ W.cell? ⟨w6.heap.size, 1, none⟩ = some (.int .i64 b1) ∧ W.cell? ⟨w6.heap.size, 2, none⟩ = some (.slice axp (P1).length cxp) ∧ W.cell? ⟨w6.heap.size, 3, none⟩ = some (.int .i64 l1) ∧ W.cell? ⟨w6.heap.size, 4, none⟩ = some (.slice axm (M1).length cxm)) ∧ (W.cell? ⟨w.heap.size, 0, none⟩ = some (.int .i64 f1) ∧ W.cell? ⟨w.heap.size, 1, none⟩ = some (.int .i64 b1) ∧ W.cell? ⟨w.heap.size, 2, none⟩ = some (.slice a1 P1.length c1) ∧ W.cell? ⟨w.heap.size, 3, none⟩ = some (.int .i64 l1) ∧ W.cell? ⟨w.heap.size, 4, none⟩ = some (.slice d1 M1.length e1))) ∧ Hid (Below w.heap.size w W ∧ OwnI W w.heap.size (.slice awp (PU).length cwp) (PU) ∧ OwnI W w.heap.size (.slice awm (MU).length cwm) (MU) ∧ OwnI W w.heap.size (.slice axp (P1).length cxp) (P1) ∧ OwnI W w.heap.size (.slice axm (M1).length cxm) (M1) ∧ OwnI W w.heap.size (.slice agp (PU).length cgp) (PU) ∧ OwnI W w.heap.size (.slice agm (MU).length cgm) (MU) ∧ At5 W (w.heap.size) (.int .i64 f1) (.int .i64 b1) (.slice a1 P1.length c1) (.int .i64 l1) (.slice d1 M1.length e1) ∧ At5 W (w4.heap.size) (.int .i64 fU) (.int .i64 bU) (.slice awp (PU).length cwp) (.int .i64 lU) (.slice awm (MU).length cwm) ∧ At5 W (w6.heap.size) (.int .i64 f1) (.int .i64 b1) (.slice axp (P1).length cxp) (.int .i64 l1) (.slice axm (M1).length cxm) ∧ At5 W (w8.heap.size) (.int .i64 fU) (.int .i64 bU) (.slice agp (PU).length cgp) (.int .i64 lU) (.slice agm (MU).length cgm))) (by kernel_rfl) ?_ (fun hHeld => ?_)
    · exact ⟨⟨Xx_10.out.1, XA1_10.out.1⟩, Lib.hid ⟨HB10.out.drew, Owp_10.out.drew, Owm_10.out.drew, Oxp_10.out.drew, Oxm_10.out.drew, Ogp_10.out.drew, Ogm_10.out.drew, XA1_10.out.drew, Xw_10.out.drew, Xx_10.out.drew, Xg_10.out.drew⟩⟩
    refine takeH (i := 0) (v := ?_) rfl rfl (by kernel_rfl) (by kernel_rfl) (by kernel_rfl) (fun _ _ _ h => h) (by rfl) ?_ (by assumption) ?_
    rotate_left 1
    · intro w hSw
      (try dsimp only at hSw)
      go_simp
      try with_reducible rfl
    try simp only [List.setIfInBounds_toArray, List.set_cons_zero, List.set_cons_succ]
    refine takeH (i := 1) (v := ?_) rfl rfl (by kernel_rfl) (by kernel_rfl) (by kernel_rfl) (fun _ _ _ h => h) (by rfl) ?_ (by assumption) ?_
    rotate_left 1
    · intro w hSw
      (try dsimp only at hSw)
      go_simp
      try with_reducible rfl
    try simp only [List.setIfInBounds_toArray, List.set_cons_zero, List.set_cons_succ]
    refine wpAnyH_ready (rs := [2]) (by kernel_rfl) (by simp) ?_
    refine AllReadyH.cons rfl (fun K hK => ?_) (AllReadyH.nil)
    go_simp
    refine (tort_is f1 b1 a1 c1 P1 l1 d1 e1 M1 _ ⟨⟨HM1.out.1.below hHeld.2.out.1, HM1.out.2.below hHeld.2.out.1⟩, hcP1, hcM1, by omega, by omega⟩ (by omega) (by omega)).mono ?_
    rintro en wy ⟨pv, mv, rfl, S, o, bP, o2, hS, b⟩
    replace o : OwnI wy _ pv P1 := o
    replace o2 : OwnI wy S mv M1 := o2
    obtain ⟨ayp, cyp, rfl, _, _⟩ := OwnI.tab o
    obtain ⟨aym, cym, rfl, _, _⟩ := OwnI.tab o2
    have OYy := Lib.hid (And.intro o o2)
    clear o o2 bP hS
    go_wp2_with fail
    refine hK.out _ _ ?_ (fun hNew => ?_)
    · exact ⟨⟨⟨cell_later b hHeld.1.1.1, cell_later b hHeld.1.1.2.1, cell_later b hHeld.1.1.2.2.1, cell_later b hHeld.1.1.2.2.2.1, cell_later b hHeld.1.1.2.2.2.2⟩, ⟨cell_later b hHeld.1.2.1, cell_later b hHeld.1.2.2.1, cell_later b hHeld.1.2.2.2.1, cell_later b hHeld.1.2.2.2.2.1, cell_later b hHeld.1.2.2.2.2.2⟩⟩, Lib.hid ⟨next hHeld.2.out.1 b, owni_later hHeld.2.out.2.1 b, owni_later hHeld.2.out.2.2.1 b, owni_later hHeld.2.out.2.2.2.1 b, owni_later hHeld.2.out.2.2.2.2.1 b, owni_later hHeld.2.out.2.2.2.2.2.1 b, owni_later hHeld.2.out.2.2.2.2.2.2.1 b, hHeld.2.out.2.2.2.2.2.2.2.1.below b, hHeld.2.out.2.2.2.2.2.2.2.2.1.below b, hHeld.2.out.2.2.2.2.2.2.2.2.2.1.below b, hHeld.2.out.2.2.2.2.2.2.2.2.2.2.below b⟩⟩
    clear hK K hHeld
    have hHeld := hNew
    clear hNew
    try simp only [Act.put, List.setIfInBounds_toArray, List.set_cons_zero, List.set_cons_succ]
    refine wpAnyH_ready (rs := [3]) (by kernel_rfl) (by simp) ?_
    refine AllReadyH.cons rfl (fun K hK => ?_) (AllReadyH.nil)
    go_simp
    refine (eqrt_is f1 b1 axp cxp (P1) l1 axm cxm (M1) f1 b1 ayp cyp (P1) l1 aym cym (M1) (show decide (((f1, b1, P1, l1, M1) : Rt) = ((f1, b1, P1, l1, M1) : Rt)) = true from decide_eq_true rfl) _ ⟨⟨(OwnI.intA hHeld.2.out.2.2.2.1).2.2, (OwnI.intA hHeld.2.out.2.2.2.2.1).2.2⟩, (OwnI.intA hHeld.2.out.2.2.2.1).2.1, (OwnI.intA hHeld.2.out.2.2.2.2.1).2.1, by omega, by omega⟩ ⟨⟨(OwnI.intA OYy.out.1).2.2, (OwnI.intA OYy.out.2).2.2⟩, (OwnI.intA OYy.out.1).2.1, (OwnI.intA OYy.out.2).2.1, by omega, by omega⟩).mono ?_
    rintro en wz ⟨rfl, b⟩
    go_wp2_with fail
    refine hK.out _ _ ?_ (fun hNew => ?_)
    · exact ⟨⟨⟨cell_later b hHeld.1.1.1, cell_later b hHeld.1.1.2.1, cell_later b hHeld.1.1.2.2.1, cell_later b hHeld.1.1.2.2.2.1, cell_later b hHeld.1.1.2.2.2.2⟩, ⟨cell_later b hHeld.1.2.1, cell_later b hHeld.1.2.2.1, cell_later b hHeld.1.2.2.2.1, cell_later b hHeld.1.2.2.2.2.1, cell_later b hHeld.1.2.2.2.2.2⟩⟩, Lib.hid ⟨next hHeld.2.out.1 b, owni_later hHeld.2.out.2.1 b, owni_later hHeld.2.out.2.2.1 b, owni_later hHeld.2.out.2.2.2.1 b, owni_later hHeld.2.out.2.2.2.2.1 b, owni_later hHeld.2.out.2.2.2.2.2.1 b, owni_later hHeld.2.out.2.2.2.2.2.2.1 b, hHeld.2.out.2.2.2.2.2.2.2.1.below b, hHeld.2.out.2.2.2.2.2.2.2.2.1.below b, hHeld.2.out.2.2.2.2.2.2.2.2.2.1.below b, hHeld.2.out.2.2.2.2.2.2.2.2.2.2.below b⟩⟩
    clear hK K hHeld
    have hHeld := hNew
    clear hNew
    try simp only [Act.put, List.setIfInBounds_toArray, List.set_cons_zero, List.set_cons_succ]
    refine takeH (i := 4) (v := ?_) rfl rfl (by kernel_rfl) (by kernel_rfl) (by kernel_rfl) (fun _ _ _ h => h) (by rfl) ?_ (by assumption) ?_
    rotate_left 1
    · intro w hSw
      (try dsimp only at hSw)
      go_simp
      try with_reducible rfl
    try simp only [List.setIfInBounds_toArray, List.set_cons_zero, List.set_cons_succ]
    refine wpAnyH_done (by kernel_rfl) ?_ _
    have HZ := Lib.hid hHeld.2.out
    have HB11 := Lib.hid HZ.out.1
    have Owp_11 := Lib.hid HZ.out.2.1
    have Owm_11 := Lib.hid HZ.out.2.2.1
    have Oxp_11 := Lib.hid HZ.out.2.2.2.1
    have Oxm_11 := Lib.hid HZ.out.2.2.2.2.1
    have Ogp_11 := Lib.hid HZ.out.2.2.2.2.2.1
    have Ogm_11 := Lib.hid HZ.out.2.2.2.2.2.2.1
    have XA1_11 := Lib.hid HZ.out.2.2.2.2.2.2.2.1
    have Xw_11 := Lib.hid HZ.out.2.2.2.2.2.2.2.2.1
    have Xx_11 := Lib.hid HZ.out.2.2.2.2.2.2.2.2.2.1
    have Xg_11 := Lib.hid HZ.out.2.2.2.2.2.2.2.2.2.2
    clear hHeld HZ
    generalize wz = w11 at *
    have hnn : ¬ ((1 + P1.length + M1.length : Nat) : Int) < 0 := by omega
    have hnu : ¬ ((1 + PU.length + MU.length : Nat) : Int) < 0 := by omega
    obtain ⟨⟨qA10, qA11, qA12, qA13, qA14⟩, _⟩ := XA1_11.out
    obtain ⟨⟨qw0, qw1, qw2, qw3, qw4⟩, _⟩ := Xw_11.out
    obtain ⟨⟨qx0, qx1, qx2, qx3, qx4⟩, _⟩ := Xx_11.out
    obtain ⟨⟨qg0, qg1, qg2, qg3, qg4⟩, _⟩ := Xg_11.out
    go_wp2_with fail
    clear qA10 qA11 qA12 qA13 qA14
    clear qw0 qw1 qw2 qw3 qw4
    clear qx0 qx1 qx2 qx3 qx4
    clear qg0 qg1 qg2 qg3 qg4
    refine (markrt_any f1 b1 l1 _ _ _ _ (P1) (M1) _ _ _ Oxp_11.out Oxm_11.out Ax.out (by omega) (by omega)).mono ?_
    rintro en w12 ⟨rfl, o, o2, V0, V1, b0, g1, g2⟩
    have hs12 := Lib.hid (Nat.le_trans b0.size (Nat.le_trans g1.size g2.size))
    have HB12 := Lib.hid (((HB11.out.trans (b0.mono HB11.out.size)).grown g1 (Nat.le_trans HB11.out.size b0.size) (fun k e => (World.ownsRow.lt Oxp_11.out k e).1)).grown g2 (Nat.le_trans HB11.out.size (Nat.le_trans b0.size g1.size)) (fun k e => (World.ownsRow.lt Oxm_11.out k e).1))
    have Owp_12 := Lib.hid (World.ownsRow.kept (World.ownsRow.kept (owni_later Owp_11.out b0) g1 (pBtw.apart Bwp.out Bxp.out (by have := hs1.out; have := hs2.out; have := hs3.out; have := hs4.out; have := hs5.out; have := hs6.out; have := hs7.out; have := hs8.out; have := hs9.out; have := hs10.out; omega))) g2 (pBtw.apart Bwp.out Bxm.out (by have := hs1.out; have := hs2.out; have := hs3.out; have := hs4.out; have := hs5.out; have := hs6.out; have := hs7.out; have := hs8.out; have := hs9.out; have := hs10.out; omega)))
    have Owm_12 := Lib.hid (World.ownsRow.kept (World.ownsRow.kept (owni_later Owm_11.out b0) g1 (pBtw.apart Bwm.out Bxp.out (by have := hs1.out; have := hs2.out; have := hs3.out; have := hs4.out; have := hs5.out; have := hs6.out; have := hs7.out; have := hs8.out; have := hs9.out; have := hs10.out; omega))) g2 (pBtw.apart Bwm.out Bxm.out (by have := hs1.out; have := hs2.out; have := hs3.out; have := hs4.out; have := hs5.out; have := hs6.out; have := hs7.out; have := hs8.out; have := hs9.out; have := hs10.out; omega)))
    have Ogp_12 := Lib.hid (World.ownsRow.kept (World.ownsRow.kept (owni_later Ogp_11.out b0) g1 (pBtw.apart Bgp.out Bxp.out (by have := hs1.out; have := hs2.out; have := hs3.out; have := hs4.out; have := hs5.out; have := hs6.out; have := hs7.out; have := hs8.out; have := hs9.out; have := hs10.out; omega))) g2 (pBtw.apart Bgp.out Bxm.out (by have := hs1.out; have := hs2.out; have := hs3.out; have := hs4.out; have := hs5.out; have := hs6.out; have := hs7.out; have := hs8.out; have := hs9.out; have := hs10.out; omega)))
    have Ogm_12 := Lib.hid (World.ownsRow.kept (World.ownsRow.kept (owni_later Ogm_11.out b0) g1 (pBtw.apart Bgm.out Bxp.out (by have := hs1.out; have := hs2.out; have := hs3.out; have := hs4.out; have := hs5.out; have := hs6.out; have := hs7.out; have := hs8.out; have := hs9.out; have := hs10.out; omega))) g2 (pBtw.apart Bgm.out Bxm.out (by have := hs1.out; have := hs2.out; have := hs3.out; have := hs4.out; have := hs5.out; have := hs6.out; have := hs7.out; have := hs8.out; have := hs9.out; have := hs10.out; omega)))
    have Oxp_12 := Lib.hid o
    have Oxm_12 := Lib.hid o2
    have XA1_12 := Lib.hid (((At5.below XA1_11.out b0).only g1 (fun q => by have hq := Bxp.out _ q.symm; have := hs1.out; have := hs2.out; have := hs3.out; have := hs4.out; have := hs5.out; have := hs6.out; have := hs7.out; have := hs8.out; have := hs9.out; have := hs10.out; omega)).only g2 (fun q => by have hq := Bxm.out _ q.symm; have := hs1.out; have := hs2.out; have := hs3.out; have := hs4.out; have := hs5.out; have := hs6.out; have := hs7.out; have := hs8.out; have := hs9.out; have := hs10.out; omega))
    have Xw_12 := Lib.hid (((At5.below Xw_11.out b0).only g1 (fun q => by have hq := Bxp.out _ q.symm; have := hs1.out; have := hs2.out; have := hs3.out; have := hs4.out; have := hs5.out; have := hs6.out; have := hs7.out; have := hs8.out; have := hs9.out; have := hs10.out; omega)).only g2 (fun q => by have hq := Bxm.out _ q.symm; have := hs1.out; have := hs2.out; have := hs3.out; have := hs4.out; have := hs5.out; have := hs6.out; have := hs7.out; have := hs8.out; have := hs9.out; have := hs10.out; omega))
    have Xx_12 := Lib.hid (((At5.below Xx_11.out b0).only g1 (fun q => by have hq := Bxp.out _ q.symm; have := hs1.out; have := hs2.out; have := hs3.out; have := hs4.out; have := hs5.out; have := hs6.out; have := hs7.out; have := hs8.out; have := hs9.out; have := hs10.out; omega)).only g2 (fun q => by have hq := Bxm.out _ q.symm; have := hs1.out; have := hs2.out; have := hs3.out; have := hs4.out; have := hs5.out; have := hs6.out; have := hs7.out; have := hs8.out; have := hs9.out; have := hs10.out; omega))
    have Xg_12 := Lib.hid (((At5.below Xg_11.out b0).only g1 (fun q => by have hq := Bxp.out _ q.symm; have := hs1.out; have := hs2.out; have := hs3.out; have := hs4.out; have := hs5.out; have := hs6.out; have := hs7.out; have := hs8.out; have := hs9.out; have := hs10.out; omega)).only g2 (fun q => by have hq := Bxm.out _ q.symm; have := hs1.out; have := hs2.out; have := hs3.out; have := hs4.out; have := hs5.out; have := hs6.out; have := hs7.out; have := hs8.out; have := hs9.out; have := hs10.out; omega))
    clear o o2 b0 g1 g2
    generalize hk1 : 1 + P1.length + M1.length = K1 at *
    obtain ⟨⟨qA10, qA11, qA12, qA13, qA14⟩, _⟩ := XA1_12.out
    obtain ⟨⟨qw0, qw1, qw2, qw3, qw4⟩, _⟩ := Xw_12.out
    obtain ⟨⟨qx0, qx1, qx2, qx3, qx4⟩, _⟩ := Xx_12.out
    obtain ⟨⟨qg0, qg1, qg2, qg3, qg4⟩, _⟩ := Xg_12.out
    go_wp2_with fail
    clear qA10 qA11 qA12 qA13 qA14
    clear qw0 qw1 qw2 qw3 qw4
    clear qx0 qx1 qx2 qx3 qx4
    clear qg0 qg1 qg2 qg3 qg4
    refine (eqrt_is fU bU agp cgp (PU) lU agm cgm (MU) fU bU awp cwp (PU) lU awm cwm (MU) (show decide (((fU, bU, PU, lU, MU) : Rt) = ((fU, bU, PU, lU, MU) : Rt)) = true from decide_eq_true rfl) _ ⟨⟨(OwnI.intA Ogp_12.out).2.2, (OwnI.intA Ogm_12.out).2.2⟩, (OwnI.intA Ogp_12.out).2.1, (OwnI.intA Ogm_12.out).2.1, by omega, by omega⟩ ⟨⟨(OwnI.intA Owp_12.out).2.2, (OwnI.intA Owm_12.out).2.2⟩, (OwnI.intA Owp_12.out).2.1, (OwnI.intA Owm_12.out).2.1, by omega, by omega⟩).mono ?_
    rintro en w13 ⟨rfl, b⟩
    have HB13 := Lib.hid (HB12.out.trans (b.mono HB12.out.size))
    have hs13 := Lib.hid b.size
    have Owp_13 := Lib.hid (owni_later Owp_12.out b)
    have Owm_13 := Lib.hid (owni_later Owm_12.out b)
    have Oxp_13 := Lib.hid (owni_later Oxp_12.out b)
    have Oxm_13 := Lib.hid (owni_later Oxm_12.out b)
    have Ogp_13 := Lib.hid (owni_later Ogp_12.out b)
    have Ogm_13 := Lib.hid (owni_later Ogm_12.out b)
    have XA1_13 := Lib.hid (At5.below XA1_12.out b)
    have Xw_13 := Lib.hid (At5.below Xw_12.out b)
    have Xx_13 := Lib.hid (At5.below Xx_12.out b)
    have Xg_13 := Lib.hid (At5.below Xg_12.out b)
    clear b
    obtain ⟨⟨qA10, qA11, qA12, qA13, qA14⟩, _⟩ := XA1_13.out
    obtain ⟨⟨qw0, qw1, qw2, qw3, qw4⟩, _⟩ := Xw_13.out
    obtain ⟨⟨qg0, qg1, qg2, qg3, qg4⟩, _⟩ := Xg_13.out
    go_wp2_with fail
    clear qA10 qA11 qA12 qA13 qA14
    clear qw0 qw1 qw2 qw3 qw4
    clear qg0 qg1 qg2 qg3 qg4
    refine (markrt_any fU bU lU _ _ _ _ (PU) (MU) _ _ _ Ogp_13.out Ogm_13.out Ag.out (by omega) (by omega)).mono ?_
    rintro en w14 ⟨rfl, o, o2, V0, V1, b0, g1, g2⟩
    have hs14 := Lib.hid (Nat.le_trans b0.size (Nat.le_trans g1.size g2.size))
    have HB14 := Lib.hid (((HB13.out.trans (b0.mono HB13.out.size)).grown g1 (Nat.le_trans HB13.out.size b0.size) (fun k e => (World.ownsRow.lt Ogp_13.out k e).1)).grown g2 (Nat.le_trans HB13.out.size (Nat.le_trans b0.size g1.size)) (fun k e => (World.ownsRow.lt Ogm_13.out k e).1))
    have Owp_14 := Lib.hid (World.ownsRow.kept (World.ownsRow.kept (owni_later Owp_13.out b0) g1 (pBtw.apart Bwp.out Bgp.out (by have := hs1.out; have := hs2.out; have := hs3.out; have := hs4.out; have := hs5.out; have := hs6.out; have := hs7.out; have := hs8.out; have := hs9.out; have := hs10.out; have := hs12.out; have := hs13.out; omega))) g2 (pBtw.apart Bwp.out Bgm.out (by have := hs1.out; have := hs2.out; have := hs3.out; have := hs4.out; have := hs5.out; have := hs6.out; have := hs7.out; have := hs8.out; have := hs9.out; have := hs10.out; have := hs12.out; have := hs13.out; omega)))
    have Owm_14 := Lib.hid (World.ownsRow.kept (World.ownsRow.kept (owni_later Owm_13.out b0) g1 (pBtw.apart Bwm.out Bgp.out (by have := hs1.out; have := hs2.out; have := hs3.out; have := hs4.out; have := hs5.out; have := hs6.out; have := hs7.out; have := hs8.out; have := hs9.out; have := hs10.out; have := hs12.out; have := hs13.out; omega))) g2 (pBtw.apart Bwm.out Bgm.out (by have := hs1.out; have := hs2.out; have := hs3.out; have := hs4.out; have := hs5.out; have := hs6.out; have := hs7.out; have := hs8.out; have := hs9.out; have := hs10.out; have := hs12.out; have := hs13.out; omega)))
    have Ogp_14 := Lib.hid o
    have Ogm_14 := Lib.hid o2
    have XA1_14 := Lib.hid (((At5.below XA1_13.out b0).only g1 (fun q => by have hq := Bgp.out _ q.symm; have := hs1.out; have := hs2.out; have := hs3.out; have := hs4.out; have := hs5.out; have := hs6.out; have := hs7.out; have := hs8.out; have := hs9.out; have := hs10.out; have := hs12.out; have := hs13.out; omega)).only g2 (fun q => by have hq := Bgm.out _ q.symm; have := hs1.out; have := hs2.out; have := hs3.out; have := hs4.out; have := hs5.out; have := hs6.out; have := hs7.out; have := hs8.out; have := hs9.out; have := hs10.out; have := hs12.out; have := hs13.out; omega))
    have Xw_14 := Lib.hid (((At5.below Xw_13.out b0).only g1 (fun q => by have hq := Bgp.out _ q.symm; have := hs1.out; have := hs2.out; have := hs3.out; have := hs4.out; have := hs5.out; have := hs6.out; have := hs7.out; have := hs8.out; have := hs9.out; have := hs10.out; have := hs12.out; have := hs13.out; omega)).only g2 (fun q => by have hq := Bgm.out _ q.symm; have := hs1.out; have := hs2.out; have := hs3.out; have := hs4.out; have := hs5.out; have := hs6.out; have := hs7.out; have := hs8.out; have := hs9.out; have := hs10.out; have := hs12.out; have := hs13.out; omega))
    have Xg_14 := Lib.hid (((At5.below Xg_13.out b0).only g1 (fun q => by have hq := Bgp.out _ q.symm; have := hs1.out; have := hs2.out; have := hs3.out; have := hs4.out; have := hs5.out; have := hs6.out; have := hs7.out; have := hs8.out; have := hs9.out; have := hs10.out; have := hs12.out; have := hs13.out; omega)).only g2 (fun q => by have hq := Bgm.out _ q.symm; have := hs1.out; have := hs2.out; have := hs3.out; have := hs4.out; have := hs5.out; have := hs6.out; have := hs7.out; have := hs8.out; have := hs9.out; have := hs10.out; have := hs12.out; have := hs13.out; omega))
    clear o o2 b0 g1 g2
    generalize hk2 : 1 + PU.length + MU.length = K2 at *
    have heK : ((K2 : Int) != (K2 : Int)) = false := by simp
    obtain ⟨⟨qA10, qA11, qA12, qA13, qA14⟩, _⟩ := XA1_14.out
    obtain ⟨⟨qw0, qw1, qw2, qw3, qw4⟩, _⟩ := Xw_14.out
    obtain ⟨⟨qg0, qg1, qg2, qg3, qg4⟩, _⟩ := Xg_14.out
    go_wp2_with fail
    clear qA10 qA11 qA12 qA13 qA14
    clear qw0 qw1 qw2 qw3 qw4
    clear qg0 qg1 qg2 qg3 qg4
    refine (heldrt_any fU bU lU _ _ _ _ PU.length MU.length _ (OwnI_mark Ogp_14.out) (OwnI_mark Ogm_14.out) (by omega) (by omega)).mono ?_
    rintro en w15 ⟨rfl, b⟩
    have HB15 := Lib.hid (HB14.out.trans (b.mono HB14.out.size))
    have hs15 := Lib.hid b.size
    have Owp_15 := Lib.hid (owni_later Owp_14.out b)
    have Owm_15 := Lib.hid (owni_later Owm_14.out b)
    have Ogp_15 := Lib.hid (owni_later Ogp_14.out b)
    have Ogm_15 := Lib.hid (owni_later Ogm_14.out b)
    have XA1_15 := Lib.hid (At5.below XA1_14.out b)
    have Xw_15 := Lib.hid (At5.below Xw_14.out b)
    have Xg_15 := Lib.hid (At5.below Xg_14.out b)
    clear b
    rw [hk2]
    obtain ⟨⟨qA10, qA11, qA12, qA13, qA14⟩, _⟩ := XA1_15.out
    obtain ⟨⟨qw0, qw1, qw2, qw3, qw4⟩, _⟩ := Xw_15.out
    obtain ⟨⟨qg0, qg1, qg2, qg3, qg4⟩, _⟩ := Xg_15.out
    go_wp2_with fail
    clear qA10 qA11 qA12 qA13 qA14
    clear qw0 qw1 qw2 qw3 qw4
    clear qg0 qg1 qg2 qg3 qg4
    refine (tort_is f1 b1 a1 c1 P1 l1 d1 e1 M1 _ ⟨⟨HM1.out.1.below HB15.out, HM1.out.2.below HB15.out⟩, hcP1, hcM1, by omega, by omega⟩ (by omega) (by omega)).mono ?_
    rintro en w16 ⟨pv, mv, rfl, S, o, bP, o2, hS, b⟩
    have HB16 := Lib.hid (HB15.out.trans (b.mono HB15.out.size))
    have hs16 := Lib.hid b.size
    have Owp_16 := Lib.hid (owni_later Owp_15.out b)
    have Owm_16 := Lib.hid (owni_later Owm_15.out b)
    have Ogp_16 := Lib.hid (owni_later Ogp_15.out b)
    have Ogm_16 := Lib.hid (owni_later Ogm_15.out b)
    have XA1_16 := Lib.hid (At5.below XA1_15.out b)
    have Xw_16 := Lib.hid (At5.below Xw_15.out b)
    have Xg_16 := Lib.hid (At5.below Xg_15.out b)
    replace o : OwnI w16 w15.heap.size pv P1 := o
    replace o2 : OwnI w16 S mv M1 := o2
    obtain ⟨azp, czp, rfl, _, _⟩ := OwnI.tab o
    obtain ⟨azm, czm, rfl, _, _⟩ := OwnI.tab o2
    have Az := Lib.hid (apart2 bP o2)
    have Bzp := Lib.hid (OwnI.btw o)
    have Bzm := Lib.hid ((OwnI.btw o2).mono hS (Nat.le_refl _))
    have Ozp_16 := Lib.hid (owni_mono o HB15.out.size)
    have Ozm_16 := Lib.hid (owni_mono o2 (Nat.le_trans HB15.out.size hS))
    clear o o2 bP hS b
    obtain ⟨⟨qA10, qA11, qA12, qA13, qA14⟩, _⟩ := XA1_16.out
    obtain ⟨⟨qw0, qw1, qw2, qw3, qw4⟩, _⟩ := Xw_16.out
    obtain ⟨⟨qg0, qg1, qg2, qg3, qg4⟩, _⟩ := Xg_16.out
    go_wp2_with fail
    clear qA10 qA11 qA12 qA13 qA14
    clear qw0 qw1 qw2 qw3 qw4
    clear qg0 qg1 qg2 qg3 qg4
    refine (irtmark_is f1 b1 azp czp (P1) l1 azm czm (M1) HU.out _ p ⟨⟨(OwnI.intA Ozp_16.out).2.2, (OwnI.intA Ozm_16.out).2.2⟩, (OwnI.intA Ozp_16.out).2.1, (OwnI.intA Ozm_16.out).2.1, by omega, by omega⟩ (HE.out.below HB16.out)).mono ?_
    rintro en w17 ⟨pv, mv, rfl, S, o, bP, o2, hS, b⟩
    have HB17 := Lib.hid (HB16.out.trans (b.mono HB16.out.size))
    have hs17 := Lib.hid b.size
    have Owp_17 := Lib.hid (owni_later Owp_16.out b)
    have Owm_17 := Lib.hid (owni_later Owm_16.out b)
    have Ogp_17 := Lib.hid (owni_later Ogp_16.out b)
    have Ogm_17 := Lib.hid (owni_later Ogm_16.out b)
    have Ozp_17 := Lib.hid (owni_later Ozp_16.out b)
    have Ozm_17 := Lib.hid (owni_later Ozm_16.out b)
    have XA1_17 := Lib.hid (At5.below XA1_16.out b)
    have Xw_17 := Lib.hid (At5.below Xw_16.out b)
    have Xg_17 := Lib.hid (At5.below Xg_16.out b)
    replace o : OwnI w17 w16.heap.size pv PU := o
    replace o2 : OwnI w17 S mv MU := o2
    obtain ⟨ahp, chp, rfl, _, _⟩ := OwnI.tab o
    obtain ⟨ahm, chm, rfl, _, _⟩ := OwnI.tab o2
    have Ah := Lib.hid (apart2 bP o2)
    have Bhp := Lib.hid (OwnI.btw o)
    have Bhm := Lib.hid ((OwnI.btw o2).mono hS (Nat.le_refl _))
    have Ohp_17 := Lib.hid (owni_mono o HB16.out.size)
    have Ohm_17 := Lib.hid (owni_mono o2 (Nat.le_trans HB16.out.size hS))
    clear o o2 bP hS b
    have HB18 := Lib.hid (HB17.out.alloc HB17.out.size (.cells #[.int .i64 fU, .int .i64 bU, .slice ahp (PU).length chp, .int .i64 lU, .slice ahm (MU).length chm] 27))
    have hs18 := Lib.hid (show w17.heap.size + 1 = (w17.alloc (.cells #[.int .i64 fU, .int .i64 bU, .slice ahp (PU).length chp, .int .i64 lU, .slice ahm (MU).length chm] 27)).heap.size by simp)
    have Owp_18 := Lib.hid (World.ownsRow.alloc Owp_17.out (.cells #[.int .i64 fU, .int .i64 bU, .slice ahp (PU).length chp, .int .i64 lU, .slice ahm (MU).length chm] 27))
    have Owm_18 := Lib.hid (World.ownsRow.alloc Owm_17.out (.cells #[.int .i64 fU, .int .i64 bU, .slice ahp (PU).length chp, .int .i64 lU, .slice ahm (MU).length chm] 27))
    have Ogp_18 := Lib.hid (World.ownsRow.alloc Ogp_17.out (.cells #[.int .i64 fU, .int .i64 bU, .slice ahp (PU).length chp, .int .i64 lU, .slice ahm (MU).length chm] 27))
    have Ogm_18 := Lib.hid (World.ownsRow.alloc Ogm_17.out (.cells #[.int .i64 fU, .int .i64 bU, .slice ahp (PU).length chp, .int .i64 lU, .slice ahm (MU).length chm] 27))
    have Ohp_18 := Lib.hid (World.ownsRow.alloc Ohp_17.out (.cells #[.int .i64 fU, .int .i64 bU, .slice ahp (PU).length chp, .int .i64 lU, .slice ahm (MU).length chm] 27))
    have Ohm_18 := Lib.hid (World.ownsRow.alloc Ohm_17.out (.cells #[.int .i64 fU, .int .i64 bU, .slice ahp (PU).length chp, .int .i64 lU, .slice ahm (MU).length chm] 27))
    have XA1_18 := Lib.hid (At5.alloc XA1_17.out (.cells #[.int .i64 fU, .int .i64 bU, .slice ahp (PU).length chp, .int .i64 lU, .slice ahm (MU).length chm] 27))
    have Xw_18 := Lib.hid (At5.alloc Xw_17.out (.cells #[.int .i64 fU, .int .i64 bU, .slice ahp (PU).length chp, .int .i64 lU, .slice ahm (MU).length chm] 27))
    have Xg_18 := Lib.hid (At5.alloc Xg_17.out (.cells #[.int .i64 fU, .int .i64 bU, .slice ahp (PU).length chp, .int .i64 lU, .slice ahm (MU).length chm] 27))
    have Xh_18 := Lib.hid (At5.new w17 (.int .i64 fU) (.int .i64 bU) (.slice ahp (PU).length chp) (.int .i64 lU) (.slice ahm (MU).length chm) 27)
    obtain ⟨⟨qA10, qA11, qA12, qA13, qA14⟩, _⟩ := XA1_18.out
    obtain ⟨⟨qw0, qw1, qw2, qw3, qw4⟩, _⟩ := Xw_18.out
    obtain ⟨⟨qg0, qg1, qg2, qg3, qg4⟩, _⟩ := Xg_18.out
    go_wp2_with fail
    clear qA10 qA11 qA12 qA13 qA14
    clear qw0 qw1 qw2 qw3 qw4
    clear qg0 qg1 qg2 qg3 qg4
    generalize w17.alloc (.cells #[.int .i64 fU, .int .i64 bU, .slice ahp (PU).length chp, .int .i64 lU, .slice ahm (MU).length chm] 27) = w18 at *
    refine (eqrt_is fU bU ahp chp (PU) lU ahm chm (MU) fU bU awp cwp (PU) lU awm cwm (MU) (show decide (((fU, bU, PU, lU, MU) : Rt) = ((fU, bU, PU, lU, MU) : Rt)) = true from decide_eq_true rfl) _ ⟨⟨(OwnI.intA Ohp_18.out).2.2, (OwnI.intA Ohm_18.out).2.2⟩, (OwnI.intA Ohp_18.out).2.1, (OwnI.intA Ohm_18.out).2.1, by omega, by omega⟩ ⟨⟨(OwnI.intA Owp_18.out).2.2, (OwnI.intA Owm_18.out).2.2⟩, (OwnI.intA Owp_18.out).2.1, (OwnI.intA Owm_18.out).2.1, by omega, by omega⟩).mono ?_
    rintro en w19 ⟨rfl, b⟩
    have HB19 := Lib.hid (HB18.out.trans (b.mono HB18.out.size))
    have hs19 := Lib.hid b.size
    have Owp_19 := Lib.hid (owni_later Owp_18.out b)
    have Owm_19 := Lib.hid (owni_later Owm_18.out b)
    have Ogp_19 := Lib.hid (owni_later Ogp_18.out b)
    have Ogm_19 := Lib.hid (owni_later Ogm_18.out b)
    have Ohp_19 := Lib.hid (owni_later Ohp_18.out b)
    have Ohm_19 := Lib.hid (owni_later Ohm_18.out b)
    have XA1_19 := Lib.hid (At5.below XA1_18.out b)
    have Xw_19 := Lib.hid (At5.below Xw_18.out b)
    have Xg_19 := Lib.hid (At5.below Xg_18.out b)
    have Xh_19 := Lib.hid (At5.below Xh_18.out b)
    clear b
    have heK : ((K2 : Int) != (K2 : Int)) = false := by simp
    obtain ⟨⟨qA10, qA11, qA12, qA13, qA14⟩, _⟩ := XA1_19.out
    obtain ⟨⟨qg0, qg1, qg2, qg3, qg4⟩, _⟩ := Xg_19.out
    go_wp2_with fail
    clear qA10 qA11 qA12 qA13 qA14
    clear qg0 qg1 qg2 qg3 qg4
    refine (heldrt_any fU bU lU _ _ _ _ PU.length MU.length _ (OwnI_mark Ogp_19.out) (OwnI_mark Ogm_19.out) (by omega) (by omega)).mono ?_
    rintro en w20 ⟨rfl, b⟩
    have HB20 := Lib.hid (HB19.out.trans (b.mono HB19.out.size))
    have hs20 := Lib.hid b.size
    have Ogp_20 := Lib.hid (owni_later Ogp_19.out b)
    have Ogm_20 := Lib.hid (owni_later Ogm_19.out b)
    have XA1_20 := Lib.hid (At5.below XA1_19.out b)
    have Xg_20 := Lib.hid (At5.below Xg_19.out b)
    clear b
    rw [hk2]
    obtain ⟨⟨qA10, qA11, qA12, qA13, qA14⟩, _⟩ := XA1_20.out
    obtain ⟨⟨qg0, qg1, qg2, qg3, qg4⟩, _⟩ := Xg_20.out
    go_wp2_with fail
    clear qA10 qA11 qA12 qA13 qA14
    clear qg0 qg1 qg2 qg3 qg4
    go_ret
    exact ⟨rfl, HB20.out⟩
  · have hz : szR 1048576 P1.length M1.length = -1 := szR_neg (by omega)
    refine (szrt_is f1 b1 l1 a1 d1 _ c1 _ e1 hz (by omega) (by omega) hnl1 hml1 _).mono ?_
    rintro en w2 ⟨rfl, b⟩
    have HB2 := Lib.hid (HB1.out.trans (b.mono HB1.out.size))
    have hs2 := Lib.hid b.size
    have XA1_2 := Lib.hid (At5.below XA1_1.out b)
    clear b
    obtain ⟨⟨qA10, qA11, qA12, qA13, qA14⟩, _⟩ := XA1_2.out
    go_wp2_with fail
    clear qA10 qA11 qA12 qA13 qA14
    go_ret
    exact ⟨rfl, HB2.out⟩

end Go.Proofs.YtfjfcdifnfffbaaDoor
