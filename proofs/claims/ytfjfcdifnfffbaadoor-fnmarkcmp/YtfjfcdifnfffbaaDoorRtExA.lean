/-
  The exact laws of RouteOk and RouteCmp: the walks.
-/
import Derived.Test.YtfjfcdifnfffbaaDoorRtTo
import Derived.Test.YtfjfcdifnfffbaaDoorRtIk
namespace Go.Proofs.YtfjfcdifnfffbaaDoor
open Go.RowKit
set_option linter.unusedSimpArgs false
set_option linter.unusedVariables false

theorem rtMark_len (r : Rt) (m : Int) : (rtMark r m).1.2.2.1.length ≤ 5 ∧ (rtMark r m).1.2.2.2.2.length ≤ 10 := by
  unfold rtMark
  split
  · rename_i h
    have hG := (rtOk_iff r).1 (by simp at h; exact h.1)
    exact ⟨hG.path.len, by have := hG.marks.len; have := mins_len r.2.2.2.2 m; dsimp only; omega⟩
  · simp [zRt]
theorem rtClear_len (r : Rt) (m : Int) : (rtClear r m).1.2.2.1.length ≤ 5 ∧ (rtClear r m).1.2.2.2.2.length ≤ 10 := by
  unfold rtClear
  split
  · rename_i h
    have hG := (rtOk_iff r).1 (by simp at h; exact h.1)
    exact ⟨hG.path.len, by have := hG.marks.len; have := mdel_len r.2.2.2.2 m; dsimp only; omega⟩
  · simp [zRt]
theorem OwnI_mark {w : World} {R s n : Nat} {a : Option Addr} {c : Nat} (h : OwnI w R (.slice a n c) (pmarkG s n)) : IntA w a (pmarkG s n) := (OwnI.intA h).2.2

set_option maxRecDepth 100000 in
set_option maxHeartbeats 4000000 in
theorem exactRouteOk_walk (f1 b1 : Int) (a1 : Option Addr) (n1 c1 : Nat) (P1 : List Int) (l1 : Int) (d1 : Option Addr) (m1 e1 : Nat) (M1 : List Int) (w : World) (hP1 : IntA w a1 P1) (hM1 : IntA w d1 M1) (hn1 : n1 = P1.length) (hm1 : m1 = M1.length) (hcP1 : n1 ≤ c1) (hcM1 : m1 ≤ e1) (hnl1 : n1 ≤ 9223372036854775807) (hml1 : m1 ≤ 9223372036854775807) (p : Addr) (hE : EV w p) (_ : True) :
    Calls Tryd.prog 14 #[.agg #[.int .i64 f1, .int .i64 b1, .slice a1 n1 c1, .int .i64 l1, .slice d1 m1 e1]] w fun e w' => e = .returned (.bool true) ∧ Below w.heap.size w w' := by
  subst hn1 hm1
  have HM1 := Lib.hid (And.intro hP1 hM1)
  clear hP1 hM1
  have HE := Lib.hid hE
  clear hE
  have HB0 := Lib.hid (Below.refl w.heap.size w)
  go_enter Tryd.func14, Tryd.ntmps14
  have HB1 := Lib.hid (HB0.out.alloc HB0.out.size (.cells #[.int .i64 f1, .int .i64 b1, .slice a1 P1.length c1, .int .i64 l1, .slice d1 M1.length e1] 49))
  have hs1 := Lib.hid (show w.heap.size + 1 = (w.alloc (.cells #[.int .i64 f1, .int .i64 b1, .slice a1 P1.length c1, .int .i64 l1, .slice d1 M1.length e1] 49)).heap.size by simp)
  have XA1_1 := Lib.hid (At5.new w (.int .i64 f1) (.int .i64 b1) (.slice a1 P1.length c1) (.int .i64 l1) (.slice d1 M1.length e1) 49)
  go_wp2_with fail
  generalize w.alloc (.cells #[.int .i64 f1, .int .i64 b1, .slice a1 P1.length c1, .int .i64 l1, .slice d1 M1.length e1] 49) = w1 at *
  by_cases hl : P1.length + M1.length ≤ 1048576
  · have hz : szR 1048576 P1.length M1.length = 1048576 - (P1.length : Int) - (M1.length : Int) := szR_pos (by omega)
    have hz0 : ¬ (1048576 : Int) - (P1.length : Int) - (M1.length : Int) < 0 := by omega
    refine (szrt_is f1 b1 l1 a1 d1 _ c1 _ e1 hz (by omega) (by omega) hnl1 hml1 _).mono ?_
    rintro en w2 ⟨rfl, b⟩
    have HB2 := Lib.hid (HB1.out.trans (b.mono HB1.out.size))
    have hs2 := Lib.hid b.size
    have XA1_2 := Lib.hid (At5.below XA1_1.out b)
    clear b
    generalize hU : rtOk (f1, b1, P1, l1, M1) = u
    have HU := Lib.hid hU
    have huu : (u != u) = false := by simp
    clear hU
    obtain ⟨⟨qA10, qA11, qA12, qA13, qA14⟩, _⟩ := XA1_2.out
    go_wp2_with fail
    clear qA10 qA11 qA12 qA13 qA14
    refine (tort_is f1 b1 a1 c1 P1 l1 d1 e1 M1 _ ⟨⟨HM1.out.1.below HB2.out, HM1.out.2.below HB2.out⟩, hcP1, hcM1, by omega, by omega⟩ (by omega) (by omega)).mono ?_
    rintro en w3 ⟨pv, mv, rfl, S, o, bP, o2, hS, b⟩
    have HB3 := Lib.hid (HB2.out.trans (b.mono HB2.out.size))
    have hs3 := Lib.hid b.size
    have XA1_3 := Lib.hid (At5.below XA1_2.out b)
    replace o : OwnI w3 w2.heap.size pv P1 := o
    replace o2 : OwnI w3 S mv M1 := o2
    obtain ⟨aqp, cqp, rfl, _, _⟩ := OwnI.tab o
    obtain ⟨aqm, cqm, rfl, _, _⟩ := OwnI.tab o2
    have Aq := Lib.hid (apart2 bP o2)
    have Bqp := Lib.hid (OwnI.btw o)
    have Bqm := Lib.hid ((OwnI.btw o2).mono hS (Nat.le_refl _))
    have Oqp_3 := Lib.hid (owni_mono o HB2.out.size)
    have Oqm_3 := Lib.hid (owni_mono o2 (Nat.le_trans HB2.out.size hS))
    clear o o2 bP hS b
    obtain ⟨⟨qA10, qA11, qA12, qA13, qA14⟩, _⟩ := XA1_3.out
    go_wp2_with fail
    clear qA10 qA11 qA12 qA13 qA14
    refine (srok_is f1 b1 aqp cqp (P1) l1 aqm cqm (M1) HU.out _ ⟨⟨(OwnI.intA Oqp_3.out).2.2, (OwnI.intA Oqm_3.out).2.2⟩, (OwnI.intA Oqp_3.out).2.1, (OwnI.intA Oqm_3.out).2.1, by omega, by omega⟩).mono ?_
    rintro en w4 ⟨rfl, b⟩
    have HB4 := Lib.hid (HB3.out.trans (b.mono HB3.out.size))
    have hs4 := Lib.hid b.size
    have Oqp_4 := Lib.hid (owni_later Oqp_3.out b)
    have Oqm_4 := Lib.hid (owni_later Oqm_3.out b)
    have XA1_4 := Lib.hid (At5.below XA1_3.out b)
    clear b
    obtain ⟨⟨qA10, qA11, qA12, qA13, qA14⟩, _⟩ := XA1_4.out
    go_wp2_with fail
    clear qA10 qA11 qA12 qA13 qA14
    refine (tort_is f1 b1 a1 c1 P1 l1 d1 e1 M1 _ ⟨⟨HM1.out.1.below HB4.out, HM1.out.2.below HB4.out⟩, hcP1, hcM1, by omega, by omega⟩ (by omega) (by omega)).mono ?_
    rintro en w5 ⟨pv, mv, rfl, S, o, bP, o2, hS, b⟩
    have HB5 := Lib.hid (HB4.out.trans (b.mono HB4.out.size))
    have hs5 := Lib.hid b.size
    have XA1_5 := Lib.hid (At5.below XA1_4.out b)
    replace o : OwnI w5 w4.heap.size pv P1 := o
    replace o2 : OwnI w5 S mv M1 := o2
    obtain ⟨axp, cxp, rfl, _, _⟩ := OwnI.tab o
    obtain ⟨axm, cxm, rfl, _, _⟩ := OwnI.tab o2
    have Ax := Lib.hid (apart2 bP o2)
    have Bxp := Lib.hid (OwnI.btw o)
    have Bxm := Lib.hid ((OwnI.btw o2).mono hS (Nat.le_refl _))
    have Oxp_5 := Lib.hid (owni_mono o HB4.out.size)
    have Oxm_5 := Lib.hid (owni_mono o2 (Nat.le_trans HB4.out.size hS))
    clear o o2 bP hS b
    have HB6 := Lib.hid (HB5.out.alloc HB5.out.size (.cells #[.int .i64 f1, .int .i64 b1, .slice axp (P1).length cxp, .int .i64 l1, .slice axm (M1).length cxm] 27))
    have hs6 := Lib.hid (show w5.heap.size + 1 = (w5.alloc (.cells #[.int .i64 f1, .int .i64 b1, .slice axp (P1).length cxp, .int .i64 l1, .slice axm (M1).length cxm] 27)).heap.size by simp)
    have Oxp_6 := Lib.hid (World.ownsRow.alloc Oxp_5.out (.cells #[.int .i64 f1, .int .i64 b1, .slice axp (P1).length cxp, .int .i64 l1, .slice axm (M1).length cxm] 27))
    have Oxm_6 := Lib.hid (World.ownsRow.alloc Oxm_5.out (.cells #[.int .i64 f1, .int .i64 b1, .slice axp (P1).length cxp, .int .i64 l1, .slice axm (M1).length cxm] 27))
    have XA1_6 := Lib.hid (At5.alloc XA1_5.out (.cells #[.int .i64 f1, .int .i64 b1, .slice axp (P1).length cxp, .int .i64 l1, .slice axm (M1).length cxm] 27))
    have Xx_6 := Lib.hid (At5.new w5 (.int .i64 f1) (.int .i64 b1) (.slice axp (P1).length cxp) (.int .i64 l1) (.slice axm (M1).length cxm) 27)
    obtain ⟨⟨qA10, qA11, qA12, qA13, qA14⟩, _⟩ := XA1_6.out
    go_wp2_with fail
    clear qA10 qA11 qA12 qA13 qA14
    generalize w5.alloc (.cells #[.int .i64 f1, .int .i64 b1, .slice axp (P1).length cxp, .int .i64 l1, .slice axm (M1).length cxm] 27) = w6 at *
    refine (irok_is f1 b1 axp cxp (P1) l1 axm cxm (M1) HU.out _ p ⟨⟨(OwnI.intA Oxp_6.out).2.2, (OwnI.intA Oxm_6.out).2.2⟩, (OwnI.intA Oxp_6.out).2.1, (OwnI.intA Oxm_6.out).2.1, by omega, by omega⟩ (HE.out.below HB6.out)).mono ?_
    rintro en w7 ⟨rfl, b⟩
    have HB7 := Lib.hid (HB6.out.trans (b.mono HB6.out.size))
    have hs7 := Lib.hid b.size
    have Oxp_7 := Lib.hid (owni_later Oxp_6.out b)
    have Oxm_7 := Lib.hid (owni_later Oxm_6.out b)
    have XA1_7 := Lib.hid (At5.below XA1_6.out b)
    have Xx_7 := Lib.hid (At5.below Xx_6.out b)
    clear b
    obtain ⟨⟨qA10, qA11, qA12, qA13, qA14⟩, _⟩ := XA1_7.out
    obtain ⟨⟨qx0, qx1, qx2, qx3, qx4⟩, _⟩ := Xx_7.out
    go_wp2_with fail
    clear qA10 qA11 qA12 qA13 qA14
    clear qx0 qx1 qx2 qx3 qx4
    refine wp_region_held_drew (S := fun W => ((W.cell? ⟨w5.heap.size, 0, none⟩ = some (.int .i64 f1) ∧ W.cell? ⟨w5.heap.size, 1, none⟩ = some (.int .i64 b1) ∧ W.cell? ⟨w5.heap.size, 2, none⟩ = some (.slice axp (P1).length cxp) ∧ W.cell? ⟨w5.heap.size, 3, none⟩ = some (.int .i64 l1) ∧ W.cell? ⟨w5.heap.size, 4, none⟩ = some (.slice axm (M1).length cxm)) ∧ (W.cell? ⟨w.heap.size, 0, none⟩ = some (.int .i64 f1) ∧ W.cell? ⟨w.heap.size, 1, none⟩ = some (.int .i64 b1) ∧ W.cell? ⟨w.heap.size, 2, none⟩ = some (.slice a1 P1.length c1) ∧ W.cell? ⟨w.heap.size, 3, none⟩ = some (.int .i64 l1) ∧ W.cell? ⟨w.heap.size, 4, none⟩ = some (.slice d1 M1.length e1))) ∧ Hid (Below w.heap.size w W ∧ OwnI W w.heap.size (.slice axp (P1).length cxp) (P1) ∧ OwnI W w.heap.size (.slice axm (M1).length cxm) (M1) ∧ At5 W (w.heap.size) (.int .i64 f1) (.int .i64 b1) (.slice a1 P1.length c1) (.int .i64 l1) (.slice d1 M1.length e1) ∧ At5 W (w5.heap.size) (.int .i64 f1) (.int .i64 b1) (.slice axp (P1).length cxp) (.int .i64 l1) (.slice axm (M1).length cxm))) (by kernel_rfl) ?_ (fun hHeld => ?_)
    · exact ⟨⟨Xx_7.out.1, XA1_7.out.1⟩, Lib.hid ⟨HB7.out.drew, Oxp_7.out.drew, Oxm_7.out.drew, XA1_7.out.drew, Xx_7.out.drew⟩⟩
    refine takeH (i := 0) (v := ?_) rfl rfl (by kernel_rfl) (by kernel_rfl) (by kernel_rfl) (fun _ _ _ h => h) (by rfl) ?_ (by assumption) ?_
    rotate_left 1
    · intro w hSw
      (try dsimp only at hSw)
      go_simp
      try with_reducible rfl
    try simp only [List.setIfInBounds_toArray, List.set_cons_zero, List.set_cons_succ]
    refine takeH (i := 1) (v := ?_) rfl rfl (by kernel_rfl) (by kernel_rfl) (by kernel_rfl) (fun _ _ _ h => h) (by rfl) ?_ (by assumption) ?_
    rotate_left 1
    · intro w hSw
      (try dsimp only at hSw)
      go_simp
      try with_reducible rfl
    try simp only [List.setIfInBounds_toArray, List.set_cons_zero, List.set_cons_succ]
    refine wpAnyH_ready (rs := [2]) (by kernel_rfl) (by simp) ?_
    refine AllReadyH.cons rfl (fun K hK => ?_) (AllReadyH.nil)
    go_simp
    refine (tort_is f1 b1 a1 c1 P1 l1 d1 e1 M1 _ ⟨⟨HM1.out.1.below hHeld.2.out.1, HM1.out.2.below hHeld.2.out.1⟩, hcP1, hcM1, by omega, by omega⟩ (by omega) (by omega)).mono ?_
    rintro en wy ⟨pv, mv, rfl, S, o, bP, o2, hS, b⟩
    replace o : OwnI wy _ pv P1 := o
    replace o2 : OwnI wy S mv M1 := o2
    obtain ⟨ayp, cyp, rfl, _, _⟩ := OwnI.tab o
    obtain ⟨aym, cym, rfl, _, _⟩ := OwnI.tab o2
    have OYy := Lib.hid (And.intro o o2)
    clear o o2 bP hS
    go_wp2_with fail
    refine hK.out _ _ ?_ (fun hNew => ?_)
    · exact ⟨⟨⟨cell_later b hHeld.1.1.1, cell_later b hHeld.1.1.2.1, cell_later b hHeld.1.1.2.2.1, cell_later b hHeld.1.1.2.2.2.1, cell_later b hHeld.1.1.2.2.2.2⟩, ⟨cell_later b hHeld.1.2.1, cell_later b hHeld.1.2.2.1, cell_later b hHeld.1.2.2.2.1, cell_later b hHeld.1.2.2.2.2.1, cell_later b hHeld.1.2.2.2.2.2⟩⟩, Lib.hid ⟨next hHeld.2.out.1 b, owni_later hHeld.2.out.2.1 b, owni_later hHeld.2.out.2.2.1 b, hHeld.2.out.2.2.2.1.below b, hHeld.2.out.2.2.2.2.below b⟩⟩
    clear hK K hHeld
    have hHeld := hNew
    clear hNew
    try simp only [Act.put, List.setIfInBounds_toArray, List.set_cons_zero, List.set_cons_succ]
    refine wpAnyH_ready (rs := [3]) (by kernel_rfl) (by simp) ?_
    refine AllReadyH.cons rfl (fun K hK => ?_) (AllReadyH.nil)
    go_simp
    refine (eqrt_is f1 b1 axp cxp (P1) l1 axm cxm (M1) f1 b1 ayp cyp (P1) l1 aym cym (M1) (show decide (((f1, b1, P1, l1, M1) : Rt) = ((f1, b1, P1, l1, M1) : Rt)) = true from decide_eq_true rfl) _ ⟨⟨(OwnI.intA hHeld.2.out.2.1).2.2, (OwnI.intA hHeld.2.out.2.2.1).2.2⟩, (OwnI.intA hHeld.2.out.2.1).2.1, (OwnI.intA hHeld.2.out.2.2.1).2.1, by omega, by omega⟩ ⟨⟨(OwnI.intA OYy.out.1).2.2, (OwnI.intA OYy.out.2).2.2⟩, (OwnI.intA OYy.out.1).2.1, (OwnI.intA OYy.out.2).2.1, by omega, by omega⟩).mono ?_
    rintro en wz ⟨rfl, b⟩
    go_wp2_with fail
    refine hK.out _ _ ?_ (fun hNew => ?_)
    · exact ⟨⟨⟨cell_later b hHeld.1.1.1, cell_later b hHeld.1.1.2.1, cell_later b hHeld.1.1.2.2.1, cell_later b hHeld.1.1.2.2.2.1, cell_later b hHeld.1.1.2.2.2.2⟩, ⟨cell_later b hHeld.1.2.1, cell_later b hHeld.1.2.2.1, cell_later b hHeld.1.2.2.2.1, cell_later b hHeld.1.2.2.2.2.1, cell_later b hHeld.1.2.2.2.2.2⟩⟩, Lib.hid ⟨next hHeld.2.out.1 b, owni_later hHeld.2.out.2.1 b, owni_later hHeld.2.out.2.2.1 b, hHeld.2.out.2.2.2.1.below b, hHeld.2.out.2.2.2.2.below b⟩⟩
    clear hK K hHeld
    have hHeld := hNew
    clear hNew
    try simp only [Act.put, List.setIfInBounds_toArray, List.set_cons_zero, List.set_cons_succ]
    refine takeH (i := 4) (v := ?_) rfl rfl (by kernel_rfl) (by kernel_rfl) (by kernel_rfl) (fun _ _ _ h => h) (by rfl) ?_ (by assumption) ?_
    rotate_left 1
    · intro w hSw
      (try dsimp only at hSw)
      go_simp
      try with_reducible rfl
    try simp only [List.setIfInBounds_toArray, List.set_cons_zero, List.set_cons_succ]
    refine wpAnyH_done (by kernel_rfl) ?_ _
    have HZ := Lib.hid hHeld.2.out
    have HB8 := Lib.hid HZ.out.1
    have Oxp_8 := Lib.hid HZ.out.2.1
    have Oxm_8 := Lib.hid HZ.out.2.2.1
    have XA1_8 := Lib.hid HZ.out.2.2.2.1
    have Xx_8 := Lib.hid HZ.out.2.2.2.2
    clear hHeld HZ
    generalize wz = w8 at *
    obtain ⟨⟨qA10, qA11, qA12, qA13, qA14⟩, _⟩ := XA1_8.out
    obtain ⟨⟨qx0, qx1, qx2, qx3, qx4⟩, _⟩ := Xx_8.out
    go_wp2_with fail
    clear qA10 qA11 qA12 qA13 qA14
    clear qx0 qx1 qx2 qx3 qx4
    go_ret
    exact ⟨rfl, HB8.out⟩
  · have hz : szR 1048576 P1.length M1.length = -1 := szR_neg (by omega)
    refine (szrt_is f1 b1 l1 a1 d1 _ c1 _ e1 hz (by omega) (by omega) hnl1 hml1 _).mono ?_
    rintro en w2 ⟨rfl, b⟩
    have HB2 := Lib.hid (HB1.out.trans (b.mono HB1.out.size))
    have hs2 := Lib.hid b.size
    have XA1_2 := Lib.hid (At5.below XA1_1.out b)
    clear b
    obtain ⟨⟨qA10, qA11, qA12, qA13, qA14⟩, _⟩ := XA1_2.out
    go_wp2_with fail
    clear qA10 qA11 qA12 qA13 qA14
    go_ret
    exact ⟨rfl, HB2.out⟩

set_option maxRecDepth 100000 in
set_option maxHeartbeats 4000000 in
theorem exactRouteCmp_walk (f1 b1 : Int) (a1 : Option Addr) (n1 c1 : Nat) (P1 : List Int) (l1 : Int) (d1 : Option Addr) (m1 e1 : Nat) (M1 : List Int) (f2 b2 : Int) (a2 : Option Addr) (n2 c2 : Nat) (P2 : List Int) (l2 : Int) (d2 : Option Addr) (m2 e2 : Nat) (M2 : List Int) (w : World) (hP1 : IntA w a1 P1) (hM1 : IntA w d1 M1) (hn1 : n1 = P1.length) (hm1 : m1 = M1.length) (hcP1 : n1 ≤ c1) (hcM1 : m1 ≤ e1) (hnl1 : n1 ≤ 9223372036854775807) (hml1 : m1 ≤ 9223372036854775807) (hP2 : IntA w a2 P2) (hM2 : IntA w d2 M2) (hn2 : n2 = P2.length) (hm2 : m2 = M2.length) (hcP2 : n2 ≤ c2) (hcM2 : m2 ≤ e2) (hnl2 : n2 ≤ 9223372036854775807) (hml2 : m2 ≤ 9223372036854775807) (p : Addr) (hE : EV w p) (_ : True) :
    Calls Tryd.prog 17 #[.agg #[.int .i64 f1, .int .i64 b1, .slice a1 n1 c1, .int .i64 l1, .slice d1 m1 e1], .agg #[.int .i64 f2, .int .i64 b2, .slice a2 n2 c2, .int .i64 l2, .slice d2 m2 e2]] w fun e w' => e = .returned (.bool true) ∧ Below w.heap.size w w' := by
  subst hn1 hm1
  have HM1 := Lib.hid (And.intro hP1 hM1)
  clear hP1 hM1
  subst hn2 hm2
  have HM2 := Lib.hid (And.intro hP2 hM2)
  clear hP2 hM2
  have HE := Lib.hid hE
  clear hE
  have HB0 := Lib.hid (Below.refl w.heap.size w)
  go_enter Tryd.func17, Tryd.ntmps17
  obtain ⟨t1, t2, t3⟩ := At5.two w (.int .i64 f1) (.int .i64 b1) (.slice a1 P1.length c1) (.int .i64 l1) (.slice d1 M1.length e1) (.int .i64 f2) (.int .i64 b2) (.slice a2 P2.length c2) (.int .i64 l2) (.slice d2 M2.length e2) 49 49
  have HB1 := Lib.hid t3
  have XA1_1 := Lib.hid t1
  have XA2_1 := Lib.hid t2
  have hs1 := Lib.hid (show w.heap.size + 2 = ((w.alloc (.cells #[.int .i64 f1, .int .i64 b1, .slice a1 P1.length c1, .int .i64 l1, .slice d1 M1.length e1] 49)).alloc (.cells #[.int .i64 f2, .int .i64 b2, .slice a2 P2.length c2, .int .i64 l2, .slice d2 M2.length e2] 49)).heap.size by simp)
  clear t1 t2 t3
  go_wp2_with fail
  generalize ((w.alloc (.cells #[.int .i64 f1, .int .i64 b1, .slice a1 P1.length c1, .int .i64 l1, .slice d1 M1.length e1] 49)).alloc (.cells #[.int .i64 f2, .int .i64 b2, .slice a2 P2.length c2, .int .i64 l2, .slice d2 M2.length e2] 49)) = w1 at *
  by_cases hl : P1.length + M1.length ≤ 1048576
  · have hz : szR 1048576 P1.length M1.length = 1048576 - (P1.length : Int) - (M1.length : Int) := szR_pos (by omega)
    have hz0 : ¬ (1048576 : Int) - (P1.length : Int) - (M1.length : Int) < 0 := by omega
    generalize hZ1 : (1048576 : Int) - (P1.length : Int) - (M1.length : Int) = Z1 at *
    refine (szrt_is f1 b1 l1 a1 d1 _ c1 _ e1 hz (by omega) (by omega) hnl1 hml1 _).mono ?_
    rintro en w2 ⟨rfl, b⟩
    have HB2 := Lib.hid (HB1.out.trans (b.mono HB1.out.size))
    have hs2 := Lib.hid b.size
    have XA1_2 := Lib.hid (At5.below XA1_1.out b)
    have XA2_2 := Lib.hid (At5.below XA2_1.out b)
    clear b
    by_cases hk : (P2.length : Int) + M2.length ≤ Z1
    · have hy : szR Z1 P2.length M2.length = Z1 - (P2.length : Int) - (M2.length : Int) := szR_pos hk
      have hy0 : ¬ Z1 - (P2.length : Int) - (M2.length : Int) < 0 := by omega
      generalize hZ2 : Z1 - (P2.length : Int) - (M2.length : Int) = Z2 at *
      obtain ⟨⟨qA10, qA11, qA12, qA13, qA14⟩, _⟩ := XA1_2.out
      obtain ⟨⟨qA20, qA21, qA22, qA23, qA24⟩, _⟩ := XA2_2.out
      go_wp2_with fail
      clear qA10 qA11 qA12 qA13 qA14
      clear qA20 qA21 qA22 qA23 qA24
      refine (szrt_is f2 b2 l2 a2 d2 _ c2 _ e2 hy (by omega) (by omega) hnl2 hml2 _).mono ?_
      rintro en w3 ⟨rfl, b⟩
      have HB3 := Lib.hid (HB2.out.trans (b.mono HB2.out.size))
      have hs3 := Lib.hid b.size
      have XA1_3 := Lib.hid (At5.below XA1_2.out b)
      have XA2_3 := Lib.hid (At5.below XA2_2.out b)
      clear b
      generalize hU : rtCmp (f1, b1, P1, l1, M1) (f2, b2, P2, l2, M2) = u
      have HU := Lib.hid hU
      have huu : (u != u) = false := by simp
      clear hU
      obtain ⟨⟨qA10, qA11, qA12, qA13, qA14⟩, _⟩ := XA1_3.out
      obtain ⟨⟨qA20, qA21, qA22, qA23, qA24⟩, _⟩ := XA2_3.out
      go_wp2_with fail
      clear qA10 qA11 qA12 qA13 qA14
      clear qA20 qA21 qA22 qA23 qA24
      refine wp_region_held_drew (S := fun W => ((W.cell? ⟨w.heap.size, 0, none⟩ = some (.int .i64 f1) ∧ W.cell? ⟨w.heap.size, 1, none⟩ = some (.int .i64 b1) ∧ W.cell? ⟨w.heap.size, 2, none⟩ = some (.slice a1 P1.length c1) ∧ W.cell? ⟨w.heap.size, 3, none⟩ = some (.int .i64 l1) ∧ W.cell? ⟨w.heap.size, 4, none⟩ = some (.slice d1 M1.length e1)) ∧ (W.cell? ⟨w.heap.size + 1, 0, none⟩ = some (.int .i64 f2) ∧ W.cell? ⟨w.heap.size + 1, 1, none⟩ = some (.int .i64 b2) ∧ W.cell? ⟨w.heap.size + 1, 2, none⟩ = some (.slice a2 P2.length c2) ∧ W.cell? ⟨w.heap.size + 1, 3, none⟩ = some (.int .i64 l2) ∧ W.cell? ⟨w.heap.size + 1, 4, none⟩ = some (.slice d2 M2.length e2))) ∧ Hid (Below w.heap.size w W ∧ At5 W (w.heap.size) (.int .i64 f1) (.int .i64 b1) (.slice a1 P1.length c1) (.int .i64 l1) (.slice d1 M1.length e1) ∧ At5 W (w.heap.size + 1) (.int .i64 f2) (.int .i64 b2) (.slice a2 P2.length c2) (.int .i64 l2) (.slice d2 M2.length e2))) (by kernel_rfl) ?_ (fun hHeld => ?_)
      · exact ⟨⟨XA1_3.out.1, XA2_3.out.1⟩, Lib.hid ⟨HB3.out.drew, XA1_3.out.drew, XA2_3.out.drew⟩⟩
      refine takeH (i := 0) (v := ?_) rfl rfl (by kernel_rfl) (by kernel_rfl) (by kernel_rfl) (fun _ _ _ h => h) (by rfl) ?_ (by assumption) ?_
      rotate_left 1
      · intro w hSw
        (try dsimp only at hSw)
        go_simp
        try with_reducible rfl
      try simp only [List.setIfInBounds_toArray, List.set_cons_zero, List.set_cons_succ]
      refine takeH (i := 2) (v := ?_) rfl rfl (by kernel_rfl) (by kernel_rfl) (by kernel_rfl) (fun _ _ _ h => h) (by rfl) ?_ (by assumption) ?_
      rotate_left 1
      · intro w hSw
        (try dsimp only at hSw)
        go_simp
        try with_reducible rfl
      try simp only [List.setIfInBounds_toArray, List.set_cons_zero, List.set_cons_succ]
      refine wpAnyH_ready (rs := [1]) (by kernel_rfl) (by simp) ?_
      refine AllReadyH.cons rfl (fun K hK => ?_) (AllReadyH.nil)
      go_simp
      refine (tort_is f1 b1 a1 c1 P1 l1 d1 e1 M1 _ ⟨⟨HM1.out.1.below hHeld.2.out.1, HM1.out.2.below hHeld.2.out.1⟩, hcP1, hcM1, by omega, by omega⟩ (by omega) (by omega)).mono ?_
      rintro en wx ⟨pv, mv, rfl, S, o, bP, o2, hS, b⟩
      replace o : OwnI wx _ pv P1 := o
      replace o2 : OwnI wx S mv M1 := o2
      obtain ⟨aqp, cqp, rfl, _, _⟩ := OwnI.tab o
      obtain ⟨aqm, cqm, rfl, _, _⟩ := OwnI.tab o2
      have OYq := Lib.hid (And.intro o o2)
      clear o o2 bP hS
      go_wp2_with fail
      refine hK.out _ _ ?_ (fun hNew => ?_)
      · exact ⟨⟨⟨cell_later b hHeld.1.1.1, cell_later b hHeld.1.1.2.1, cell_later b hHeld.1.1.2.2.1, cell_later b hHeld.1.1.2.2.2.1, cell_later b hHeld.1.1.2.2.2.2⟩, ⟨cell_later b hHeld.1.2.1, cell_later b hHeld.1.2.2.1, cell_later b hHeld.1.2.2.2.1, cell_later b hHeld.1.2.2.2.2.1, cell_later b hHeld.1.2.2.2.2.2⟩⟩, Lib.hid ⟨next hHeld.2.out.1 b, hHeld.2.out.2.1.below b, hHeld.2.out.2.2.below b⟩⟩
      clear hK K hHeld
      have hHeld := hNew
      clear hNew
      try simp only [Act.put, List.setIfInBounds_toArray, List.set_cons_zero, List.set_cons_succ]
      refine wpAnyH_ready (rs := [3]) (by kernel_rfl) (by simp) ?_
      refine AllReadyH.cons rfl (fun K hK => ?_) (AllReadyH.nil)
      go_simp
      refine (tort_is f2 b2 a2 c2 P2 l2 d2 e2 M2 _ ⟨⟨HM2.out.1.below hHeld.2.out.1, HM2.out.2.below hHeld.2.out.1⟩, hcP2, hcM2, by omega, by omega⟩ (by omega) (by omega)).mono ?_
      rintro en wy ⟨pv, mv, rfl, S, o, bP, o2, hS, b⟩
      replace o : OwnI wy _ pv P2 := o
      replace o2 : OwnI wy S mv M2 := o2
      obtain ⟨arp, crp, rfl, _, _⟩ := OwnI.tab o
      obtain ⟨arm, crm, rfl, _, _⟩ := OwnI.tab o2
      have OYr := Lib.hid (And.intro o o2)
      clear o o2 bP hS
      have OYq2 := Lib.hid (And.intro (owni_later OYq.out.1 b) (owni_later OYq.out.2 b))
      go_wp2_with fail
      refine hK.out _ _ ?_ (fun hNew => ?_)
      · exact ⟨⟨⟨cell_later b hHeld.1.1.1, cell_later b hHeld.1.1.2.1, cell_later b hHeld.1.1.2.2.1, cell_later b hHeld.1.1.2.2.2.1, cell_later b hHeld.1.1.2.2.2.2⟩, ⟨cell_later b hHeld.1.2.1, cell_later b hHeld.1.2.2.1, cell_later b hHeld.1.2.2.2.1, cell_later b hHeld.1.2.2.2.2.1, cell_later b hHeld.1.2.2.2.2.2⟩⟩, Lib.hid ⟨next hHeld.2.out.1 b, hHeld.2.out.2.1.below b, hHeld.2.out.2.2.below b⟩⟩
      clear hK K hHeld
      have hHeld := hNew
      clear hNew
      try simp only [Act.put, List.setIfInBounds_toArray, List.set_cons_zero, List.set_cons_succ]
      refine wpAnyH_ready (rs := [4]) (by kernel_rfl) (by simp) ?_
      refine AllReadyH.cons rfl (fun K hK => ?_) (AllReadyH.nil)
      go_simp
      refine (srcmp_is f1 b1 aqp cqp (P1) l1 aqm cqm (M1) f2 b2 arp crp (P2) l2 arm crm (M2) HU.out _ ⟨⟨(OwnI.intA OYq2.out.1).2.2, (OwnI.intA OYq2.out.2).2.2⟩, (OwnI.intA OYq2.out.1).2.1, (OwnI.intA OYq2.out.2).2.1, by omega, by omega⟩ ⟨⟨(OwnI.intA OYr.out.1).2.2, (OwnI.intA OYr.out.2).2.2⟩, (OwnI.intA OYr.out.1).2.1, (OwnI.intA OYr.out.2).2.1, by omega, by omega⟩).mono ?_
      rintro en wz ⟨rfl, b⟩
      go_wp2_with fail
      refine hK.out _ _ ?_ (fun hNew => ?_)
      · exact ⟨⟨⟨cell_later b hHeld.1.1.1, cell_later b hHeld.1.1.2.1, cell_later b hHeld.1.1.2.2.1, cell_later b hHeld.1.1.2.2.2.1, cell_later b hHeld.1.1.2.2.2.2⟩, ⟨cell_later b hHeld.1.2.1, cell_later b hHeld.1.2.2.1, cell_later b hHeld.1.2.2.2.1, cell_later b hHeld.1.2.2.2.2.1, cell_later b hHeld.1.2.2.2.2.2⟩⟩, Lib.hid ⟨next hHeld.2.out.1 b, hHeld.2.out.2.1.below b, hHeld.2.out.2.2.below b⟩⟩
      clear hK K hHeld
      have hHeld := hNew
      clear hNew
      try simp only [Act.put, List.setIfInBounds_toArray, List.set_cons_zero, List.set_cons_succ]
      refine takeH (i := 5) (v := ?_) rfl rfl (by kernel_rfl) (by kernel_rfl) (by kernel_rfl) (fun _ _ _ h => h) (by rfl) ?_ (by assumption) ?_
      rotate_left 1
      · intro w hSw
        (try dsimp only at hSw)
        go_simp
        try with_reducible rfl
      try simp only [List.setIfInBounds_toArray, List.set_cons_zero, List.set_cons_succ]
      refine wpAnyH_done (by kernel_rfl) ?_ _
      have HZ := Lib.hid hHeld.2.out
      have HB4 := Lib.hid HZ.out.1
      have XA1_4 := Lib.hid HZ.out.2.1
      have XA2_4 := Lib.hid HZ.out.2.2
      clear hHeld HZ
      generalize wz = w4 at *
      obtain ⟨⟨qA10, qA11, qA12, qA13, qA14⟩, _⟩ := XA1_4.out
      obtain ⟨⟨qA20, qA21, qA22, qA23, qA24⟩, _⟩ := XA2_4.out
      go_wp2_with fail
      clear qA10 qA11 qA12 qA13 qA14
      clear qA20 qA21 qA22 qA23 qA24
      refine (tort_is f1 b1 a1 c1 P1 l1 d1 e1 M1 _ ⟨⟨HM1.out.1.below HB4.out, HM1.out.2.below HB4.out⟩, hcP1, hcM1, by omega, by omega⟩ (by omega) (by omega)).mono ?_
      rintro en w5 ⟨pv, mv, rfl, S, o, bP, o2, hS, b⟩
      have HB5 := Lib.hid (HB4.out.trans (b.mono HB4.out.size))
      have hs5 := Lib.hid b.size
      have XA1_5 := Lib.hid (At5.below XA1_4.out b)
      have XA2_5 := Lib.hid (At5.below XA2_4.out b)
      replace o : OwnI w5 w4.heap.size pv P1 := o
      replace o2 : OwnI w5 S mv M1 := o2
      obtain ⟨axp, cxp, rfl, _, _⟩ := OwnI.tab o
      obtain ⟨axm, cxm, rfl, _, _⟩ := OwnI.tab o2
      have Ax := Lib.hid (apart2 bP o2)
      have Bxp := Lib.hid (OwnI.btw o)
      have Bxm := Lib.hid ((OwnI.btw o2).mono hS (Nat.le_refl _))
      have Oxp_5 := Lib.hid (owni_mono o HB4.out.size)
      have Oxm_5 := Lib.hid (owni_mono o2 (Nat.le_trans HB4.out.size hS))
      clear o o2 bP hS b
      have HB6 := Lib.hid (HB5.out.alloc HB5.out.size (.cells #[.int .i64 f1, .int .i64 b1, .slice axp (P1).length cxp, .int .i64 l1, .slice axm (M1).length cxm] 27))
      have hs6 := Lib.hid (show w5.heap.size + 1 = (w5.alloc (.cells #[.int .i64 f1, .int .i64 b1, .slice axp (P1).length cxp, .int .i64 l1, .slice axm (M1).length cxm] 27)).heap.size by simp)
      have Oxp_6 := Lib.hid (World.ownsRow.alloc Oxp_5.out (.cells #[.int .i64 f1, .int .i64 b1, .slice axp (P1).length cxp, .int .i64 l1, .slice axm (M1).length cxm] 27))
      have Oxm_6 := Lib.hid (World.ownsRow.alloc Oxm_5.out (.cells #[.int .i64 f1, .int .i64 b1, .slice axp (P1).length cxp, .int .i64 l1, .slice axm (M1).length cxm] 27))
      have XA1_6 := Lib.hid (At5.alloc XA1_5.out (.cells #[.int .i64 f1, .int .i64 b1, .slice axp (P1).length cxp, .int .i64 l1, .slice axm (M1).length cxm] 27))
      have XA2_6 := Lib.hid (At5.alloc XA2_5.out (.cells #[.int .i64 f1, .int .i64 b1, .slice axp (P1).length cxp, .int .i64 l1, .slice axm (M1).length cxm] 27))
      have Xx_6 := Lib.hid (At5.new w5 (.int .i64 f1) (.int .i64 b1) (.slice axp (P1).length cxp) (.int .i64 l1) (.slice axm (M1).length cxm) 27)
      obtain ⟨⟨qA10, qA11, qA12, qA13, qA14⟩, _⟩ := XA1_6.out
      obtain ⟨⟨qA20, qA21, qA22, qA23, qA24⟩, _⟩ := XA2_6.out
      go_wp2_with fail
      clear qA10 qA11 qA12 qA13 qA14
      clear qA20 qA21 qA22 qA23 qA24
      generalize w5.alloc (.cells #[.int .i64 f1, .int .i64 b1, .slice axp (P1).length cxp, .int .i64 l1, .slice axm (M1).length cxm] 27) = w6 at *
      refine (tort_is f2 b2 a2 c2 P2 l2 d2 e2 M2 _ ⟨⟨HM2.out.1.below HB6.out, HM2.out.2.below HB6.out⟩, hcP2, hcM2, by omega, by omega⟩ (by omega) (by omega)).mono ?_
      rintro en w7 ⟨pv, mv, rfl, S, o, bP, o2, hS, b⟩
      have HB7 := Lib.hid (HB6.out.trans (b.mono HB6.out.size))
      have hs7 := Lib.hid b.size
      have Oxp_7 := Lib.hid (owni_later Oxp_6.out b)
      have Oxm_7 := Lib.hid (owni_later Oxm_6.out b)
      have XA1_7 := Lib.hid (At5.below XA1_6.out b)
      have XA2_7 := Lib.hid (At5.below XA2_6.out b)
      have Xx_7 := Lib.hid (At5.below Xx_6.out b)
      replace o : OwnI w7 w6.heap.size pv P2 := o
      replace o2 : OwnI w7 S mv M2 := o2
      obtain ⟨azp, czp, rfl, _, _⟩ := OwnI.tab o
      obtain ⟨azm, czm, rfl, _, _⟩ := OwnI.tab o2
      have Az := Lib.hid (apart2 bP o2)
      have Bzp := Lib.hid (OwnI.btw o)
      have Bzm := Lib.hid ((OwnI.btw o2).mono hS (Nat.le_refl _))
      have Ozp_7 := Lib.hid (owni_mono o HB6.out.size)
      have Ozm_7 := Lib.hid (owni_mono o2 (Nat.le_trans HB6.out.size hS))
      clear o o2 bP hS b
      have HB8 := Lib.hid (HB7.out.alloc HB7.out.size (.cells #[.int .i64 f2, .int .i64 b2, .slice azp (P2).length czp, .int .i64 l2, .slice azm (M2).length czm] 27))
      have hs8 := Lib.hid (show w7.heap.size + 1 = (w7.alloc (.cells #[.int .i64 f2, .int .i64 b2, .slice azp (P2).length czp, .int .i64 l2, .slice azm (M2).length czm] 27)).heap.size by simp)
      have Oxp_8 := Lib.hid (World.ownsRow.alloc Oxp_7.out (.cells #[.int .i64 f2, .int .i64 b2, .slice azp (P2).length czp, .int .i64 l2, .slice azm (M2).length czm] 27))
      have Oxm_8 := Lib.hid (World.ownsRow.alloc Oxm_7.out (.cells #[.int .i64 f2, .int .i64 b2, .slice azp (P2).length czp, .int .i64 l2, .slice azm (M2).length czm] 27))
      have Ozp_8 := Lib.hid (World.ownsRow.alloc Ozp_7.out (.cells #[.int .i64 f2, .int .i64 b2, .slice azp (P2).length czp, .int .i64 l2, .slice azm (M2).length czm] 27))
      have Ozm_8 := Lib.hid (World.ownsRow.alloc Ozm_7.out (.cells #[.int .i64 f2, .int .i64 b2, .slice azp (P2).length czp, .int .i64 l2, .slice azm (M2).length czm] 27))
      have XA1_8 := Lib.hid (At5.alloc XA1_7.out (.cells #[.int .i64 f2, .int .i64 b2, .slice azp (P2).length czp, .int .i64 l2, .slice azm (M2).length czm] 27))
      have XA2_8 := Lib.hid (At5.alloc XA2_7.out (.cells #[.int .i64 f2, .int .i64 b2, .slice azp (P2).length czp, .int .i64 l2, .slice azm (M2).length czm] 27))
      have Xx_8 := Lib.hid (At5.alloc Xx_7.out (.cells #[.int .i64 f2, .int .i64 b2, .slice azp (P2).length czp, .int .i64 l2, .slice azm (M2).length czm] 27))
      have Xz_8 := Lib.hid (At5.new w7 (.int .i64 f2) (.int .i64 b2) (.slice azp (P2).length czp) (.int .i64 l2) (.slice azm (M2).length czm) 27)
      obtain ⟨⟨qA10, qA11, qA12, qA13, qA14⟩, _⟩ := XA1_8.out
      obtain ⟨⟨qA20, qA21, qA22, qA23, qA24⟩, _⟩ := XA2_8.out
      obtain ⟨⟨qx0, qx1, qx2, qx3, qx4⟩, _⟩ := Xx_8.out
      go_wp2_with fail
      clear qA10 qA11 qA12 qA13 qA14
      clear qA20 qA21 qA22 qA23 qA24
      clear qx0 qx1 qx2 qx3 qx4
      generalize w7.alloc (.cells #[.int .i64 f2, .int .i64 b2, .slice azp (P2).length czp, .int .i64 l2, .slice azm (M2).length czm] 27) = w8 at *
      refine (ircmp_is f1 b1 axp cxp (P1) l1 axm cxm (M1) f2 b2 azp czp (P2) l2 azm czm (M2) HU.out _ p ⟨⟨(OwnI.intA Oxp_8.out).2.2, (OwnI.intA Oxm_8.out).2.2⟩, (OwnI.intA Oxp_8.out).2.1, (OwnI.intA Oxm_8.out).2.1, by omega, by omega⟩ ⟨⟨(OwnI.intA Ozp_8.out).2.2, (OwnI.intA Ozm_8.out).2.2⟩, (OwnI.intA Ozp_8.out).2.1, (OwnI.intA Ozm_8.out).2.1, by omega, by omega⟩ (HE.out.below HB8.out)).mono ?_
      rintro en w9 ⟨rfl, b⟩
      have HB9 := Lib.hid (HB8.out.trans (b.mono HB8.out.size))
      have hs9 := Lib.hid b.size
      have Oxp_9 := Lib.hid (owni_later Oxp_8.out b)
      have Oxm_9 := Lib.hid (owni_later Oxm_8.out b)
      have Ozp_9 := Lib.hid (owni_later Ozp_8.out b)
      have Ozm_9 := Lib.hid (owni_later Ozm_8.out b)
      have XA1_9 := Lib.hid (At5.below XA1_8.out b)
      have XA2_9 := Lib.hid (At5.below XA2_8.out b)
      have Xx_9 := Lib.hid (At5.below Xx_8.out b)
      have Xz_9 := Lib.hid (At5.below Xz_8.out b)
      clear b
      obtain ⟨⟨qA10, qA11, qA12, qA13, qA14⟩, _⟩ := XA1_9.out
      obtain ⟨⟨qA20, qA21, qA22, qA23, qA24⟩, _⟩ := XA2_9.out
      obtain ⟨⟨qx0, qx1, qx2, qx3, qx4⟩, _⟩ := Xx_9.out
      obtain ⟨⟨qz0, qz1, qz2, qz3, qz4⟩, _⟩ := Xz_9.out
      go_wp2_with fail
      clear qA10 qA11 qA12 qA13 qA14
      clear qA20 qA21 qA22 qA23 qA24
      clear qx0 qx1 qx2 qx3 qx4
      clear qz0 qz1 qz2 qz3 qz4
      refine wp_region_held_drew (S := fun W => ((W.cell? ⟨w5.heap.size, 0, none⟩ = some (.int .i64 f1) ∧ W.cell? ⟨w5.heap.size, 1, none⟩ = some (.int .i64 b1) ∧ W.cell? ⟨w5.heap.size, 2, none⟩ = some (.slice axp (P1).length cxp) ∧ W.cell? ⟨w5.heap.size, 3, none⟩ = some (.int .i64 l1) ∧ W.cell? ⟨w5.heap.size, 4, none⟩ = some (.slice axm (M1).length cxm)) ∧ (W.cell? ⟨w.heap.size, 0, none⟩ = some (.int .i64 f1) ∧ W.cell? ⟨w.heap.size, 1, none⟩ = some (.int .i64 b1) ∧ W.cell? ⟨w.heap.size, 2, none⟩ = some (.slice a1 P1.length c1) ∧ W.cell? ⟨w.heap.size, 3, none⟩ = some (.int .i64 l1) ∧ W.cell? ⟨w.heap.size, 4, none⟩ = some (.slice d1 M1.length e1))) ∧ Hid (Below w.heap.size w W ∧ OwnI W w.heap.size (.slice axp (P1).length cxp) (P1) ∧ OwnI W w.heap.size (.slice axm (M1).length cxm) (M1) ∧ OwnI W w.heap.size (.slice azp (P2).length czp) (P2) ∧ OwnI W w.heap.size (.slice azm (M2).length czm) (M2) ∧ At5 W (w.heap.size) (.int .i64 f1) (.int .i64 b1) (.slice a1 P1.length c1) (.int .i64 l1) (.slice d1 M1.length e1) ∧ At5 W (w.heap.size + 1) (.int .i64 f2) (.int .i64 b2) (.slice a2 P2.length c2) (.int .i64 l2) (.slice d2 M2.length e2) ∧ At5 W (w5.heap.size) (.int .i64 f1) (.int .i64 b1) (.slice axp (P1).length cxp) (.int .i64 l1) (.slice axm (M1).length cxm) ∧ At5 W (w7.heap.size) (.int .i64 f2) (.int .i64 b2) (.slice azp (P2).length czp) (.int .i64 l2) (.slice azm (M2).length czm))) (by kernel_rfl) ?_ (fun hHeld => ?_)
      · exact ⟨⟨Xx_9.out.1, XA1_9.out.1⟩, Lib.hid ⟨HB9.out.drew, Oxp_9.out.drew, Oxm_9.out.drew, Ozp_9.out.drew, Ozm_9.out.drew, XA1_9.out.drew, XA2_9.out.drew, Xx_9.out.drew, Xz_9.out.drew⟩⟩
      refine takeH (i := 0) (v := ?_) rfl rfl (by kernel_rfl) (by kernel_rfl) (by kernel_rfl) (fun _ _ _ h => h) (by rfl) ?_ (by assumption) ?_
      rotate_left 1
      · intro w hSw
        (try dsimp only at hSw)
        go_simp
        try with_reducible rfl
      try simp only [List.setIfInBounds_toArray, List.set_cons_zero, List.set_cons_succ]
      refine takeH (i := 1) (v := ?_) rfl rfl (by kernel_rfl) (by kernel_rfl) (by kernel_rfl) (fun _ _ _ h => h) (by rfl) ?_ (by assumption) ?_
      rotate_left 1
      · intro w hSw
        (try dsimp only at hSw)
        go_simp
        try with_reducible rfl
      try simp only [List.setIfInBounds_toArray, List.set_cons_zero, List.set_cons_succ]
      refine wpAnyH_ready (rs := [2]) (by kernel_rfl) (by simp) ?_
      refine AllReadyH.cons rfl (fun K hK => ?_) (AllReadyH.nil)
      go_simp
      refine (tort_is f1 b1 a1 c1 P1 l1 d1 e1 M1 _ ⟨⟨HM1.out.1.below hHeld.2.out.1, HM1.out.2.below hHeld.2.out.1⟩, hcP1, hcM1, by omega, by omega⟩ (by omega) (by omega)).mono ?_
      rintro en wy ⟨pv, mv, rfl, S, o, bP, o2, hS, b⟩
      replace o : OwnI wy _ pv P1 := o
      replace o2 : OwnI wy S mv M1 := o2
      obtain ⟨ayp, cyp, rfl, _, _⟩ := OwnI.tab o
      obtain ⟨aym, cym, rfl, _, _⟩ := OwnI.tab o2
      have OYy := Lib.hid (And.intro o o2)
      clear o o2 bP hS
      go_wp2_with fail
      refine hK.out _ _ ?_ (fun hNew => ?_)
      · exact ⟨⟨⟨cell_later b hHeld.1.1.1, cell_later b hHeld.1.1.2.1, cell_later b hHeld.1.1.2.2.1, cell_later b hHeld.1.1.2.2.2.1, cell_later b hHeld.1.1.2.2.2.2⟩, ⟨cell_later b hHeld.1.2.1, cell_later b hHeld.1.2.2.1, cell_later b hHeld.1.2.2.2.1, cell_later b hHeld.1.2.2.2.2.1, cell_later b hHeld.1.2.2.2.2.2⟩⟩, Lib.hid ⟨next hHeld.2.out.1 b, owni_later hHeld.2.out.2.1 b, owni_later hHeld.2.out.2.2.1 b, owni_later hHeld.2.out.2.2.2.1 b, owni_later hHeld.2.out.2.2.2.2.1 b, hHeld.2.out.2.2.2.2.2.1.below b, hHeld.2.out.2.2.2.2.2.2.1.below b, hHeld.2.out.2.2.2.2.2.2.2.1.below b, hHeld.2.out.2.2.2.2.2.2.2.2.below b⟩⟩
      clear hK K hHeld
      have hHeld := hNew
      clear hNew
      try simp only [Act.put, List.setIfInBounds_toArray, List.set_cons_zero, List.set_cons_succ]
      refine wpAnyH_ready (rs := [3]) (by kernel_rfl) (by simp) ?_
      refine AllReadyH.cons rfl (fun K hK => ?_) (AllReadyH.nil)
      go_simp
      refine (eqrt_is f1 b1 axp cxp (P1) l1 axm cxm (M1) f1 b1 ayp cyp (P1) l1 aym cym (M1) (show decide (((f1, b1, P1, l1, M1) : Rt) = ((f1, b1, P1, l1, M1) : Rt)) = true from decide_eq_true rfl) _ ⟨⟨(OwnI.intA hHeld.2.out.2.1).2.2, (OwnI.intA hHeld.2.out.2.2.1).2.2⟩, (OwnI.intA hHeld.2.out.2.1).2.1, (OwnI.intA hHeld.2.out.2.2.1).2.1, by omega, by omega⟩ ⟨⟨(OwnI.intA OYy.out.1).2.2, (OwnI.intA OYy.out.2).2.2⟩, (OwnI.intA OYy.out.1).2.1, (OwnI.intA OYy.out.2).2.1, by omega, by omega⟩).mono ?_
      rintro en wz ⟨rfl, b⟩
      go_wp2_with fail
      refine hK.out _ _ ?_ (fun hNew => ?_)
      · exact ⟨⟨⟨cell_later b hHeld.1.1.1, cell_later b hHeld.1.1.2.1, cell_later b hHeld.1.1.2.2.1, cell_later b hHeld.1.1.2.2.2.1, cell_later b hHeld.1.1.2.2.2.2⟩, ⟨cell_later b hHeld.1.2.1, cell_later b hHeld.1.2.2.1, cell_later b hHeld.1.2.2.2.1, cell_later b hHeld.1.2.2.2.2.1, cell_later b hHeld.1.2.2.2.2.2⟩⟩, Lib.hid ⟨next hHeld.2.out.1 b, owni_later hHeld.2.out.2.1 b, owni_later hHeld.2.out.2.2.1 b, owni_later hHeld.2.out.2.2.2.1 b, owni_later hHeld.2.out.2.2.2.2.1 b, hHeld.2.out.2.2.2.2.2.1.below b, hHeld.2.out.2.2.2.2.2.2.1.below b, hHeld.2.out.2.2.2.2.2.2.2.1.below b, hHeld.2.out.2.2.2.2.2.2.2.2.below b⟩⟩
      clear hK K hHeld
      have hHeld := hNew
      clear hNew
      try simp only [Act.put, List.setIfInBounds_toArray, List.set_cons_zero, List.set_cons_succ]
      refine takeH (i := 4) (v := ?_) rfl rfl (by kernel_rfl) (by kernel_rfl) (by kernel_rfl) (fun _ _ _ h => h) (by rfl) ?_ (by assumption) ?_
      rotate_left 1
      · intro w hSw
        (try dsimp only at hSw)
        go_simp
        try with_reducible rfl
      try simp only [List.setIfInBounds_toArray, List.set_cons_zero, List.set_cons_succ]
      refine wpAnyH_done (by kernel_rfl) ?_ _
      have HZ := Lib.hid hHeld.2.out
      have HB10 := Lib.hid HZ.out.1
      have Oxp_10 := Lib.hid HZ.out.2.1
      have Oxm_10 := Lib.hid HZ.out.2.2.1
      have Ozp_10 := Lib.hid HZ.out.2.2.2.1
      have Ozm_10 := Lib.hid HZ.out.2.2.2.2.1
      have XA1_10 := Lib.hid HZ.out.2.2.2.2.2.1
      have XA2_10 := Lib.hid HZ.out.2.2.2.2.2.2.1
      have Xx_10 := Lib.hid HZ.out.2.2.2.2.2.2.2.1
      have Xz_10 := Lib.hid HZ.out.2.2.2.2.2.2.2.2
      clear hHeld HZ
      generalize wz = w10 at *
      obtain ⟨⟨qA20, qA21, qA22, qA23, qA24⟩, _⟩ := XA2_10.out
      obtain ⟨⟨qz0, qz1, qz2, qz3, qz4⟩, _⟩ := Xz_10.out
      go_wp2_with fail
      clear qA20 qA21 qA22 qA23 qA24
      clear qz0 qz1 qz2 qz3 qz4
      refine wp_region_held_drew (S := fun W => ((W.cell? ⟨w7.heap.size, 0, none⟩ = some (.int .i64 f2) ∧ W.cell? ⟨w7.heap.size, 1, none⟩ = some (.int .i64 b2) ∧ W.cell? ⟨w7.heap.size, 2, none⟩ = some (.slice azp (P2).length czp) ∧ W.cell? ⟨w7.heap.size, 3, none⟩ = some (.int .i64 l2) ∧ W.cell? ⟨w7.heap.size, 4, none⟩ = some (.slice azm (M2).length czm)) ∧ (W.cell? ⟨w.heap.size + 1, 0, none⟩ = some (.int .i64 f2) ∧ W.cell? ⟨w.heap.size + 1, 1, none⟩ = some (.int .i64 b2) ∧ W.cell? ⟨w.heap.size + 1, 2, none⟩ = some (.slice a2 P2.length c2) ∧ W.cell? ⟨w.heap.size + 1, 3, none⟩ = some (.int .i64 l2) ∧ W.cell? ⟨w.heap.size + 1, 4, none⟩ = some (.slice d2 M2.length e2))) ∧ Hid (Below w.heap.size w W ∧ OwnI W w.heap.size (.slice azp (P2).length czp) (P2) ∧ OwnI W w.heap.size (.slice azm (M2).length czm) (M2) ∧ At5 W (w.heap.size + 1) (.int .i64 f2) (.int .i64 b2) (.slice a2 P2.length c2) (.int .i64 l2) (.slice d2 M2.length e2) ∧ At5 W (w7.heap.size) (.int .i64 f2) (.int .i64 b2) (.slice azp (P2).length czp) (.int .i64 l2) (.slice azm (M2).length czm))) (by kernel_rfl) ?_ (fun hHeld => ?_)
      · exact ⟨⟨Xz_10.out.1, XA2_10.out.1⟩, Lib.hid ⟨HB10.out.drew, Ozp_10.out.drew, Ozm_10.out.drew, XA2_10.out.drew, Xz_10.out.drew⟩⟩
      refine takeH (i := 0) (v := ?_) rfl rfl (by kernel_rfl) (by kernel_rfl) (by kernel_rfl) (fun _ _ _ h => h) (by rfl) ?_ (by assumption) ?_
      rotate_left 1
      · intro w hSw
        (try dsimp only at hSw)
        go_simp
        try with_reducible rfl
      try simp only [List.setIfInBounds_toArray, List.set_cons_zero, List.set_cons_succ]
      refine takeH (i := 1) (v := ?_) rfl rfl (by kernel_rfl) (by kernel_rfl) (by kernel_rfl) (fun _ _ _ h => h) (by rfl) ?_ (by assumption) ?_
      rotate_left 1
      · intro w hSw
        (try dsimp only at hSw)
        go_simp
        try with_reducible rfl
      try simp only [List.setIfInBounds_toArray, List.set_cons_zero, List.set_cons_succ]
      refine wpAnyH_ready (rs := [2]) (by kernel_rfl) (by simp) ?_
      refine AllReadyH.cons rfl (fun K hK => ?_) (AllReadyH.nil)
      go_simp
      refine (tort_is f2 b2 a2 c2 P2 l2 d2 e2 M2 _ ⟨⟨HM2.out.1.below hHeld.2.out.1, HM2.out.2.below hHeld.2.out.1⟩, hcP2, hcM2, by omega, by omega⟩ (by omega) (by omega)).mono ?_
      rintro en wy ⟨pv, mv, rfl, S, o, bP, o2, hS, b⟩
      replace o : OwnI wy _ pv P2 := o
      replace o2 : OwnI wy S mv M2 := o2
      obtain ⟨ayp, cyp, rfl, _, _⟩ := OwnI.tab o
      obtain ⟨aym, cym, rfl, _, _⟩ := OwnI.tab o2
      have OYy := Lib.hid (And.intro o o2)
      clear o o2 bP hS
      go_wp2_with fail
      refine hK.out _ _ ?_ (fun hNew => ?_)
      · exact ⟨⟨⟨cell_later b hHeld.1.1.1, cell_later b hHeld.1.1.2.1, cell_later b hHeld.1.1.2.2.1, cell_later b hHeld.1.1.2.2.2.1, cell_later b hHeld.1.1.2.2.2.2⟩, ⟨cell_later b hHeld.1.2.1, cell_later b hHeld.1.2.2.1, cell_later b hHeld.1.2.2.2.1, cell_later b hHeld.1.2.2.2.2.1, cell_later b hHeld.1.2.2.2.2.2⟩⟩, Lib.hid ⟨next hHeld.2.out.1 b, owni_later hHeld.2.out.2.1 b, owni_later hHeld.2.out.2.2.1 b, hHeld.2.out.2.2.2.1.below b, hHeld.2.out.2.2.2.2.below b⟩⟩
      clear hK K hHeld
      have hHeld := hNew
      clear hNew
      try simp only [Act.put, List.setIfInBounds_toArray, List.set_cons_zero, List.set_cons_succ]
      refine wpAnyH_ready (rs := [3]) (by kernel_rfl) (by simp) ?_
      refine AllReadyH.cons rfl (fun K hK => ?_) (AllReadyH.nil)
      go_simp
      refine (eqrt_is f2 b2 azp czp (P2) l2 azm czm (M2) f2 b2 ayp cyp (P2) l2 aym cym (M2) (show decide (((f2, b2, P2, l2, M2) : Rt) = ((f2, b2, P2, l2, M2) : Rt)) = true from decide_eq_true rfl) _ ⟨⟨(OwnI.intA hHeld.2.out.2.1).2.2, (OwnI.intA hHeld.2.out.2.2.1).2.2⟩, (OwnI.intA hHeld.2.out.2.1).2.1, (OwnI.intA hHeld.2.out.2.2.1).2.1, by omega, by omega⟩ ⟨⟨(OwnI.intA OYy.out.1).2.2, (OwnI.intA OYy.out.2).2.2⟩, (OwnI.intA OYy.out.1).2.1, (OwnI.intA OYy.out.2).2.1, by omega, by omega⟩).mono ?_
      rintro en wz ⟨rfl, b⟩
      go_wp2_with fail
      refine hK.out _ _ ?_ (fun hNew => ?_)
      · exact ⟨⟨⟨cell_later b hHeld.1.1.1, cell_later b hHeld.1.1.2.1, cell_later b hHeld.1.1.2.2.1, cell_later b hHeld.1.1.2.2.2.1, cell_later b hHeld.1.1.2.2.2.2⟩, ⟨cell_later b hHeld.1.2.1, cell_later b hHeld.1.2.2.1, cell_later b hHeld.1.2.2.2.1, cell_later b hHeld.1.2.2.2.2.1, cell_later b hHeld.1.2.2.2.2.2⟩⟩, Lib.hid ⟨next hHeld.2.out.1 b, owni_later hHeld.2.out.2.1 b, owni_later hHeld.2.out.2.2.1 b, hHeld.2.out.2.2.2.1.below b, hHeld.2.out.2.2.2.2.below b⟩⟩
      clear hK K hHeld
      have hHeld := hNew
      clear hNew
      try simp only [Act.put, List.setIfInBounds_toArray, List.set_cons_zero, List.set_cons_succ]
      refine takeH (i := 4) (v := ?_) rfl rfl (by kernel_rfl) (by kernel_rfl) (by kernel_rfl) (fun _ _ _ h => h) (by rfl) ?_ (by assumption) ?_
      rotate_left 1
      · intro w hSw
        (try dsimp only at hSw)
        go_simp
        try with_reducible rfl
      try simp only [List.setIfInBounds_toArray, List.set_cons_zero, List.set_cons_succ]
      refine wpAnyH_done (by kernel_rfl) ?_ _
      have HZ := Lib.hid hHeld.2.out
      have HB11 := Lib.hid HZ.out.1
      have Ozp_11 := Lib.hid HZ.out.2.1
      have Ozm_11 := Lib.hid HZ.out.2.2.1
      have XA2_11 := Lib.hid HZ.out.2.2.2.1
      have Xz_11 := Lib.hid HZ.out.2.2.2.2
      clear hHeld HZ
      generalize wz = w11 at *
      obtain ⟨⟨qA20, qA21, qA22, qA23, qA24⟩, _⟩ := XA2_11.out
      obtain ⟨⟨qz0, qz1, qz2, qz3, qz4⟩, _⟩ := Xz_11.out
      go_wp2_with fail
      clear qA20 qA21 qA22 qA23 qA24
      clear qz0 qz1 qz2 qz3 qz4
      go_ret
      exact ⟨rfl, HB11.out⟩
    · have hy : szR Z1 P2.length M2.length = -1 := szR_neg (by omega)
      obtain ⟨⟨qA10, qA11, qA12, qA13, qA14⟩, _⟩ := XA1_2.out
      obtain ⟨⟨qA20, qA21, qA22, qA23, qA24⟩, _⟩ := XA2_2.out
      go_wp2_with fail
      clear qA10 qA11 qA12 qA13 qA14
      clear qA20 qA21 qA22 qA23 qA24
      refine (szrt_is f2 b2 l2 a2 d2 _ c2 _ e2 hy (by omega) (by omega) hnl2 hml2 _).mono ?_
      rintro en w3 ⟨rfl, b⟩
      have HB3 := Lib.hid (HB2.out.trans (b.mono HB2.out.size))
      have hs3 := Lib.hid b.size
      have XA1_3 := Lib.hid (At5.below XA1_2.out b)
      have XA2_3 := Lib.hid (At5.below XA2_2.out b)
      clear b
      obtain ⟨⟨qA10, qA11, qA12, qA13, qA14⟩, _⟩ := XA1_3.out
      obtain ⟨⟨qA20, qA21, qA22, qA23, qA24⟩, _⟩ := XA2_3.out
      go_wp2_with fail
      clear qA10 qA11 qA12 qA13 qA14
      clear qA20 qA21 qA22 qA23 qA24
      go_ret
      exact ⟨rfl, HB3.out⟩
  · have hz : szR 1048576 P1.length M1.length = -1 := szR_neg (by omega)
    refine (szrt_is f1 b1 l1 a1 d1 _ c1 _ e1 hz (by omega) (by omega) hnl1 hml1 _).mono ?_
    rintro en w2 ⟨rfl, b⟩
    have HB2 := Lib.hid (HB1.out.trans (b.mono HB1.out.size))
    have hs2 := Lib.hid b.size
    have XA1_2 := Lib.hid (At5.below XA1_1.out b)
    have XA2_2 := Lib.hid (At5.below XA2_1.out b)
    clear b
    obtain ⟨⟨qA10, qA11, qA12, qA13, qA14⟩, _⟩ := XA1_2.out
    obtain ⟨⟨qA20, qA21, qA22, qA23, qA24⟩, _⟩ := XA2_2.out
    go_wp2_with fail
    clear qA10 qA11 qA12 qA13 qA14
    clear qA20 qA21 qA22 qA23 qA24
    go_ret
    exact ⟨rfl, HB2.out⟩

end Go.Proofs.YtfjfcdifnfffbaaDoor
