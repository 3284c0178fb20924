/-
  The exact law of ClauseFits: the walk.
-/
import Derived.Test.YthkaaamgkmmeeaaDoorClFi
import Derived.Test.YthkaaamgkmmeeaaDoorRtTo
import Derived.Test.YthkaaamgkmmeeaaDoorRtExA
namespace Go.Proofs.YthkaaamgkmmeeaaDoor
open Go.RowKit
set_option linter.unusedSimpArgs false
set_option linter.unusedVariables false

set_option maxRecDepth 100000 in
set_option maxHeartbeats 4000000 in
theorem exactClauseFits_walk (u : CL) (f1 b1 : Int) (a1 : Option Addr) (n1 c1 : Nat) (P1 : List Int) (l1 : Int) (d1 : Option Addr) (m1 e1 : Nat) (M1 : List Int) (w : World) (hP1 : IntA w a1 P1) (hM1 : IntA w d1 M1) (hn1 : n1 = P1.length) (hm1 : m1 = M1.length) (hcP1 : n1 ≤ c1) (hcM1 : m1 ≤ e1) (hnl1 : n1 ≤ 9223372036854775807) (hml1 : m1 ≤ 9223372036854775807) (p : Addr) (hE : EV w p) (_ : True) :
    Calls Tryd.prog 11 #[clV u, .agg #[.int .i64 f1, .int .i64 b1, .slice a1 n1 c1, .int .i64 l1, .slice d1 m1 e1]] w fun e w' => e = .returned (.bool true) ∧ Below w.heap.size w w' := by
  subst hn1 hm1
  have HM1 := Lib.hid (And.intro hP1 hM1)
  clear hP1 hM1
  have HE := Lib.hid hE
  clear hE
  have HB1 : Hid (Below w.heap.size w ((w.alloc (.cells #[.int .i64 u.i, .int .i64 u.n, .int .i64 u.f, .int .i64 u.b, .bool u.x, .int .i64 u.l, .int .i64 u.m, .int .i64 u.k] 55)).alloc (.cells #[.int .i64 f1, .int .i64 b1, .slice a1 P1.length c1, .int .i64 l1, .slice d1 M1.length e1] 57))) := Lib.hid (((Below.refl w.heap.size w).alloc (Nat.le_refl _) (.cells #[.int .i64 u.i, .int .i64 u.n, .int .i64 u.f, .int .i64 u.b, .bool u.x, .int .i64 u.l, .int .i64 u.m, .int .i64 u.k] 55)).alloc (by simp) (.cells #[.int .i64 f1, .int .i64 b1, .slice a1 P1.length c1, .int .i64 l1, .slice d1 M1.length e1] 57))
  have hs1 : Hid (w.heap.size + 2 = ((w.alloc (.cells #[.int .i64 u.i, .int .i64 u.n, .int .i64 u.f, .int .i64 u.b, .bool u.x, .int .i64 u.l, .int .i64 u.m, .int .i64 u.k] 55)).alloc (.cells #[.int .i64 f1, .int .i64 b1, .slice a1 P1.length c1, .int .i64 l1, .slice d1 M1.length e1] 57)).heap.size) := Lib.hid (by simp)
  have Au_1 : Hid (AtL ((w.alloc (.cells #[.int .i64 u.i, .int .i64 u.n, .int .i64 u.f, .int .i64 u.b, .bool u.x, .int .i64 u.l, .int .i64 u.m, .int .i64 u.k] 55)).alloc (.cells #[.int .i64 f1, .int .i64 b1, .slice a1 P1.length c1, .int .i64 l1, .slice d1 M1.length e1] 57)) w.heap.size 0 u.cells) := Lib.hid ((AtL.new w u 55).alloc (.cells #[.int .i64 f1, .int .i64 b1, .slice a1 P1.length c1, .int .i64 l1, .slice d1 M1.length e1] 57))
  have xr := At5.new (w.alloc (.cells #[.int .i64 u.i, .int .i64 u.n, .int .i64 u.f, .int .i64 u.b, .bool u.x, .int .i64 u.l, .int .i64 u.m, .int .i64 u.k] 55)) (.int .i64 f1) (.int .i64 b1) (.slice a1 P1.length c1) (.int .i64 l1) (.slice d1 M1.length e1) 57
  simp only [World.size_alloc] at xr
  have XA1_1 : Hid (At5 ((w.alloc (.cells #[.int .i64 u.i, .int .i64 u.n, .int .i64 u.f, .int .i64 u.b, .bool u.x, .int .i64 u.l, .int .i64 u.m, .int .i64 u.k] 55)).alloc (.cells #[.int .i64 f1, .int .i64 b1, .slice a1 P1.length c1, .int .i64 l1, .slice d1 M1.length e1] 57)) (w.heap.size + 1) (.int .i64 f1) (.int .i64 b1) (.slice a1 P1.length c1) (.int .i64 l1) (.slice d1 M1.length e1)) := Lib.hid xr
  clear xr
  go_enter Tryd.func11, Tryd.ntmps11
  go_wp2_with fail
  generalize ((w.alloc (.cells #[.int .i64 u.i, .int .i64 u.n, .int .i64 u.f, .int .i64 u.b, .bool u.x, .int .i64 u.l, .int .i64 u.m, .int .i64 u.k] 55)).alloc (.cells #[.int .i64 f1, .int .i64 b1, .slice a1 P1.length c1, .int .i64 l1, .slice d1 M1.length e1] 57)) = w1 at *
  by_cases hl : P1.length + M1.length ≤ 1048576
  · have hz : szR 1048576 P1.length M1.length = 1048576 - (P1.length : Int) - (M1.length : Int) := szR_pos (by omega)
    have hz0 : ¬ (1048576 : Int) - (P1.length : Int) - (M1.length : Int) < 0 := by omega
    refine (szrt_is f1 b1 l1 a1 d1 _ c1 _ e1 hz (by omega) (by omega) hnl1 hml1 _).mono ?_
    rintro en w2 ⟨rfl, b⟩
    have HB2 := Lib.hid (HB1.out.trans (b.mono HB1.out.size))
    have hs2 := Lib.hid b.size
    have XA1_2 := Lib.hid (At5.below XA1_1.out b)
    have Au_2 := Lib.hid (AtL.below Au_1.out b)
    clear b
    obtain ⟨x, hx⟩ : ∃ x, clFits u (f1, b1, P1, l1, M1) = x := ⟨_, rfl⟩
    have HX := Lib.hid hx
    have huu : (x != x) = false := by simp
    clear hx
    obtain ⟨⟨qA10, qA11, qA12, qA13, qA14⟩, _⟩ := XA1_2.out
    go_wp2_with fail
    clear qA10 qA11 qA12 qA13 qA14
    refine wp_region_held_drew (S := fun W => ((W.cell? ⟨w.heap.size, 0, none⟩ = some (.int .i64 u.i) ∧ W.cell? ⟨w.heap.size, 1, none⟩ = some (.int .i64 u.n) ∧ W.cell? ⟨w.heap.size, 2, none⟩ = some (.int .i64 u.f) ∧ W.cell? ⟨w.heap.size, 3, none⟩ = some (.int .i64 u.b) ∧ W.cell? ⟨w.heap.size, 4, none⟩ = some (.bool u.x) ∧ W.cell? ⟨w.heap.size, 5, none⟩ = some (.int .i64 u.l) ∧ W.cell? ⟨w.heap.size, 6, none⟩ = some (.int .i64 u.m) ∧ W.cell? ⟨w.heap.size, 7, none⟩ = some (.int .i64 u.k)) ∧ (W.cell? ⟨w.heap.size + 1, 0, none⟩ = some (.int .i64 f1) ∧ W.cell? ⟨w.heap.size + 1, 1, none⟩ = some (.int .i64 b1) ∧ W.cell? ⟨w.heap.size + 1, 2, none⟩ = some (.slice a1 P1.length c1) ∧ W.cell? ⟨w.heap.size + 1, 3, none⟩ = some (.int .i64 l1) ∧ W.cell? ⟨w.heap.size + 1, 4, none⟩ = some (.slice d1 M1.length e1))) ∧ Hid (Below w.heap.size w W ∧ At5 W (w.heap.size + 1) (.int .i64 f1) (.int .i64 b1) (.slice a1 P1.length c1) (.int .i64 l1) (.slice d1 M1.length e1) ∧ AtL W (w.heap.size) 0 u.cells)) (by kernel_rfl) ?_ (fun hHeld => ?_)
    · exact ⟨⟨Au_2.out.z8.1, XA1_2.out.1⟩, Lib.hid ⟨HB2.out.drew, XA1_2.out.drew, Au_2.out.drew⟩⟩
    refine takeH (i := 0) (v := ?_) rfl rfl (by kernel_rfl) (by kernel_rfl) (by kernel_rfl) (fun _ _ _ h => h) (by rfl) ?_ (by assumption) ?_
    rotate_left 1
    · intro w hSw
      (try dsimp only at hSw)
      go_simp
      try with_reducible rfl
    try simp only [List.setIfInBounds_toArray, List.set_cons_zero, List.set_cons_succ]
    refine takeH (i := 2) (v := ?_) rfl rfl (by kernel_rfl) (by kernel_rfl) (by kernel_rfl) (fun _ _ _ h => h) (by rfl) ?_ (by assumption) ?_
    rotate_left 1
    · intro w hSw
      (try dsimp only at hSw)
      go_simp
      try with_reducible rfl
    try simp only [List.setIfInBounds_toArray, List.set_cons_zero, List.set_cons_succ]
    refine wpAnyH_ready (rs := [1]) (by kernel_rfl) (by simp) ?_
    refine AllReadyH.cons rfl (fun K hK => ?_) (AllReadyH.nil)
    go_simp
    refine (tocl_is u _).mono ?_
    rintro en wt ⟨rfl, kA⟩
    go_wp2_with fail
    refine hK.out _ _ ?_ (fun hNew => ?_)
    · exact ⟨⟨⟨cell_later kA hHeld.1.1.1, cell_later kA hHeld.1.1.2.1, cell_later kA hHeld.1.1.2.2.1, cell_later kA hHeld.1.1.2.2.2.1, cell_later kA hHeld.1.1.2.2.2.2.1, cell_later kA hHeld.1.1.2.2.2.2.2.1, cell_later kA hHeld.1.1.2.2.2.2.2.2.1, cell_later kA hHeld.1.1.2.2.2.2.2.2.2⟩, ⟨cell_later kA hHeld.1.2.1, cell_later kA hHeld.1.2.2.1, cell_later kA hHeld.1.2.2.2.1, cell_later kA hHeld.1.2.2.2.2.1, cell_later kA hHeld.1.2.2.2.2.2⟩⟩, Lib.hid ⟨next hHeld.2.out.1 kA, hHeld.2.out.2.1.below kA, hHeld.2.out.2.2.below kA⟩⟩
    clear hK K hHeld
    have hHeld := hNew
    clear hNew
    try simp only [Act.put, List.setIfInBounds_toArray, List.set_cons_zero, List.set_cons_succ]
    refine wpAnyH_ready (rs := [3]) (by kernel_rfl) (by simp) ?_
    refine AllReadyH.cons rfl (fun K hK => ?_) (AllReadyH.nil)
    go_simp
    refine (tort_is f1 b1 a1 c1 P1 l1 d1 e1 M1 _ ⟨⟨HM1.out.1.below hHeld.2.out.1, HM1.out.2.below hHeld.2.out.1⟩, hcP1, hcM1, by omega, by omega⟩ (by omega) (by omega)).mono ?_
    rintro en wy ⟨pv, mv, rfl, S, o, bP, o2, hS, kC⟩
    replace o : OwnI wy _ pv P1 := o
    replace o2 : OwnI wy S mv M1 := o2
    obtain ⟨ayp, cyp, rfl, _, _⟩ := OwnI.tab o
    obtain ⟨aym, cym, rfl, _, _⟩ := OwnI.tab o2
    have OYy := Lib.hid (And.intro o o2)
    clear o o2 bP hS
    go_wp2_with fail
    refine hK.out _ _ ?_ (fun hNew => ?_)
    · exact ⟨⟨⟨cell_later kC hHeld.1.1.1, cell_later kC hHeld.1.1.2.1, cell_later kC hHeld.1.1.2.2.1, cell_later kC hHeld.1.1.2.2.2.1, cell_later kC hHeld.1.1.2.2.2.2.1, cell_later kC hHeld.1.1.2.2.2.2.2.1, cell_later kC hHeld.1.1.2.2.2.2.2.2.1, cell_later kC hHeld.1.1.2.2.2.2.2.2.2⟩, ⟨cell_later kC hHeld.1.2.1, cell_later kC hHeld.1.2.2.1, cell_later kC hHeld.1.2.2.2.1, cell_later kC hHeld.1.2.2.2.2.1, cell_later kC hHeld.1.2.2.2.2.2⟩⟩, Lib.hid ⟨next hHeld.2.out.1 kC, hHeld.2.out.2.1.below kC, hHeld.2.out.2.2.below kC⟩⟩
    clear hK K hHeld
    have hHeld := hNew
    clear hNew
    try simp only [Act.put, List.setIfInBounds_toArray, List.set_cons_zero, List.set_cons_succ]
    refine wpAnyH_ready (rs := [4]) (by kernel_rfl) (by simp) ?_
    refine AllReadyH.cons rfl (fun K hK => ?_) (AllReadyH.nil)
    go_simp
    refine (sclfits_is u f1 b1 ayp cyp (P1) l1 aym cym (M1) HX.out _ ⟨⟨(OwnI.intA OYy.out.1).2.2, (OwnI.intA OYy.out.2).2.2⟩, (OwnI.intA OYy.out.1).2.1, (OwnI.intA OYy.out.2).2.1, by omega, by omega⟩).mono ?_
    rintro en wz ⟨rfl, kD⟩
    go_wp2_with fail
    refine hK.out _ _ ?_ (fun hNew => ?_)
    · exact ⟨⟨⟨cell_later kD hHeld.1.1.1, cell_later kD hHeld.1.1.2.1, cell_later kD hHeld.1.1.2.2.1, cell_later kD hHeld.1.1.2.2.2.1, cell_later kD hHeld.1.1.2.2.2.2.1, cell_later kD hHeld.1.1.2.2.2.2.2.1, cell_later kD hHeld.1.1.2.2.2.2.2.2.1, cell_later kD hHeld.1.1.2.2.2.2.2.2.2⟩, ⟨cell_later kD hHeld.1.2.1, cell_later kD hHeld.1.2.2.1, cell_later kD hHeld.1.2.2.2.1, cell_later kD hHeld.1.2.2.2.2.1, cell_later kD hHeld.1.2.2.2.2.2⟩⟩, Lib.hid ⟨next hHeld.2.out.1 kD, hHeld.2.out.2.1.below kD, hHeld.2.out.2.2.below kD⟩⟩
    clear hK K hHeld
    have hHeld := hNew
    clear hNew
    try simp only [Act.put, List.setIfInBounds_toArray, List.set_cons_zero, List.set_cons_succ]
    refine takeH (i := 5) (v := ?_) rfl rfl (by kernel_rfl) (by kernel_rfl) (by kernel_rfl) (fun _ _ _ h => h) (by rfl) ?_ (by assumption) ?_
    rotate_left 1
    · intro w hSw
      (try dsimp only at hSw)
      go_simp
      try with_reducible rfl
    try simp only [List.setIfInBounds_toArray, List.set_cons_zero, List.set_cons_succ]
    refine wpAnyH_done (by kernel_rfl) ?_ _
    clear OYy
    have HZ := Lib.hid hHeld.2.out
    have HB3 := Lib.hid HZ.out.1
    have XA1_3 := Lib.hid HZ.out.2.1
    have Au_3 := Lib.hid HZ.out.2.2
    clear hHeld HZ
    generalize wz = w3 at *
    have go_on := HB3
    clear go_on
    obtain ⟨⟨qA10, qA11, qA12, qA13, qA14⟩, _⟩ := XA1_3.out
    go_wp2_with fail
    clear qA10 qA11 qA12 qA13 qA14
    refine (tort_is f1 b1 a1 c1 P1 l1 d1 e1 M1 _ ⟨⟨HM1.out.1.below HB3.out, HM1.out.2.below HB3.out⟩, hcP1, hcM1, by omega, by omega⟩ (by omega) (by omega)).mono ?_
    rintro en w4 ⟨pv, mv, rfl, S, o, bP, o2, hS, b⟩
    have HB4 := Lib.hid (HB3.out.trans (b.mono HB3.out.size))
    have hs4 := Lib.hid b.size
    have XA1_4 := Lib.hid (At5.below XA1_3.out b)
    have Au_4 := Lib.hid (AtL.below Au_3.out b)
    replace o : OwnI w4 w3.heap.size pv P1 := o
    replace o2 : OwnI w4 S mv M1 := o2
    obtain ⟨axp, cxp, rfl, _, _⟩ := OwnI.tab o
    obtain ⟨axm, cxm, rfl, _, _⟩ := OwnI.tab o2
    have Ax := Lib.hid (apart2 bP o2)
    have Bxp := Lib.hid (OwnI.btw o)
    have Bxm := Lib.hid ((OwnI.btw o2).mono hS (Nat.le_refl _))
    have Oxp_4 := Lib.hid (owni_mono o HB3.out.size)
    have Oxm_4 := Lib.hid (owni_mono o2 (Nat.le_trans HB3.out.size hS))
    clear o o2 bP hS b
    have HB5 := Lib.hid (HB4.out.alloc HB4.out.size (.cells #[.int .i64 f1, .int .i64 b1, .slice axp (P1).length cxp, .int .i64 l1, .slice axm (M1).length cxm] 29))
    have hs5 := Lib.hid (show w4.heap.size + 1 = (w4.alloc (.cells #[.int .i64 f1, .int .i64 b1, .slice axp (P1).length cxp, .int .i64 l1, .slice axm (M1).length cxm] 29)).heap.size by simp)
    have Oxp_5 := Lib.hid (World.ownsRow.alloc Oxp_4.out (.cells #[.int .i64 f1, .int .i64 b1, .slice axp (P1).length cxp, .int .i64 l1, .slice axm (M1).length cxm] 29))
    have Oxm_5 := Lib.hid (World.ownsRow.alloc Oxm_4.out (.cells #[.int .i64 f1, .int .i64 b1, .slice axp (P1).length cxp, .int .i64 l1, .slice axm (M1).length cxm] 29))
    have XA1_5 := Lib.hid (At5.alloc XA1_4.out (.cells #[.int .i64 f1, .int .i64 b1, .slice axp (P1).length cxp, .int .i64 l1, .slice axm (M1).length cxm] 29))
    have Au_5 := Lib.hid (AtL.alloc Au_4.out (.cells #[.int .i64 f1, .int .i64 b1, .slice axp (P1).length cxp, .int .i64 l1, .slice axm (M1).length cxm] 29))
    have Xx_5 := Lib.hid (At5.new w4 (.int .i64 f1) (.int .i64 b1) (.slice axp (P1).length cxp) (.int .i64 l1) (.slice axm (M1).length cxm) 29)
    obtain ⟨⟨qA10, qA11, qA12, qA13, qA14⟩, _⟩ := XA1_5.out
    go_wp2_with fail
    clear qA10 qA11 qA12 qA13 qA14
    generalize w4.alloc (.cells #[.int .i64 f1, .int .i64 b1, .slice axp (P1).length cxp, .int .i64 l1, .slice axm (M1).length cxm] 29) = w5 at *
    refine wp_region_held_drew (S := fun W => ((W.cell? ⟨w.heap.size, 0, none⟩ = some (.int .i64 u.i) ∧ W.cell? ⟨w.heap.size, 1, none⟩ = some (.int .i64 u.n) ∧ W.cell? ⟨w.heap.size, 2, none⟩ = some (.int .i64 u.f) ∧ W.cell? ⟨w.heap.size, 3, none⟩ = some (.int .i64 u.b) ∧ W.cell? ⟨w.heap.size, 4, none⟩ = some (.bool u.x) ∧ W.cell? ⟨w.heap.size, 5, none⟩ = some (.int .i64 u.l) ∧ W.cell? ⟨w.heap.size, 6, none⟩ = some (.int .i64 u.m) ∧ W.cell? ⟨w.heap.size, 7, none⟩ = some (.int .i64 u.k)) ∧ (W.cell? ⟨w4.heap.size, 0, none⟩ = some (.int .i64 f1) ∧ W.cell? ⟨w4.heap.size, 1, none⟩ = some (.int .i64 b1) ∧ W.cell? ⟨w4.heap.size, 2, none⟩ = some (.slice axp (P1).length cxp) ∧ W.cell? ⟨w4.heap.size, 3, none⟩ = some (.int .i64 l1) ∧ W.cell? ⟨w4.heap.size, 4, none⟩ = some (.slice axm (M1).length cxm))) ∧ Hid (Below w.heap.size w W ∧ OwnI W w.heap.size (.slice axp (P1).length cxp) (P1) ∧ OwnI W w.heap.size (.slice axm (M1).length cxm) (M1) ∧ At5 W (w.heap.size + 1) (.int .i64 f1) (.int .i64 b1) (.slice a1 P1.length c1) (.int .i64 l1) (.slice d1 M1.length e1) ∧ At5 W (w4.heap.size) (.int .i64 f1) (.int .i64 b1) (.slice axp (P1).length cxp) (.int .i64 l1) (.slice axm (M1).length cxm) ∧ AtL W (w.heap.size) 0 u.cells)) (by kernel_rfl) ?_ (fun hHeld => ?_)
    · exact ⟨⟨Au_5.out.z8.1, Xx_5.out.1⟩, Lib.hid ⟨HB5.out.drew, Oxp_5.out.drew, Oxm_5.out.drew, XA1_5.out.drew, Xx_5.out.drew, Au_5.out.drew⟩⟩
    refine takeH (i := 0) (v := ?_) rfl rfl (by kernel_rfl) (by kernel_rfl) (by kernel_rfl) (fun _ _ _ h => h) (by rfl) ?_ (by assumption) ?_
    rotate_left 1
    · intro w hSw
      (try dsimp only at hSw)
      go_simp
      try with_reducible rfl
    try simp only [List.setIfInBounds_toArray, List.set_cons_zero, List.set_cons_succ]
    refine takeH (i := 2) (v := ?_) rfl rfl (by kernel_rfl) (by kernel_rfl) (by kernel_rfl) (fun _ _ _ h => h) (by rfl) ?_ (by assumption) ?_
    rotate_left 1
    · intro w hSw
      (try dsimp only at hSw)
      go_simp
      try with_reducible rfl
    try simp only [List.setIfInBounds_toArray, List.set_cons_zero, List.set_cons_succ]
    refine wpAnyH_ready (rs := [1]) (by kernel_rfl) (by simp) ?_
    refine AllReadyH.cons rfl (fun K hK => ?_) (AllReadyH.nil)
    go_simp
    refine (tocl_is u _).mono ?_
    rintro en wt ⟨rfl, kA⟩
    go_wp2_with fail
    refine hK.out _ _ ?_ (fun hNew => ?_)
    · exact ⟨⟨⟨cell_later kA hHeld.1.1.1, cell_later kA hHeld.1.1.2.1, cell_later kA hHeld.1.1.2.2.1, cell_later kA hHeld.1.1.2.2.2.1, cell_later kA hHeld.1.1.2.2.2.2.1, cell_later kA hHeld.1.1.2.2.2.2.2.1, cell_later kA hHeld.1.1.2.2.2.2.2.2.1, cell_later kA hHeld.1.1.2.2.2.2.2.2.2⟩, ⟨cell_later kA hHeld.1.2.1, cell_later kA hHeld.1.2.2.1, cell_later kA hHeld.1.2.2.2.1, cell_later kA hHeld.1.2.2.2.2.1, cell_later kA hHeld.1.2.2.2.2.2⟩⟩, Lib.hid ⟨next hHeld.2.out.1 kA, owni_later hHeld.2.out.2.1 kA, owni_later hHeld.2.out.2.2.1 kA, hHeld.2.out.2.2.2.1.below kA, hHeld.2.out.2.2.2.2.1.below kA, hHeld.2.out.2.2.2.2.2.below kA⟩⟩
    clear hK K hHeld
    have hHeld := hNew
    clear hNew
    try simp only [Act.put, List.setIfInBounds_toArray, List.set_cons_zero, List.set_cons_succ]
    refine wpAnyH_ready (rs := [3]) (by kernel_rfl) (by simp) ?_
    refine AllReadyH.cons rfl (fun K hK => ?_) (AllReadyH.nil)
    go_simp
    refine (iclfits_is u f1 b1 axp cxp (P1) l1 axm cxm (M1) HX.out _ p ⟨⟨(OwnI.intA hHeld.2.out.2.1).2.2, (OwnI.intA hHeld.2.out.2.2.1).2.2⟩, (OwnI.intA hHeld.2.out.2.1).2.1, (OwnI.intA hHeld.2.out.2.2.1).2.1, by omega, by omega⟩ (HE.out.below hHeld.2.out.1)).mono ?_
    rintro en wz ⟨rfl, kC⟩
    go_wp2_with fail
    refine hK.out _ _ ?_ (fun hNew => ?_)
    · exact ⟨⟨⟨cell_later kC hHeld.1.1.1, cell_later kC hHeld.1.1.2.1, cell_later kC hHeld.1.1.2.2.1, cell_later kC hHeld.1.1.2.2.2.1, cell_later kC hHeld.1.1.2.2.2.2.1, cell_later kC hHeld.1.1.2.2.2.2.2.1, cell_later kC hHeld.1.1.2.2.2.2.2.2.1, cell_later kC hHeld.1.1.2.2.2.2.2.2.2⟩, ⟨cell_later kC hHeld.1.2.1, cell_later kC hHeld.1.2.2.1, cell_later kC hHeld.1.2.2.2.1, cell_later kC hHeld.1.2.2.2.2.1, cell_later kC hHeld.1.2.2.2.2.2⟩⟩, Lib.hid ⟨next hHeld.2.out.1 kC, owni_later hHeld.2.out.2.1 kC, owni_later hHeld.2.out.2.2.1 kC, hHeld.2.out.2.2.2.1.below kC, hHeld.2.out.2.2.2.2.1.below kC, hHeld.2.out.2.2.2.2.2.below kC⟩⟩
    clear hK K hHeld
    have hHeld := hNew
    clear hNew
    try simp only [Act.put, List.setIfInBounds_toArray, List.set_cons_zero, List.set_cons_succ]
    refine takeH (i := 4) (v := ?_) rfl rfl (by kernel_rfl) (by kernel_rfl) (by kernel_rfl) (fun _ _ _ h => h) (by rfl) ?_ (by assumption) ?_
    rotate_left 1
    · intro w hSw
      (try dsimp only at hSw)
      go_simp
      try with_reducible rfl
    try simp only [List.setIfInBounds_toArray, List.set_cons_zero, List.set_cons_succ]
    refine wpAnyH_done (by kernel_rfl) ?_ _
    have HZ := Lib.hid hHeld.2.out
    have HB6 := Lib.hid HZ.out.1
    have Oxp_6 := Lib.hid HZ.out.2.1
    have Oxm_6 := Lib.hid HZ.out.2.2.1
    have XA1_6 := Lib.hid HZ.out.2.2.2.1
    have Xx_6 := Lib.hid HZ.out.2.2.2.2.1
    have Au_6 := Lib.hid HZ.out.2.2.2.2.2
    clear hHeld HZ
    generalize wz = w6 at *
    obtain ⟨⟨qA10, qA11, qA12, qA13, qA14⟩, _⟩ := XA1_6.out
    obtain ⟨⟨qx0, qx1, qx2, qx3, qx4⟩, _⟩ := Xx_6.out
    go_wp2_with fail
    clear qA10 qA11 qA12 qA13 qA14
    clear qx0 qx1 qx2 qx3 qx4
    refine wp_region_held_drew (S := fun W => ((W.cell? ⟨w4.heap.size, 0, none⟩ = some (.int .i64 f1) ∧ W.cell? ⟨w4.heap.size, 1, none⟩ = some (.int .i64 b1) ∧ W.cell? ⟨w4.heap.size, 2, none⟩ = some (.slice axp (P1).length cxp) ∧ W.cell? ⟨w4.heap.size, 3, none⟩ = some (.int .i64 l1) ∧ W.cell? ⟨w4.heap.size, 4, none⟩ = some (.slice axm (M1).length cxm)) ∧ (W.cell? ⟨w.heap.size + 1, 0, none⟩ = some (.int .i64 f1) ∧ W.cell? ⟨w.heap.size + 1, 1, none⟩ = some (.int .i64 b1) ∧ W.cell? ⟨w.heap.size + 1, 2, none⟩ = some (.slice a1 P1.length c1) ∧ W.cell? ⟨w.heap.size + 1, 3, none⟩ = some (.int .i64 l1) ∧ W.cell? ⟨w.heap.size + 1, 4, none⟩ = some (.slice d1 M1.length e1))) ∧ Hid (Below w.heap.size w W ∧ OwnI W w.heap.size (.slice axp (P1).length cxp) (P1) ∧ OwnI W w.heap.size (.slice axm (M1).length cxm) (M1) ∧ At5 W (w.heap.size + 1) (.int .i64 f1) (.int .i64 b1) (.slice a1 P1.length c1) (.int .i64 l1) (.slice d1 M1.length e1) ∧ At5 W (w4.heap.size) (.int .i64 f1) (.int .i64 b1) (.slice axp (P1).length cxp) (.int .i64 l1) (.slice axm (M1).length cxm) ∧ AtL W (w.heap.size) 0 u.cells)) (by kernel_rfl) ?_ (fun hHeld => ?_)
    · exact ⟨⟨Xx_6.out.1, XA1_6.out.1⟩, Lib.hid ⟨HB6.out.drew, Oxp_6.out.drew, Oxm_6.out.drew, XA1_6.out.drew, Xx_6.out.drew, Au_6.out.drew⟩⟩
    refine takeH (i := 0) (v := ?_) rfl rfl (by kernel_rfl) (by kernel_rfl) (by kernel_rfl) (fun _ _ _ h => h) (by rfl) ?_ (by assumption) ?_
    rotate_left 1
    · intro w hSw
      (try dsimp only at hSw)
      go_simp
      try with_reducible rfl
    try simp only [List.setIfInBounds_toArray, List.set_cons_zero, List.set_cons_succ]
    refine takeH (i := 1) (v := ?_) rfl rfl (by kernel_rfl) (by kernel_rfl) (by kernel_rfl) (fun _ _ _ h => h) (by rfl) ?_ (by assumption) ?_
    rotate_left 1
    · intro w hSw
      (try dsimp only at hSw)
      go_simp
      try with_reducible rfl
    try simp only [List.setIfInBounds_toArray, List.set_cons_zero, List.set_cons_succ]
    refine wpAnyH_ready (rs := [2]) (by kernel_rfl) (by simp) ?_
    refine AllReadyH.cons rfl (fun K hK => ?_) (AllReadyH.nil)
    go_simp
    refine (tort_is f1 b1 a1 c1 P1 l1 d1 e1 M1 _ ⟨⟨HM1.out.1.below hHeld.2.out.1, HM1.out.2.below hHeld.2.out.1⟩, hcP1, hcM1, by omega, by omega⟩ (by omega) (by omega)).mono ?_
    rintro en wy ⟨pv, mv, rfl, S, o, bP, o2, hS, kB⟩
    replace o : OwnI wy _ pv P1 := o
    replace o2 : OwnI wy S mv M1 := o2
    obtain ⟨ayp, cyp, rfl, _, _⟩ := OwnI.tab o
    obtain ⟨aym, cym, rfl, _, _⟩ := OwnI.tab o2
    have OYy := Lib.hid (And.intro o o2)
    clear o o2 bP hS
    go_wp2_with fail
    refine hK.out _ _ ?_ (fun hNew => ?_)
    · exact ⟨⟨⟨cell_later kB hHeld.1.1.1, cell_later kB hHeld.1.1.2.1, cell_later kB hHeld.1.1.2.2.1, cell_later kB hHeld.1.1.2.2.2.1, cell_later kB hHeld.1.1.2.2.2.2⟩, ⟨cell_later kB hHeld.1.2.1, cell_later kB hHeld.1.2.2.1, cell_later kB hHeld.1.2.2.2.1, cell_later kB hHeld.1.2.2.2.2.1, cell_later kB hHeld.1.2.2.2.2.2⟩⟩, Lib.hid ⟨next hHeld.2.out.1 kB, owni_later hHeld.2.out.2.1 kB, owni_later hHeld.2.out.2.2.1 kB, hHeld.2.out.2.2.2.1.below kB, hHeld.2.out.2.2.2.2.1.below kB, hHeld.2.out.2.2.2.2.2.below kB⟩⟩
    clear hK K hHeld
    have hHeld := hNew
    clear hNew
    try simp only [Act.put, List.setIfInBounds_toArray, List.set_cons_zero, List.set_cons_succ]
    refine wpAnyH_ready (rs := [3]) (by kernel_rfl) (by simp) ?_
    refine AllReadyH.cons rfl (fun K hK => ?_) (AllReadyH.nil)
    go_simp
    refine (eqrt_is f1 b1 axp cxp (P1) l1 axm cxm (M1) f1 b1 ayp cyp (P1) l1 aym cym (M1) (show decide (((f1, b1, P1, l1, M1) : Rt) = ((f1, b1, P1, l1, M1) : Rt)) = true from decide_eq_true rfl) _ ⟨⟨(OwnI.intA hHeld.2.out.2.1).2.2, (OwnI.intA hHeld.2.out.2.2.1).2.2⟩, (OwnI.intA hHeld.2.out.2.1).2.1, (OwnI.intA hHeld.2.out.2.2.1).2.1, by omega, by omega⟩ ⟨⟨(OwnI.intA OYy.out.1).2.2, (OwnI.intA OYy.out.2).2.2⟩, (OwnI.intA OYy.out.1).2.1, (OwnI.intA OYy.out.2).2.1, by omega, by omega⟩).mono ?_
    rintro en wz ⟨rfl, kC⟩
    go_wp2_with fail
    refine hK.out _ _ ?_ (fun hNew => ?_)
    · exact ⟨⟨⟨cell_later kC hHeld.1.1.1, cell_later kC hHeld.1.1.2.1, cell_later kC hHeld.1.1.2.2.1, cell_later kC hHeld.1.1.2.2.2.1, cell_later kC hHeld.1.1.2.2.2.2⟩, ⟨cell_later kC hHeld.1.2.1, cell_later kC hHeld.1.2.2.1, cell_later kC hHeld.1.2.2.2.1, cell_later kC hHeld.1.2.2.2.2.1, cell_later kC hHeld.1.2.2.2.2.2⟩⟩, Lib.hid ⟨next hHeld.2.out.1 kC, owni_later hHeld.2.out.2.1 kC, owni_later hHeld.2.out.2.2.1 kC, hHeld.2.out.2.2.2.1.below kC, hHeld.2.out.2.2.2.2.1.below kC, hHeld.2.out.2.2.2.2.2.below kC⟩⟩
    clear hK K hHeld
    have hHeld := hNew
    clear hNew
    try simp only [Act.put, List.setIfInBounds_toArray, List.set_cons_zero, List.set_cons_succ]
    refine takeH (i := 4) (v := ?_) rfl rfl (by kernel_rfl) (by kernel_rfl) (by kernel_rfl) (fun _ _ _ h => h) (by rfl) ?_ (by assumption) ?_
    rotate_left 1
    · intro w hSw
      (try dsimp only at hSw)
      go_simp
      try with_reducible rfl
    try simp only [List.setIfInBounds_toArray, List.set_cons_zero, List.set_cons_succ]
    refine wpAnyH_done (by kernel_rfl) ?_ _
    have HZ := Lib.hid hHeld.2.out
    have HB7 := Lib.hid HZ.out.1
    have Oxp_7 := Lib.hid HZ.out.2.1
    have Oxm_7 := Lib.hid HZ.out.2.2.1
    have XA1_7 := Lib.hid HZ.out.2.2.2.1
    have Xx_7 := Lib.hid HZ.out.2.2.2.2.1
    have Au_7 := Lib.hid HZ.out.2.2.2.2.2
    clear hHeld HZ
    generalize wz = w7 at *
    obtain ⟨⟨qA10, qA11, qA12, qA13, qA14⟩, _⟩ := XA1_7.out
    obtain ⟨⟨qx0, qx1, qx2, qx3, qx4⟩, _⟩ := Xx_7.out
    go_wp2_with fail
    clear qA10 qA11 qA12 qA13 qA14
    clear qx0 qx1 qx2 qx3 qx4
    go_ret
    exact ⟨rfl, HB7.out⟩
  · have hz : szR 1048576 P1.length M1.length = -1 := szR_neg (by omega)
    refine (szrt_is f1 b1 l1 a1 d1 _ c1 _ e1 hz (by omega) (by omega) hnl1 hml1 _).mono ?_
    rintro en w2 ⟨rfl, b⟩
    have HB2 := Lib.hid (HB1.out.trans (b.mono HB1.out.size))
    have hs2 := Lib.hid b.size
    have XA1_2 := Lib.hid (At5.below XA1_1.out b)
    have Au_2 := Lib.hid (AtL.below Au_1.out b)
    clear b
    obtain ⟨⟨qA10, qA11, qA12, qA13, qA14⟩, _⟩ := XA1_2.out
    go_wp2_with fail
    clear qA10 qA11 qA12 qA13 qA14
    go_ret
    exact ⟨rfl, HB2.out⟩
end Go.Proofs.YthkaaamgkmmeeaaDoor
