/-
  Drawn routes: DrawRouteClear.
-/
import Derived.Test.YtfjfcdifnfffbaaDoorRtDd
namespace Go.Proofs.YtfjfcdifnfffbaaDoor
open Go.RowKit
set_option linter.unusedSimpArgs false
set_option linter.unusedVariables false

set_option maxRecDepth 100000 in
set_option maxHeartbeats 4000000 in
theorem dRouteClear_any (a0 : Option Addr) (len0 cap0 : Nat) (zs0 : List Int) (w : World) (h : IsRow w a0 len0 cap0 zs0) :
    Calls Tryd.prog 27 #[.slice a0 len0 cap0] w (DnRM w) := by
  have H0 := Lib.hid h
  clear h
  have HB0 := Lib.hid (Below.refl w.heap.size w)
  go_enter Tryd.func27, Tryd.ntmps27
  have HB1 := Lib.hid (HB0.out.alloc HB0.out.size (.cells #[.int .i64 0, .int .i64 0, .slice none 0 0, .int .i64 0, .slice none 0 0] 27))
  have hs1 := Lib.hid (show w.heap.size + 1 = (w.alloc (.cells #[.int .i64 0, .int .i64 0, .slice none 0 0, .int .i64 0, .slice none 0 0] 27)).heap.size by simp)
  have XZ_1 := Lib.hid (At5.new w (.int .i64 0) (.int .i64 0) (.slice none 0 0) (.int .i64 0) (.slice none 0 0) 27)
  go_wp2_with fail
  generalize w.alloc (.cells #[.int .i64 0, .int .i64 0, .slice none 0 0, .int .i64 0, .slice none 0 0] 27) = w1 at *
  refine (open_any a0 len0 cap0 zs0 _ (isrow_later H0.out HB1.out)).mono ?_
  rintro en w2 ⟨rfl, hr, b⟩
  have HB2 := Lib.hid (HB1.out.trans (b.mono HB1.out.size))
  have hs2 := Lib.hid b.size
  have hB0 := Lib.hid (rd_lt hr)
  have hlB := Lib.hid HB1.out.size
  have XZ_2 := Lib.hid (At5.below XZ_1.out b)
  have RD2 := Lib.hid hr
  clear hr b
  obtain ⟨⟨qZ0, qZ1, qZ2, qZ3, qZ4⟩, _⟩ := XZ_2.out
  go_wp2_with fail
  clear qZ0 qZ1 qZ2 qZ3 qZ4
  refine (route_any _ (w1.heap.size) (0) (by omega) RD2.out).mono ?_
  rintro en w3 ⟨fx, bx, lx, Px, Mx, pv, mv, qx, rfl, ⟨hlPx, hlMx⟩, ⟨o, o2⟩, hr, hqx, hg⟩
  have HB3 := Lib.hid (below_only HB2.out hg HB2.out.size hlB.out)
  have hs3 := Lib.hid hg.size
  have XZ_3 := Lib.hid (At5.only XZ_2.out hg (by have := hs1.out; have := hs2.out; have := hB0.out; have := hs3.out; simp; omega))
  obtain ⟨axp, cxp, rfl, _, _⟩ := OwnI.tab o
  obtain ⟨axm, cxm, rfl, _, _⟩ := OwnI.tab o2
  have Bxp := Lib.hid (OwnI.btw o)
  have Bxm := Lib.hid (OwnI.btw o2)
  have Oxp_3 := Lib.hid (owni_mono o HB2.out.size)
  have Oxm_3 := Lib.hid (owni_mono o2 HB2.out.size)
  have RD3 := Lib.hid hr
  clear o o2 hr hg
  by_cases hM0 : 0 < Mx.length
  · have hM1 : (0 : Int) < (Mx.length : Int) := by omega
    have RD4 := Lib.hid (rd_alloc RD3.out (.cells #[.int .i64 fx, .int .i64 bx, .slice axp (Px).length cxp, .int .i64 lx, .slice axm (Mx).length cxm] 27))
    have HB4 := Lib.hid (HB3.out.alloc HB3.out.size (.cells #[.int .i64 fx, .int .i64 bx, .slice axp (Px).length cxp, .int .i64 lx, .slice axm (Mx).length cxm] 27))
    have hs4 := Lib.hid (show w3.heap.size + 1 = (w3.alloc (.cells #[.int .i64 fx, .int .i64 bx, .slice axp (Px).length cxp, .int .i64 lx, .slice axm (Mx).length cxm] 27)).heap.size by simp)
    have Oxp_4 := Lib.hid (World.ownsRow.alloc Oxp_3.out (.cells #[.int .i64 fx, .int .i64 bx, .slice axp (Px).length cxp, .int .i64 lx, .slice axm (Mx).length cxm] 27))
    have Oxm_4 := Lib.hid (World.ownsRow.alloc Oxm_3.out (.cells #[.int .i64 fx, .int .i64 bx, .slice axp (Px).length cxp, .int .i64 lx, .slice axm (Mx).length cxm] 27))
    have XZ_4 := Lib.hid (At5.alloc XZ_3.out (.cells #[.int .i64 fx, .int .i64 bx, .slice axp (Px).length cxp, .int .i64 lx, .slice axm (Mx).length cxm] 27))
    have Xx_4 := Lib.hid (At5.new w3 (.int .i64 fx) (.int .i64 bx) (.slice axp (Px).length cxp) (.int .i64 lx) (.slice axm (Mx).length cxm) 27)
    obtain ⟨⟨qZ0, qZ1, qZ2, qZ3, qZ4⟩, _⟩ := XZ_4.out
    go_wp2_with fail
    clear qZ0 qZ1 qZ2 qZ3 qZ4
    generalize w3.alloc (.cells #[.int .i64 fx, .int .i64 bx, .slice axp (Px).length cxp, .int .i64 lx, .slice axm (Mx).length cxm] 27) = w4 at *
    refine (pick_any 2 _ (w1.heap.size) (qx) (by omega) (by omega) RD4.out).mono ?_
    rintro en w5 ⟨y, y0, y1, rfl, hr, hg⟩
    have HB5 := Lib.hid (below_only HB4.out hg HB4.out.size hlB.out)
    have hs5 := Lib.hid hg.size
    have Oxp_5 := Lib.hid (World.ownsRow.kept Oxp_4.out hg (rd_apart Bxp.out (by have := hs1.out; have := hs2.out; have := hB0.out; have := hs3.out; have := hs4.out; have := hs5.out; omega)))
    have Oxm_5 := Lib.hid (World.ownsRow.kept Oxm_4.out hg (rd_apart Bxm.out (by have := hs1.out; have := hs2.out; have := hB0.out; have := hs3.out; have := hs4.out; have := hs5.out; omega)))
    have XZ_5 := Lib.hid (At5.only XZ_4.out hg (by have := hs1.out; have := hs2.out; have := hB0.out; have := hs3.out; have := hs4.out; have := hs5.out; simp; omega))
    have Xx_5 := Lib.hid (At5.only Xx_4.out hg (by have := hs1.out; have := hs2.out; have := hB0.out; have := hs3.out; have := hs4.out; have := hs5.out; simp; omega))
    have RD5 := Lib.hid hr
    clear hr hg
    by_cases hy : y = 0
    · subst hy
      obtain ⟨⟨qZ0, qZ1, qZ2, qZ3, qZ4⟩, _⟩ := XZ_5.out
      obtain ⟨⟨qx0, qx1, qx2, qx3, qx4⟩, _⟩ := Xx_5.out
      go_wp2_with fail
      clear qZ0 qZ1 qZ2 qZ3 qZ4
      clear qx0 qx1 qx2 qx3 qx4
      refine wp_region_held_drew (S := fun W => W.cell? ⟨w3.heap.size, 0, none⟩ = some (.int .i64 fx) ∧ W.cell? ⟨w3.heap.size, 1, none⟩ = some (.int .i64 bx) ∧ W.cell? ⟨w3.heap.size, 2, none⟩ = some (.slice axp (Px).length cxp) ∧ W.cell? ⟨w3.heap.size, 3, none⟩ = some (.int .i64 lx) ∧ W.cell? ⟨w3.heap.size, 4, none⟩ = some (.slice axm (Mx).length cxm)) (by kernel_rfl) ?_ (fun hHeld => ?_)
      · exact Xx_5.out.drew.1
      refine takeH (i := 0) (v := ?_) rfl rfl (by kernel_rfl) (by kernel_rfl) (by kernel_rfl) (fun _ _ _ h => h) (by rfl) ?_ (by assumption) ?_
      rotate_left 1
      · intro w hSw
        (try dsimp only at hSw)
        go_simp
        try with_reducible rfl
      try simp only [List.setIfInBounds_toArray, List.set_cons_zero, List.set_cons_succ]
      refine takeH (i := 1) (v := ?_) rfl rfl (by kernel_rfl) (by kernel_rfl) (by kernel_rfl) (fun _ _ _ h => h) (by rfl) ?_ (by assumption) ?_
      rotate_left 1
      · intro w hSw
        (try dsimp only at hSw)
        go_simp
        try with_reducible rfl
      try simp only [List.setIfInBounds_toArray, List.set_cons_zero, List.set_cons_succ]
      refine takeH (i := 2) (v := ?_) rfl rfl (by kernel_rfl) (by kernel_rfl) (by kernel_rfl) (fun _ _ _ h => h) (by rfl) ?_ (by assumption) ?_
      rotate_left 1
      · intro w hSw
        (try dsimp only at hSw)
        go_simp
        try with_reducible rfl
      try simp only [List.setIfInBounds_toArray, List.set_cons_zero, List.set_cons_succ]
      refine takeH (i := 3) (v := ?_) rfl rfl (by kernel_rfl) (by kernel_rfl) (by kernel_rfl) (fun _ _ _ h => h) (by rfl) ?_ (by assumption) ?_
      rotate_left 1
      · intro w hSw
        (try dsimp only at hSw)
        go_simp
        try with_reducible rfl
      try simp only [List.setIfInBounds_toArray, List.set_cons_zero, List.set_cons_succ]
      refine takeH (i := 4) (v := ?_) rfl rfl (by kernel_rfl) (by kernel_rfl) (by kernel_rfl) (fun _ _ _ h => h) (by rfl) ?_ (by assumption) ?_
      rotate_left 1
      · intro w hSw
        (try dsimp only at hSw)
        go_simp
        try with_reducible rfl
      try simp only [List.setIfInBounds_toArray, List.set_cons_zero, List.set_cons_succ]
      refine takeH (i := 5) (v := ?_) rfl rfl (by kernel_rfl) (by kernel_rfl) (by kernel_rfl) (fun _ _ _ h => h) (by rfl) ?_ (by assumption) ?_
      rotate_left 1
      · intro w hSw
        (try dsimp only at hSw)
        go_simp
        try with_reducible rfl
      try simp only [List.setIfInBounds_toArray, List.set_cons_zero, List.set_cons_succ]
      refine takeH (i := 6) (v := ?_) rfl rfl (by kernel_rfl) (by kernel_rfl) (by kernel_rfl) (fun _ _ _ h => h) (by rfl) ?_ (by assumption) ?_
      rotate_left 1
      · intro w hSw
        (try dsimp only at hSw)
        go_simp
        try with_reducible rfl
      try simp only [List.setIfInBounds_toArray, List.set_cons_zero, List.set_cons_succ]
      refine wpAnyH_ready (rs := [7]) (by kernel_rfl) (by simp) ?_
      refine AllReadyH.cons rfl (fun K hK => ?_) (AllReadyH.nil)
      go_simp
      refine (pick_any (Mx.length : Int) _ (w1.heap.size) ((qx) + 1) (by omega) (by omega) (rd_drew RD5.out)).mono ?_
      rintro en wy ⟨z, z0, z1, rfl, hr, hg⟩
      have HBy := Lib.hid (below_only HB5.out.drew hg HB5.out.size hlB.out)
      have hsy := Lib.hid hg.size
      have Oxp_y := Lib.hid (World.ownsRow.kept Oxp_5.out.drew hg (rd_apart Bxp.out (by have := hs1.out; have := hs2.out; have := hB0.out; have := hs3.out; have := hs4.out; have := hs5.out; omega)))
      have Oxm_y := Lib.hid (World.ownsRow.kept Oxm_5.out.drew hg (rd_apart Bxm.out (by have := hs1.out; have := hs2.out; have := hB0.out; have := hs3.out; have := hs4.out; have := hs5.out; omega)))
      have XZ_y := Lib.hid (At5.only XZ_5.out.drew hg (by have := hs1.out; have := hs2.out; have := hB0.out; have := hs3.out; have := hs4.out; have := hs5.out; simp; omega))
      have Xx_y := Lib.hid (At5.only Xx_5.out.drew hg (by have := hs1.out; have := hs2.out; have := hB0.out; have := hs3.out; have := hs4.out; have := hs5.out; simp; omega))
      have RDy := Lib.hid hr
      obtain ⟨zn, rfl⟩ := Int.eq_ofNat_of_zero_le z0
      obtain ⟨bz, oz, ez, rfl, _, cz⟩ := (OwnI.intA Oxm_y.out).2.2.at (show zn < Mx.length by omega)
      have nbz : ¬ bz = w.heap.size := by have := (Bxm.out bz rfl).1; have := hs1.out; have := hs2.out; have := hB0.out; have := hs3.out; have := hs4.out; have := hs5.out; omega
      have nbz2 : ¬ w.heap.size = bz := fun h => nbz h.symm
      go_wp2_with fail
      refine hK.out _ _ ?_ (fun hNew => ?_)
      · exact Xx_y.out.1
      clear hK K hHeld
      have hHeld := hNew
      clear hNew
      try simp only [Act.put, List.setIfInBounds_toArray, List.set_cons_zero, List.set_cons_succ]
      refine takeH (i := 8) (v := ?_) rfl rfl (by kernel_rfl) (by kernel_rfl) (by kernel_rfl) (fun _ _ _ h => h) (by rfl) ?_ (by assumption) ?_
      rotate_left 1
      · intro w hSw
        (try dsimp only at hSw)
        go_simp
        try with_reducible rfl
      try simp only [List.setIfInBounds_toArray, List.set_cons_zero, List.set_cons_succ]
      refine wpAnyH_ready (rs := [9, 10]) (by kernel_rfl) (by simp) ?_
      refine AllReadyH.cons rfl (fun K hK => ?_) (AllReadyH.cons rfl (fun K hK => ?_) (AllReadyH.nil))
      · go_simp
        refine hK.out _ _ ?_ (fun hNew => ?_)
        · exact hHeld
        clear hK K hHeld
        have hHeld := hNew
        clear hNew
        try simp only [Act.put, List.setIfInBounds_toArray, List.set_cons_zero, List.set_cons_succ]
        refine wpAnyH_ready (rs := [10]) (by kernel_rfl) (by simp) ?_
        refine AllReadyH.cons rfl (fun K hK => ?_) (AllReadyH.nil)
        obtain ⟨⟨qZ0, qZ1, qZ2, qZ3, qZ4⟩, uZ0, uZ1, uZ2, uZ3, uZ4⟩ := XZ_y.out
        go_simp
        refine hK.out _ _ ?_ (fun hNew => ?_)
        · exact (At5.far5 Xx_y.out (Q := w.heap.size) (by have := hs1.out; have := hs2.out; have := hB0.out; have := hs3.out; have := hsy.out; omega) _ _ _ _ _).1
        clear hK K hHeld
        have hHeld := hNew
        clear hNew
        try simp only [Act.put, List.setIfInBounds_toArray, List.set_cons_zero, List.set_cons_succ]
        refine takeH (i := 11) (v := ?_) rfl rfl (by kernel_rfl) (by kernel_rfl) (by kernel_rfl) (fun _ _ _ h => h) (by rfl) ?_ (by assumption) ?_
        rotate_left 1
        · intro w hSw
          (try dsimp only at hSw)
          go_simp
          try with_reducible rfl
        try simp only [List.setIfInBounds_toArray, List.set_cons_zero, List.set_cons_succ]
        refine wpAnyH_done (by kernel_rfl) ?_ _
        have HF := Lib.hid (dd_fin (w := w) (.int .i64 fx) (.int .i64 bx) (.int .i64 lx) Oxp_y.out Bxp.out Oxm_y.out Bxm.out XZ_y.out (by have := hs1.out; have := hs2.out; have := hB0.out; have := hs3.out; have := hs4.out; have := hs5.out; omega) (by have := hs1.out; have := hs2.out; have := hB0.out; have := hs3.out; have := hs4.out; have := hs5.out; omega) HBy.out (Nat.le_refl _))
        clear hHeld
        go_wp2_with fail
        have HG := HF.out
        generalize hX : set5 wy w.heap.size (.int .i64 fx) (.int .i64 bx) (.slice axp Px.length cxp) (.int .i64 lx) (.slice (some ⟨bz, oz, none⟩) Mx.length cxm) = wF at HG
        unfold set5 at hX
        rw [hX]
        obtain ⟨⟨⟨g0, g1, g2, g3, g4⟩, _⟩, gO, gB⟩ := HG
        exact bodyPost_ret (v := .tuple #[.agg #[.int .i64 fx, .int .i64 bx, .slice axp Px.length cxp, .int .i64 lx, .slice (some ⟨bz, oz, none⟩) Mx.length cxm], .int .i64 ez]) (by simp [results, Tryd.results27, go_sem, g0, g1, g2, g3, g4]) rfl ⟨fx, bx, lx, Px, Mx, _, _, _, rfl, ⟨by omega, by omega⟩, gO, gB⟩
      · obtain ⟨⟨qZ0, qZ1, qZ2, qZ3, qZ4⟩, uZ0, uZ1, uZ2, uZ3, uZ4⟩ := XZ_y.out
        go_simp
        refine hK.out _ _ ?_ (fun hNew => ?_)
        · exact (At5.far5 Xx_y.out (Q := w.heap.size) (by have := hs1.out; have := hs2.out; have := hB0.out; have := hs3.out; have := hsy.out; omega) _ _ _ _ _).1
        clear hK K hHeld
        have hHeld := hNew
        clear hNew
        try simp only [Act.put, List.setIfInBounds_toArray, List.set_cons_zero, List.set_cons_succ]
        refine wpAnyH_ready (rs := [9]) (by kernel_rfl) (by simp) ?_
        refine AllReadyH.cons rfl (fun K hK => ?_) (AllReadyH.nil)
        go_simp
        refine hK.out _ _ ?_ (fun hNew => ?_)
        · exact hHeld
        clear hK K hHeld
        have hHeld := hNew
        clear hNew
        try simp only [Act.put, List.setIfInBounds_toArray, List.set_cons_zero, List.set_cons_succ]
        refine takeH (i := 11) (v := ?_) rfl rfl (by kernel_rfl) (by kernel_rfl) (by kernel_rfl) (fun _ _ _ h => h) (by rfl) ?_ (by assumption) ?_
        rotate_left 1
        · intro w hSw
          (try dsimp only at hSw)
          go_simp
          try with_reducible rfl
        try simp only [List.setIfInBounds_toArray, List.set_cons_zero, List.set_cons_succ]
        refine wpAnyH_done (by kernel_rfl) ?_ _
        have HF := Lib.hid (dd_fin (w := w) (.int .i64 fx) (.int .i64 bx) (.int .i64 lx) Oxp_y.out Bxp.out Oxm_y.out Bxm.out XZ_y.out (by have := hs1.out; have := hs2.out; have := hB0.out; have := hs3.out; have := hs4.out; have := hs5.out; omega) (by have := hs1.out; have := hs2.out; have := hB0.out; have := hs3.out; have := hs4.out; have := hs5.out; omega) HBy.out (Nat.le_refl _))
        clear hHeld
        go_wp2_with fail
        have HG := HF.out
        generalize hX : set5 wy w.heap.size (.int .i64 fx) (.int .i64 bx) (.slice axp Px.length cxp) (.int .i64 lx) (.slice (some ⟨bz, oz, none⟩) Mx.length cxm) = wF at HG
        unfold set5 at hX
        rw [hX]
        obtain ⟨⟨⟨g0, g1, g2, g3, g4⟩, _⟩, gO, gB⟩ := HG
        exact bodyPost_ret (v := .tuple #[.agg #[.int .i64 fx, .int .i64 bx, .slice axp Px.length cxp, .int .i64 lx, .slice (some ⟨bz, oz, none⟩) Mx.length cxm], .int .i64 ez]) (by simp [results, Tryd.results27, go_sem, g0, g1, g2, g3, g4]) rfl ⟨fx, bx, lx, Px, Mx, _, _, _, rfl, ⟨by omega, by omega⟩, gO, gB⟩
    · have hy' : (y == 0) = false := by simpa using hy
      obtain ⟨⟨qZ0, qZ1, qZ2, qZ3, qZ4⟩, _⟩ := XZ_5.out
      obtain ⟨⟨qx0, qx1, qx2, qx3, qx4⟩, _⟩ := Xx_5.out
      go_wp2_with fail
      clear qZ0 qZ1 qZ2 qZ3 qZ4
      clear qx0 qx1 qx2 qx3 qx4
      refine wp_region_held_drew (S := fun W => W.cell? ⟨w3.heap.size, 0, none⟩ = some (.int .i64 fx) ∧ W.cell? ⟨w3.heap.size, 1, none⟩ = some (.int .i64 bx) ∧ W.cell? ⟨w3.heap.size, 2, none⟩ = some (.slice axp (Px).length cxp) ∧ W.cell? ⟨w3.heap.size, 3, none⟩ = some (.int .i64 lx) ∧ W.cell? ⟨w3.heap.size, 4, none⟩ = some (.slice axm (Mx).length cxm)) (by kernel_rfl) ?_ (fun hHeld => ?_)
      · exact Xx_5.out.drew.1
      refine takeH (i := 0) (v := ?_) rfl rfl (by kernel_rfl) (by kernel_rfl) (by kernel_rfl) (fun _ _ _ h => h) (by rfl) ?_ (by assumption) ?_
      rotate_left 1
      · intro w hSw
        (try dsimp only at hSw)
        go_simp
        try with_reducible rfl
      try simp only [List.setIfInBounds_toArray, List.set_cons_zero, List.set_cons_succ]
      refine takeH (i := 1) (v := ?_) rfl rfl (by kernel_rfl) (by kernel_rfl) (by kernel_rfl) (fun _ _ _ h => h) (by rfl) ?_ (by assumption) ?_
      rotate_left 1
      · intro w hSw
        (try dsimp only at hSw)
        go_simp
        try with_reducible rfl
      try simp only [List.setIfInBounds_toArray, List.set_cons_zero, List.set_cons_succ]
      refine wpAnyH_ready (rs := [2]) (by kernel_rfl) (by simp) ?_
      refine AllReadyH.cons rfl (fun K hK => ?_) (AllReadyH.nil)
      go_simp
      refine (pick_any 11 _ (w1.heap.size) ((qx) + 1) (by omega) (by omega) (rd_drew RD5.out)).mono ?_
      rintro en wy ⟨z, z0, z1, rfl, hr, hg⟩
      have HBy := Lib.hid (below_only HB5.out.drew hg HB5.out.size hlB.out)
      have hsy := Lib.hid hg.size
      have Oxp_y := Lib.hid (World.ownsRow.kept Oxp_5.out.drew hg (rd_apart Bxp.out (by have := hs1.out; have := hs2.out; have := hB0.out; have := hs3.out; have := hs4.out; have := hs5.out; omega)))
      have Oxm_y := Lib.hid (World.ownsRow.kept Oxm_5.out.drew hg (rd_apart Bxm.out (by have := hs1.out; have := hs2.out; have := hB0.out; have := hs3.out; have := hs4.out; have := hs5.out; omega)))
      have XZ_y := Lib.hid (At5.only XZ_5.out.drew hg (by have := hs1.out; have := hs2.out; have := hB0.out; have := hs3.out; have := hs4.out; have := hs5.out; simp; omega))
      have Xx_y := Lib.hid (At5.only Xx_5.out.drew hg (by have := hs1.out; have := hs2.out; have := hB0.out; have := hs3.out; have := hs4.out; have := hs5.out; simp; omega))
      have RDy := Lib.hid hr
      go_wp2_with fail
      refine hK.out _ _ ?_ (fun hNew => ?_)
      · exact Xx_y.out.1
      clear hK K hHeld
      have hHeld := hNew
      clear hNew
      try simp only [Act.put, List.setIfInBounds_toArray, List.set_cons_zero, List.set_cons_succ]
      refine wpAnyH_ready (rs := [3]) (by kernel_rfl) (by simp) ?_
      refine AllReadyH.cons rfl (fun K hK => ?_) (AllReadyH.nil)
      obtain ⟨⟨qZ0, qZ1, qZ2, qZ3, qZ4⟩, uZ0, uZ1, uZ2, uZ3, uZ4⟩ := XZ_y.out
      go_simp
      refine hK.out _ _ ?_ (fun hNew => ?_)
      · exact (At5.far5 Xx_y.out (Q := w.heap.size) (by have := hs1.out; have := hs2.out; have := hB0.out; have := hs3.out; have := hsy.out; omega) _ _ _ _ _).1
      clear hK K hHeld
      have hHeld := hNew
      clear hNew
      try simp only [Act.put, List.setIfInBounds_toArray, List.set_cons_zero, List.set_cons_succ]
      refine takeH (i := 4) (v := ?_) rfl rfl (by kernel_rfl) (by kernel_rfl) (by kernel_rfl) (fun _ _ _ h => h) (by rfl) ?_ (by assumption) ?_
      rotate_left 1
      · intro w hSw
        (try dsimp only at hSw)
        go_simp
        try with_reducible rfl
      try simp only [List.setIfInBounds_toArray, List.set_cons_zero, List.set_cons_succ]
      refine wpAnyH_done (by kernel_rfl) ?_ _
      have HF := Lib.hid (dd_fin (w := w) (.int .i64 fx) (.int .i64 bx) (.int .i64 lx) Oxp_y.out Bxp.out Oxm_y.out Bxm.out XZ_y.out (by have := hs1.out; have := hs2.out; have := hB0.out; have := hs3.out; have := hs4.out; have := hs5.out; omega) (by have := hs1.out; have := hs2.out; have := hB0.out; have := hs3.out; have := hs4.out; have := hs5.out; omega) HBy.out (Nat.le_refl _))
      clear hHeld
      go_wp2_with fail
      have HG := HF.out
      generalize hX : set5 wy w.heap.size (.int .i64 fx) (.int .i64 bx) (.slice axp Px.length cxp) (.int .i64 lx) (.slice axm Mx.length cxm) = wF at HG
      unfold set5 at hX
      rw [hX]
      obtain ⟨⟨⟨g0, g1, g2, g3, g4⟩, _⟩, gO, gB⟩ := HG
      exact bodyPost_ret (v := .tuple #[.agg #[.int .i64 fx, .int .i64 bx, .slice axp Px.length cxp, .int .i64 lx, .slice axm Mx.length cxm], .int .i64 z]) (by simp [results, Tryd.results27, go_sem, g0, g1, g2, g3, g4]) rfl ⟨fx, bx, lx, Px, Mx, _, _, _, rfl, ⟨by omega, by omega⟩, gO, gB⟩
  · have hM1 : ¬ (0 : Int) < (Mx.length : Int) := by omega
    have RD4 := Lib.hid (rd_alloc RD3.out (.cells #[.int .i64 fx, .int .i64 bx, .slice axp (Px).length cxp, .int .i64 lx, .slice axm (Mx).length cxm] 27))
    have HB4 := Lib.hid (HB3.out.alloc HB3.out.size (.cells #[.int .i64 fx, .int .i64 bx, .slice axp (Px).length cxp, .int .i64 lx, .slice axm (Mx).length cxm] 27))
    have hs4 := Lib.hid (show w3.heap.size + 1 = (w3.alloc (.cells #[.int .i64 fx, .int .i64 bx, .slice axp (Px).length cxp, .int .i64 lx, .slice axm (Mx).length cxm] 27)).heap.size by simp)
    have Oxp_4 := Lib.hid (World.ownsRow.alloc Oxp_3.out (.cells #[.int .i64 fx, .int .i64 bx, .slice axp (Px).length cxp, .int .i64 lx, .slice axm (Mx).length cxm] 27))
    have Oxm_4 := Lib.hid (World.ownsRow.alloc Oxm_3.out (.cells #[.int .i64 fx, .int .i64 bx, .slice axp (Px).length cxp, .int .i64 lx, .slice axm (Mx).length cxm] 27))
    have XZ_4 := Lib.hid (At5.alloc XZ_3.out (.cells #[.int .i64 fx, .int .i64 bx, .slice axp (Px).length cxp, .int .i64 lx, .slice axm (Mx).length cxm] 27))
    have Xx_4 := Lib.hid (At5.new w3 (.int .i64 fx) (.int .i64 bx) (.slice axp (Px).length cxp) (.int .i64 lx) (.slice axm (Mx).length cxm) 27)
    obtain ⟨⟨qZ0, qZ1, qZ2, qZ3, qZ4⟩, _⟩ := XZ_4.out
    go_wp2_with fail
    clear qZ0 qZ1 qZ2 qZ3 qZ4
    generalize w3.alloc (.cells #[.int .i64 fx, .int .i64 bx, .slice axp (Px).length cxp, .int .i64 lx, .slice axm (Mx).length cxm] 27) = w4 at *
    refine wp_region_held_drew (S := fun W => W.cell? ⟨w3.heap.size, 0, none⟩ = some (.int .i64 fx) ∧ W.cell? ⟨w3.heap.size, 1, none⟩ = some (.int .i64 bx) ∧ W.cell? ⟨w3.heap.size, 2, none⟩ = some (.slice axp (Px).length cxp) ∧ W.cell? ⟨w3.heap.size, 3, none⟩ = some (.int .i64 lx) ∧ W.cell? ⟨w3.heap.size, 4, none⟩ = some (.slice axm (Mx).length cxm)) (by kernel_rfl) ?_ (fun hHeld => ?_)
    · exact Xx_4.out.drew.1
    refine takeH (i := 0) (v := ?_) rfl rfl (by kernel_rfl) (by kernel_rfl) (by kernel_rfl) (fun _ _ _ h => h) (by rfl) ?_ (by assumption) ?_
    rotate_left 1
    · intro w hSw
      (try dsimp only at hSw)
      go_simp
      try with_reducible rfl
    try simp only [List.setIfInBounds_toArray, List.set_cons_zero, List.set_cons_succ]
    refine takeH (i := 1) (v := ?_) rfl rfl (by kernel_rfl) (by kernel_rfl) (by kernel_rfl) (fun _ _ _ h => h) (by rfl) ?_ (by assumption) ?_
    rotate_left 1
    · intro w hSw
      (try dsimp only at hSw)
      go_simp
      try with_reducible rfl
    try simp only [List.setIfInBounds_toArray, List.set_cons_zero, List.set_cons_succ]
    refine wpAnyH_ready (rs := [2]) (by kernel_rfl) (by simp) ?_
    refine AllReadyH.cons rfl (fun K hK => ?_) (AllReadyH.nil)
    go_simp
    refine (pick_any 11 _ (w1.heap.size) (qx) (by omega) (by omega) (rd_drew RD4.out)).mono ?_
    rintro en wy ⟨z, z0, z1, rfl, hr, hg⟩
    have HBy := Lib.hid (below_only HB4.out.drew hg HB4.out.size hlB.out)
    have hsy := Lib.hid hg.size
    have Oxp_y := Lib.hid (World.ownsRow.kept Oxp_4.out.drew hg (rd_apart Bxp.out (by have := hs1.out; have := hs2.out; have := hB0.out; have := hs3.out; have := hs4.out; omega)))
    have Oxm_y := Lib.hid (World.ownsRow.kept Oxm_4.out.drew hg (rd_apart Bxm.out (by have := hs1.out; have := hs2.out; have := hB0.out; have := hs3.out; have := hs4.out; omega)))
    have XZ_y := Lib.hid (At5.only XZ_4.out.drew hg (by have := hs1.out; have := hs2.out; have := hB0.out; have := hs3.out; have := hs4.out; simp; omega))
    have Xx_y := Lib.hid (At5.only Xx_4.out.drew hg (by have := hs1.out; have := hs2.out; have := hB0.out; have := hs3.out; have := hs4.out; simp; omega))
    have RDy := Lib.hid hr
    go_wp2_with fail
    refine hK.out _ _ ?_ (fun hNew => ?_)
    · exact Xx_y.out.1
    clear hK K hHeld
    have hHeld := hNew
    clear hNew
    try simp only [Act.put, List.setIfInBounds_toArray, List.set_cons_zero, List.set_cons_succ]
    refine wpAnyH_ready (rs := [3]) (by kernel_rfl) (by simp) ?_
    refine AllReadyH.cons rfl (fun K hK => ?_) (AllReadyH.nil)
    obtain ⟨⟨qZ0, qZ1, qZ2, qZ3, qZ4⟩, uZ0, uZ1, uZ2, uZ3, uZ4⟩ := XZ_y.out
    go_simp
    refine hK.out _ _ ?_ (fun hNew => ?_)
    · exact (At5.far5 Xx_y.out (Q := w.heap.size) (by have := hs1.out; have := hs2.out; have := hB0.out; have := hs3.out; have := hsy.out; omega) _ _ _ _ _).1
    clear hK K hHeld
    have hHeld := hNew
    clear hNew
    try simp only [Act.put, List.setIfInBounds_toArray, List.set_cons_zero, List.set_cons_succ]
    refine takeH (i := 4) (v := ?_) rfl rfl (by kernel_rfl) (by kernel_rfl) (by kernel_rfl) (fun _ _ _ h => h) (by rfl) ?_ (by assumption) ?_
    rotate_left 1
    · intro w hSw
      (try dsimp only at hSw)
      go_simp
      try with_reducible rfl
    try simp only [List.setIfInBounds_toArray, List.set_cons_zero, List.set_cons_succ]
    refine wpAnyH_done (by kernel_rfl) ?_ _
    have HF := Lib.hid (dd_fin (w := w) (.int .i64 fx) (.int .i64 bx) (.int .i64 lx) Oxp_y.out Bxp.out Oxm_y.out Bxm.out XZ_y.out (by have := hs1.out; have := hs2.out; have := hB0.out; have := hs3.out; have := hs4.out; omega) (by have := hs1.out; have := hs2.out; have := hB0.out; have := hs3.out; have := hs4.out; omega) HBy.out (Nat.le_refl _))
    clear hHeld
    go_wp2_with fail
    have HG := HF.out
    generalize hX : set5 wy w.heap.size (.int .i64 fx) (.int .i64 bx) (.slice axp Px.length cxp) (.int .i64 lx) (.slice axm Mx.length cxm) = wF at HG
    unfold set5 at hX
    rw [hX]
    obtain ⟨⟨⟨g0, g1, g2, g3, g4⟩, _⟩, gO, gB⟩ := HG
    exact bodyPost_ret (v := .tuple #[.agg #[.int .i64 fx, .int .i64 bx, .slice axp Px.length cxp, .int .i64 lx, .slice axm Mx.length cxm], .int .i64 z]) (by simp [results, Tryd.results27, go_sem, g0, g1, g2, g3, g4]) rfl ⟨fx, bx, lx, Px, Mx, _, _, _, rfl, ⟨by omega, by omega⟩, gO, gB⟩

end Go.Proofs.YtfjfcdifnfffbaaDoor
