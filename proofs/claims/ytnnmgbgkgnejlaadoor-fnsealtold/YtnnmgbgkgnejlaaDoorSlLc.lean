/-
  The law that a route that is told on is sealed, if it was, by one seal more: the walk.
-/
import Derived.Test.YtnnmgbgkgnejlaaDoorSlBu
namespace Go.Proofs.YtnnmgbgkgnejlaaDoor
open Go.RowKit
set_option linter.unusedSimpArgs false
set_option linter.unusedVariables false

set_option maxRecDepth 100000 in
set_option maxHeartbeats 4000000 in
theorem lawSealTold (a0 : Option Addr) (len0 cap0 : Nat) (zs0 : List Int) (a1 : Option Addr) (len1 cap1 : Nat) (zs1 : List Int) (w : World) (h0 : IsRow w a0 len0 cap0 zs0) (h1 : IsRow w a1 len1 cap1 zs1) (p : Addr) (hE : EV w p) (hT : PowS w) :
    Calls Tryd.prog 11 #[.slice a0 len0 cap0, .slice a1 len1 cap1] w fun e w' => e = .returned (.bool true) ∧ Below w.heap.size w w' := by
  have H0 := Lib.hid h0
  have HE := Lib.hid hE
  have HT := Lib.hid hT
  clear h0 hE hT h1
  by_cases hl0 : (1048576 : Int) < (len0 : Int)
  · go_enter Tryd.func11, Tryd.ntmps11
    go_wp2_with fail
    go_ret
    exact ⟨rfl, Below.refl _ _⟩
  by_cases hl1 : (1048576 : Int) < (len1 : Int)
  · go_enter Tryd.func11, Tryd.ntmps11
    go_wp2_with fail
    go_ret
    exact ⟨rfl, Below.refl _ _⟩
  go_enter Tryd.func11, Tryd.ntmps11
  go_wp2_with fail
  refine (drO_any a0 len0 cap0 zs0 _ H0.out).mono ?_
  rintro en w1 ⟨f, b, l, t, P, M, a, c, d, e, al, cl, L, ah, ch, H, rfl, ⟨hlH, hlL, hlP, hlM, t0, t6⟩, ⟨hch, hcl⟩, hW, oH, oL, sA, hm, b1⟩
  have H1 := Lib.hid (And.intro oH (And.intro oL (And.intro sA (And.intro hm b1))))
  have HW := Lib.hid hW
  clear oH oL sA hm b1 hW
  go_wp2_with (refine wpList_stY rfl 27 _ _ rfl w1.heap.size #[.int .i64 f, .int .i64 b, .slice a P.length c, .int .i64 l, .slice d M.length e] ?x1 ?y1 ?o1 ?i1 _ (AtY.new5 w1 _ _ _ _ _ _) rfl ?g1)
  try case x1 => simp [Act.eval]
  try case y1 => simp [Act.eval]
  try case o1 => simp [Value.oneCell']
  try case i1 => rfl
  intro w2 a2 g2
  have HS := Lib.hid (Sg.mk' H1.out.2.2.2.2 H1.out.2.2.2.1 HE.out HT.out H1.out.1 H1.out.2.1 H1.out.2.2.1 a2 g2)
  clear a2 g2 H1
  obtain ⟨q0, q1, q2, q3, q4⟩ := HS.out.sm.box.five
  obtain ⟨ok, hok⟩ : ∃ ok, decide (lackM H L f b P l M t = 0) = ok := ⟨_, rfl⟩
  have HOK := Lib.hid hok
  clear hok
  go_wp2_with fail
  refine (isealok_is H L HW.out ah al ch cl f b a c P l d e M t HOK.out _ p HS.out.hv (by omega) HS.out.sl (by omega) HS.out.sm.rt HS.out.sm.ev HS.out.sm.pw).mono ?_
  rintro en w3 ⟨rfl, b3⟩
  have HS3 := Lib.hid (HS.out.go b3)
  clear b3 q0 q1 q2 q3 q4 HS
  obtain ⟨q0, q1, q2, q3, q4⟩ := HS3.out.sm.box.five
  go_wp2_with fail
  refine (sealok_is H L ah al ch cl f b a c P l d e M t HOK.out _ HS3.out.hv (by omega) HS3.out.sl (by omega) HS3.out.sm.rt).mono ?_
  rintro en w4 ⟨rfl, b4⟩
  have HS4 := Lib.hid (HS3.out.go b4)
  clear b4 q0 q1 q2 q3 q4 HS3
  obtain ⟨q0, q1, q2, q3, q4⟩ := HS4.out.sm.box.five
  cases ok with
  | false =>
    go_wp2_with fail
    refine (sealok_is H L ah al ch cl f b a c P l d e M t HOK.out _ HS4.out.hv (by omega) HS4.out.sl (by omega) HS4.out.sm.rt).mono ?_
    rintro en w5 ⟨rfl, b5⟩
    have HS5 := Lib.hid (HS4.out.go b5)
    clear b5
    go_wp2_with fail
    go_ret
    exact ⟨rfl, HS5.out.sm.bel⟩
  | true =>
    have HLK := Lib.hid (of_decide_eq_true HOK.out)
    have HTL := Lib.hid (lackM_zero.1 HLK.out).1
    obtain ⟨N, hN⟩ : ∃ N : Nat, (len1 : Int) % 5 = (N : Int) ∧ N ≤ 4 := ⟨len1 % 5, by omega, by omega⟩
    obtain ⟨hN, hN4⟩ := hN
    have htm : (len1 : Int).tmod 5 = (N : Int) := by rw [Int.tmod_eq_emod_of_nonneg (by omega)]; exact hN
    obtain ⟨Q, hQ⟩ : ∃ Q, 1 + (N : Int) = Q := ⟨_, rfl⟩
    have hQ1 : 1 ≤ Q ∧ Q ≤ 5 := by omega
    have hwr : IntKind.i64.wrap (1 + (N : Int)) = Q := by rw [IntKind.wrap_i64]; omega
    have htr := Lib.hid (tellB_rt HTL.out)
    have hpd : padd P t = (t :: P, true) := by
      have g := ((rtOk_iff _).1 htr.out.1).path
      unfold padd
      rw [if_pos (pOk_yes (path_cons.2 ⟨htr.out.2.1, htr.out.2.2, g⟩))]
    go_wp2_with fail
    refine (iadd_is hpd a c _ _ p rfl (by omega) HS4.out.sm.rt.1.1 HS4.out.sm.ev).mono ?_
    rintro en w5 ⟨v5, rfl, o5, b5⟩
    replace o5 : OwnI w5 w4.heap.size v5 (t :: P) := o5
    obtain ⟨pa, pc, rfl, _, _⟩ := OwnI.tab o5
    have HS5 := Lib.hid (HS4.out.go b5)
    have HP5 := Lib.hid (OwnI.intA o5)
    clear b5 o5 q0 q1 q2 q3 q4 HS4 hpd
    obtain ⟨z, hz⟩ : ∃ z, decide (Q ∈ t :: P) = z := ⟨_, rfl⟩
    have HZ := Lib.hid hz
    obtain ⟨PP, hPP⟩ : ∃ PP, t :: P = PP := ⟨_, rfl⟩
    have HPP := Lib.hid hPP
    have hlPP : PP.length ≤ 7 := by rw [← hPP]; simp; omega
    rw [hPP] at HP5 HZ ⊢
    clear hz hPP
    obtain ⟨q0, q1, q2, q3, q4⟩ := HS5.out.sm.box.five
    try rw [hwr]
    go_wp2_with fail
    refine (lyIn_is HZ.out pa pc _ _ rfl HP5.out.2.2 (by omega)).mono ?_
    rintro en wq ⟨rfl, rfl⟩
    cases z with
    | true =>
      go_wp2_with fail
      go_ret
      exact ⟨rfl, HS5.out.sm.bel⟩
    | false =>
      have HZN := Lib.hid (of_decide_eq_false HZ.out)
      go_upto_region 12 with (refine wpList_stY rfl 27 _ _ rfl w5.heap.size #[.int .i64 f, .int .i64 b, .slice pa PP.length pc, .int .i64 0, .slice none 0 0] ?x2 ?y2 ?o2 ?i2 _ (AtY.new5 w5 _ _ _ _ _ _) rfl ?g2)
      try case x2 => simp [Act.eval]
      try case y2 => simp [Act.eval]
      try case o2 => simp [Value.oneCell']
      try case i2 => rfl
      intro w6 a6 g6
      have b6 : Below w5.heap.size w5 w6 := ((Below.refl w5.heap.size w5).alloc (Nat.le_refl _) _).grown g6 (by simp) (fun k hk => by cases hk; exact Nat.le_refl _)
      have HS6 := Lib.hid (HS5.out.go b6)
      have A6 := Lib.hid a6
      have P6 := Lib.hid (IntA.below HP5.out.2.2 b6)
      clear a6 g6 b6 q0 q1 q2 q3 q4
      go_upto_region 12 with fail
      have HQC := Lib.hid HS6.out.sm.box.five
      have HSC := Lib.hid HS6.out.ll
      have HNW := Lib.hid (show SpW (SV.p ⟨t, Q, f, b, pa, pc, PP⟩) from (by
        obtain ⟨h1, h2, _⟩ := htr.out
        have g := (rtOk_iff _).1 h1
        have gp : Path P := g.path
        have hk := (okB_iff f b).1 g.ran
        refine ⟨by simp [SV.p, Iv]; omega, by simp [SV.p, Iv]; omega, by simp [SV.p, Iv]; omega, by simp [SV.p, Iv]; omega, fun y hy => ?_⟩
        rw [show (SV.p ⟨t, Q, f, b, pa, pc, PP⟩).P = PP from rfl, ← HPP.out] at hy
        rcases List.mem_cons.1 hy with rfl | q
        · unfold Iv; omega
        · have := gp.1 y q; unfold Iv; omega))
      refine wp_region_held_drew (S := fun Wx => (Wx.cell? ⟨w1.heap.size, 0, none⟩ = some (.int .i64 f) ∧ Wx.cell? ⟨w1.heap.size, 1, none⟩ = some (.int .i64 b) ∧ Wx.cell? ⟨w1.heap.size, 2, none⟩ = some (.slice a P.length c) ∧ Wx.cell? ⟨w1.heap.size, 3, none⟩ = some (.int .i64 l) ∧ Wx.cell? ⟨w1.heap.size, 4, none⟩ = some (.slice d M.length e)) ∧ Hid True) (by kernel_rfl) ?_ (fun hHeld => ?_)
      · exact ⟨HQC.out, Lib.hid trivial⟩
      refine takeH (i := 1) (v := ?_) rfl rfl (by kernel_rfl) (by kernel_rfl) (by kernel_rfl) (fun _ _ _ h => h) (by rfl) ?_ (by assumption) ?_
      rotate_left 1
      · intro w hSw
        (try dsimp only at hSw)
        go_simp
        try with_reducible rfl
      try simp only [List.setIfInBounds_toArray, List.set_cons_zero, List.set_cons_succ]
      refine takeH (i := 3) (v := ?_) rfl rfl (by kernel_rfl) (by kernel_rfl) (by kernel_rfl) (fun _ _ _ h => h) (by rfl) ?_ (by assumption) ?_
      rotate_left 1
      · intro w hSw
        (try dsimp only at hSw)
        go_simp
        try with_reducible rfl
      try simp only [List.setIfInBounds_toArray, List.set_cons_zero, List.set_cons_succ]
      refine takeH (i := 4) (v := ?_) rfl rfl (by kernel_rfl) (by kernel_rfl) (by kernel_rfl) (fun _ _ _ h => h) (by rfl) ?_ (by assumption) ?_
      rotate_left 1
      · intro w hSw
        (try dsimp only at hSw)
        go_simp
        try with_reducible rfl
      try simp only [List.setIfInBounds_toArray, List.set_cons_zero, List.set_cons_succ]
      refine takeH (i := 5) (v := ?_) rfl rfl (by kernel_rfl) (by kernel_rfl) (by kernel_rfl) (fun _ _ _ h => h) (by rfl) ?_ (by assumption) ?_
      rotate_left 1
      · intro w hSw
        (try dsimp only at hSw)
        go_simp
        try with_reducible rfl
      try simp only [List.setIfInBounds_toArray, List.set_cons_zero, List.set_cons_succ]
      refine takeH (i := 6) (v := ?_) rfl rfl (by kernel_rfl) (by kernel_rfl) (by kernel_rfl) (fun _ _ _ h => h) (by rfl) ?_ (by assumption) ?_
      rotate_left 1
      · intro w hSw
        (try dsimp only at hSw)
        go_simp
        try with_reducible rfl
      try simp only [List.setIfInBounds_toArray, List.set_cons_zero, List.set_cons_succ]
      refine takeH (i := 7) (v := ?_) rfl rfl (by kernel_rfl) (by kernel_rfl) (by kernel_rfl) (fun _ _ _ h => h) (by rfl) ?_ (by assumption) ?_
      rotate_left 1
      · intro w hSw
        (try dsimp only at hSw)
        go_simp
        try with_reducible rfl
      try simp only [List.setIfInBounds_toArray, List.set_cons_zero, List.set_cons_succ]
      refine takeH (i := 8) (v := ?_) rfl rfl (by kernel_rfl) (by kernel_rfl) (by kernel_rfl) (fun _ _ _ h => h) (by rfl) ?_ (by assumption) ?_
      rotate_left 1
      · intro w hSw
        (try dsimp only at hSw)
        go_simp
        try with_reducible rfl
      try simp only [List.setIfInBounds_toArray, List.set_cons_zero, List.set_cons_succ]
      refine wpAnyH_ready (rs := [0, 9]) (by kernel_rfl) (by simp) ?_
      refine AllReadyH.cons rfl (fun K hK => ?_) (AllReadyH.cons rfl (fun K hK => ?_) (AllReadyH.nil))
      · go_simp
        have be1 : Below w6.drew.heap.size w6.drew ((w6.alloc (.cells #[] 34)).drew) := (show Below w6.drew.heap.size w6.drew (w6.drew.alloc (.cells #[] 34)) from (Below.refl _ _).alloc (Nat.le_refl _) _)
        have E1 := Lib.hid (show OwnSl ((w6.alloc (.cells #[] 34)).drew) w6.heap.size (.slice (some ⟨w6.heap.size, 0, none⟩) 0 0) [] from (show OwnSl (w6.drew.alloc (.cells #[] 34)) w6.heap.size (.slice (some ⟨w6.drew.heap.size, 0, none⟩) 0 0) [] from (slr_empty w6.drew w6.heap.size (Nat.le_refl _)).row))
        have BB1 := Lib.hid (next ((Below.refl w6.heap.size w6).drew) be1)
        have hsz1 : w6.heap.size + 1 ≤ ((w6.alloc (.cells #[] 34)).drew).heap.size := (by simp)
        generalize (w6.alloc (.cells #[] 34)).drew = wz1 at *
        refine hK.out _ _ ?_ (fun hNew => ?_)
        · exact ⟨⟨cell_later be1 hHeld.1.1, cell_later be1 hHeld.1.2.1, cell_later be1 hHeld.1.2.2.1, cell_later be1 hHeld.1.2.2.2.1, cell_later be1 hHeld.1.2.2.2.2⟩, Lib.hid trivial⟩
        clear hK K hHeld
        have hHeld := hNew
        clear hNew
        try simp only [Act.put, List.setIfInBounds_toArray, List.set_cons_zero, List.set_cons_succ]
        refine wpAnyH_ready (rs := [2, 9]) (by kernel_rfl) (by simp) ?_
        refine AllReadyH.cons rfl (fun K hK => ?_) (AllReadyH.cons rfl (fun K hK => ?_) (AllReadyH.nil))
        · refine wp_appS (.tmp 76) (.tmp 77) rfl w6.heap.size (.slice (some ⟨w6.heap.size, 0, none⟩) 0 0) [] (by simp [Act.eval]) E1.out al L.length cl L rfl (by simp [Act.eval]) (HSC.out.below BB1.out) hcl (by simp; omega) BB1.out.size ?_
          intro v2 w902 own2 grow2
          replace own2 : OwnSl w902 w6.heap.size v2 L := own2
          have bq2 : Below w6.heap.size w6 w902 := below_app BB1.out E1.out (Nat.le_refl _) grow2
          obtain ⟨xa2, xc2, rfl, _⟩ := OwnSl.tab own2
          have O2 := Lib.hid own2
          have BB2 := Lib.hid bq2
          clear own2 grow2
          generalize hw2 : w902 = wz2 at *
          clear hw2
          show K (Act.put _ (some 78) _) wz2
          refine hK.out _ _ ?_ (fun hNew => ?_)
          · exact ⟨⟨cell_later bq2 HQC.out.1, cell_later bq2 HQC.out.2.1, cell_later bq2 HQC.out.2.2.1, cell_later bq2 HQC.out.2.2.2.1, cell_later bq2 HQC.out.2.2.2.2⟩, Lib.hid trivial⟩
          clear hK K hHeld
          have hHeld := hNew
          clear hNew
          try simp only [Act.put, List.setIfInBounds_toArray, List.set_cons_zero, List.set_cons_succ]
          refine wpAnyH_ready (rs := [9]) (by kernel_rfl) (by simp) ?_
          refine AllReadyH.cons rfl (fun K hK => ?_) (AllReadyH.nil)
          go_simp
          have be3 : Below wz2.heap.size wz2 (wz2.alloc (.cells #[.int .i64 t, .int .i64 Q, .int .i64 f, .int .i64 b, .slice pa PP.length pc] 34)) := (Below.refl _ _).alloc (Nat.le_refl _) _
          have O3 := Lib.hid (ownsl_later O2.out be3)
          have N3 := Lib.hid (sll_one wz2 t Q f b pa pc PP)
          have BB3 := Lib.hid (next BB2.out be3)
          generalize wz2.alloc (.cells #[.int .i64 t, .int .i64 Q, .int .i64 f, .int .i64 b, .slice pa PP.length pc] 34) = wz3 at *
          refine hK.out _ _ ?_ (fun hNew => ?_)
          · exact ⟨⟨cell_later be3 hHeld.1.1, cell_later be3 hHeld.1.2.1, cell_later be3 hHeld.1.2.2.1, cell_later be3 hHeld.1.2.2.2.1, cell_later be3 hHeld.1.2.2.2.2⟩, Lib.hid trivial⟩
          clear hK K hHeld
          have hHeld := hNew
          clear hNew
          try simp only [Act.put, List.setIfInBounds_toArray, List.set_cons_zero, List.set_cons_succ]
          refine wpAnyH_ready (rs := [10]) (by kernel_rfl) (by simp) ?_
          refine AllReadyH.cons rfl (fun K hK => ?_) (AllReadyH.nil)
          refine wp_appS (.tmp 78) (.tmp 85) rfl w6.heap.size (.slice xa2 L.length xc2) L (by simp [Act.eval]) O3.out (some ⟨wz2.heap.size, 0, none⟩) 1 1 [⟨t, Q, f, b, pa, pc, PP⟩] rfl (by simp [Act.eval]) N3.out (Nat.le_refl _) (by simp; omega) BB3.out.size ?_
          intro v4 w904 own4 grow4
          have bq4 : Below w6.heap.size w6 w904 := below_app BB3.out O3.out (Nat.le_refl _) grow4
          obtain ⟨L2, hL2⟩ : ∃ L2 : List SV, L ++ [(⟨t, Q, f, b, pa, pc, PP⟩ : SV)] = L2 := ⟨_, rfl⟩
          have hl2 : L2.length = L.length + 1 := (by rw [← hL2]; simp)
          rw [hL2] at own4
          obtain ⟨xa4, xc4, rfl, _⟩ := OwnSl.tab own4
          have HF := Lib.hid (show L ++ [(⟨t, Q, f, b, pa, pc, PP⟩ : SV)] = L2 ∧ OwnSl w904 w6.heap.size (.slice xa4 L2.length xc4) L2 ∧ Below w6.heap.size w6 w904 from ⟨hL2, own4, bq4⟩)
          have HL4 := Lib.hid hl2
          clear own4 grow4 hl2 hL2
          generalize hw4 : w904 = wz4 at *
          clear hw4
          show K (Act.put _ (some 86) _) wz4
          refine hK.out _ _ ?_ (fun hNew => ?_)
          · exact ⟨⟨cell_later bq4 HQC.out.1, cell_later bq4 HQC.out.2.1, cell_later bq4 HQC.out.2.2.1, cell_later bq4 HQC.out.2.2.2.1, cell_later bq4 HQC.out.2.2.2.2⟩, Lib.hid trivial⟩
          clear hK K hHeld
          have hHeld := hNew
          clear hNew
          try simp only [Act.put, List.setIfInBounds_toArray, List.set_cons_zero, List.set_cons_succ]
          refine takeH (i := 11) (v := ?_) rfl rfl (by kernel_rfl) (by kernel_rfl) (by kernel_rfl) (fun _ _ _ h => h) (by rfl) ?_ (by assumption) ?_
          rotate_left 1
          · intro w hSw
            (try dsimp only at hSw)
            go_simp
            try with_reducible rfl
          try simp only [List.setIfInBounds_toArray, List.set_cons_zero, List.set_cons_succ]
          refine wpAnyH_done (by kernel_rfl) ?_ _
          clear hHeld
          have HS7 := Lib.hid (HS6.out.go HF.out.2.2)
          have SA7 := Lib.hid (told_sla HF.out.1 HF.out.2.1 HS7.out.sl.2 ⟨IntA.below P6.out HF.out.2.2, HP5.out.2.1, by show PP.length ≤ 2000000; omega⟩)
          have HW7 := Lib.hid (told_w HF.out.1 HW.out HNW.out)
          have HZ7 := Lib.hid (show decide (lackM H L2 f b PP 0 [] Q = 0) = true from decide_eq_true (by rw [← HF.out.1, ← HPP.out]; exact told_ok HLK.out hQ1 (by rw [HPP.out]; exact HZN.out) (by rw [HPP.out]; rfl)))
          have hl7 : L2.length ≤ 13 := (by have := HL4.out; omega)
          have A7 := Lib.hid (A6.out.below HF.out.2.2)
          obtain ⟨q0, q1, q2, q3, q4⟩ := A7.out.five
          go_wp2_with fail
          refine (isealok_is H L2 HW7.out ah xa4 ch xc4 f b pa pc PP 0 none 0 [] Q HZ7.out _ p HS7.out.hv (by omega) SA7.out (by omega) ⟨⟨IntA.below P6.out HF.out.2.2, .inl rfl⟩, HP5.out.2.1, Nat.le_refl _, by omega, by simp⟩ HS7.out.sm.ev HS7.out.sm.pw).mono ?_
          rintro en w8 ⟨rfl, b8⟩
          have HS8 := Lib.hid (HS7.out.go b8)
          clear b8
          go_wp2_with fail
          go_ret
          exact ⟨rfl, HS8.out.sm.bel⟩
        · go_simp
          have be5 : Below wz1.heap.size wz1 (wz1.alloc (.cells #[.int .i64 t, .int .i64 Q, .int .i64 f, .int .i64 b, .slice pa PP.length pc] 34)) := (Below.refl _ _).alloc (Nat.le_refl _) _
          have E2 := Lib.hid (ownsl_later E1.out be5)
          have N2 := Lib.hid (sll_one wz1 t Q f b pa pc PP)
          have BB2 := Lib.hid (next BB1.out be5)
          generalize wz1.alloc (.cells #[.int .i64 t, .int .i64 Q, .int .i64 f, .int .i64 b, .slice pa PP.length pc] 34) = wz2 at *
          refine hK.out _ _ ?_ (fun hNew => ?_)
          · exact ⟨⟨cell_later be5 hHeld.1.1, cell_later be5 hHeld.1.2.1, cell_later be5 hHeld.1.2.2.1, cell_later be5 hHeld.1.2.2.2.1, cell_later be5 hHeld.1.2.2.2.2⟩, Lib.hid trivial⟩
          clear hK K hHeld
          have hHeld := hNew
          clear hNew
          try simp only [Act.put, List.setIfInBounds_toArray, List.set_cons_zero, List.set_cons_succ]
          refine wpAnyH_ready (rs := [2]) (by kernel_rfl) (by simp) ?_
          refine AllReadyH.cons rfl (fun K hK => ?_) (AllReadyH.nil)
          refine wp_appS (.tmp 76) (.tmp 77) rfl w6.heap.size (.slice (some ⟨w6.heap.size, 0, none⟩) 0 0) [] (by simp [Act.eval]) E2.out al L.length cl L rfl (by simp [Act.eval]) (HSC.out.below BB2.out) hcl (by simp; omega) BB2.out.size ?_
          intro v3 w903 own3 grow3
          replace own3 : OwnSl w903 w6.heap.size v3 L := own3
          have bq3 : Below w6.heap.size w6 w903 := below_app BB2.out E2.out (Nat.le_refl _) grow3
          have N3 := Lib.hid (N2.out.but grow3 (fun bb oo he hr => by simp [Value.ownBlock] at he hr; omega))
          obtain ⟨xa3, xc3, rfl, _⟩ := OwnSl.tab own3
          have O3 := Lib.hid own3
          have BB3 := Lib.hid bq3
          clear own3 grow3
          generalize hw3 : w903 = wz3 at *
          clear hw3
          show K (Act.put _ (some 78) _) wz3
          refine hK.out _ _ ?_ (fun hNew => ?_)
          · exact ⟨⟨cell_later bq3 HQC.out.1, cell_later bq3 HQC.out.2.1, cell_later bq3 HQC.out.2.2.1, cell_later bq3 HQC.out.2.2.2.1, cell_later bq3 HQC.out.2.2.2.2⟩, Lib.hid trivial⟩
          clear hK K hHeld
          have hHeld := hNew
          clear hNew
          try simp only [Act.put, List.setIfInBounds_toArray, List.set_cons_zero, List.set_cons_succ]
          refine wpAnyH_ready (rs := [10]) (by kernel_rfl) (by simp) ?_
          refine AllReadyH.cons rfl (fun K hK => ?_) (AllReadyH.nil)
          refine wp_appS (.tmp 78) (.tmp 85) rfl w6.heap.size (.slice xa3 L.length xc3) L (by simp [Act.eval]) O3.out (some ⟨wz1.heap.size, 0, none⟩) 1 1 [⟨t, Q, f, b, pa, pc, PP⟩] rfl (by simp [Act.eval]) N3.out (Nat.le_refl _) (by simp; omega) BB3.out.size ?_
          intro v4 w904 own4 grow4
          have bq4 : Below w6.heap.size w6 w904 := below_app BB3.out O3.out (Nat.le_refl _) grow4
          obtain ⟨L2, hL2⟩ : ∃ L2 : List SV, L ++ [(⟨t, Q, f, b, pa, pc, PP⟩ : SV)] = L2 := ⟨_, rfl⟩
          have hl2 : L2.length = L.length + 1 := (by rw [← hL2]; simp)
          rw [hL2] at own4
          obtain ⟨xa4, xc4, rfl, _⟩ := OwnSl.tab own4
          have HF := Lib.hid (show L ++ [(⟨t, Q, f, b, pa, pc, PP⟩ : SV)] = L2 ∧ OwnSl w904 w6.heap.size (.slice xa4 L2.length xc4) L2 ∧ Below w6.heap.size w6 w904 from ⟨hL2, own4, bq4⟩)
          have HL4 := Lib.hid hl2
          clear own4 grow4 hl2 hL2
          generalize hw4 : w904 = wz4 at *
          clear hw4
          show K (Act.put _ (some 86) _) wz4
          refine hK.out _ _ ?_ (fun hNew => ?_)
          · exact ⟨⟨cell_later bq4 HQC.out.1, cell_later bq4 HQC.out.2.1, cell_later bq4 HQC.out.2.2.1, cell_later bq4 HQC.out.2.2.2.1, cell_later bq4 HQC.out.2.2.2.2⟩, Lib.hid trivial⟩
          clear hK K hHeld
          have hHeld := hNew
          clear hNew
          try simp only [Act.put, List.setIfInBounds_toArray, List.set_cons_zero, List.set_cons_succ]
          refine takeH (i := 11) (v := ?_) rfl rfl (by kernel_rfl) (by kernel_rfl) (by kernel_rfl) (fun _ _ _ h => h) (by rfl) ?_ (by assumption) ?_
          rotate_left 1
          · intro w hSw
            (try dsimp only at hSw)
            go_simp
            try with_reducible rfl
          try simp only [List.setIfInBounds_toArray, List.set_cons_zero, List.set_cons_succ]
          refine wpAnyH_done (by kernel_rfl) ?_ _
          clear hHeld
          have HS7 := Lib.hid (HS6.out.go HF.out.2.2)
          have SA7 := Lib.hid (told_sla HF.out.1 HF.out.2.1 HS7.out.sl.2 ⟨IntA.below P6.out HF.out.2.2, HP5.out.2.1, by show PP.length ≤ 2000000; omega⟩)
          have HW7 := Lib.hid (told_w HF.out.1 HW.out HNW.out)
          have HZ7 := Lib.hid (show decide (lackM H L2 f b PP 0 [] Q = 0) = true from decide_eq_true (by rw [← HF.out.1, ← HPP.out]; exact told_ok HLK.out hQ1 (by rw [HPP.out]; exact HZN.out) (by rw [HPP.out]; rfl)))
          have hl7 : L2.length ≤ 13 := (by have := HL4.out; omega)
          have A7 := Lib.hid (A6.out.below HF.out.2.2)
          obtain ⟨q0, q1, q2, q3, q4⟩ := A7.out.five
          go_wp2_with fail
          refine (isealok_is H L2 HW7.out ah xa4 ch xc4 f b pa pc PP 0 none 0 [] Q HZ7.out _ p HS7.out.hv (by omega) SA7.out (by omega) ⟨⟨IntA.below P6.out HF.out.2.2, .inl rfl⟩, HP5.out.2.1, Nat.le_refl _, by omega, by simp⟩ HS7.out.sm.ev HS7.out.sm.pw).mono ?_
          rintro en w8 ⟨rfl, b8⟩
          have HS8 := Lib.hid (HS7.out.go b8)
          clear b8
          go_wp2_with fail
          go_ret
          exact ⟨rfl, HS8.out.sm.bel⟩
      · go_simp
        have be1 : Below w6.drew.heap.size w6.drew ((w6.alloc (.cells #[.int .i64 t, .int .i64 Q, .int .i64 f, .int .i64 b, .slice pa PP.length pc] 34)).drew) := (show Below w6.drew.heap.size w6.drew (w6.drew.alloc (.cells #[.int .i64 t, .int .i64 Q, .int .i64 f, .int .i64 b, .slice pa PP.length pc] 34)) from (Below.refl _ _).alloc (Nat.le_refl _) _)
        have N1 := Lib.hid (show SlL ((w6.alloc (.cells #[.int .i64 t, .int .i64 Q, .int .i64 f, .int .i64 b, .slice pa PP.length pc] 34)).drew) (some ⟨w6.heap.size, 0, none⟩) [⟨t, Q, f, b, pa, pc, PP⟩] from sll_one w6.drew t Q f b pa pc PP)
        have BB1 := Lib.hid (next ((Below.refl w6.heap.size w6).drew) be1)
        have hsz1 : w6.heap.size + 1 ≤ ((w6.alloc (.cells #[.int .i64 t, .int .i64 Q, .int .i64 f, .int .i64 b, .slice pa PP.length pc] 34)).drew).heap.size := (by simp)
        generalize (w6.alloc (.cells #[.int .i64 t, .int .i64 Q, .int .i64 f, .int .i64 b, .slice pa PP.length pc] 34)).drew = wz1 at *
        refine hK.out _ _ ?_ (fun hNew => ?_)
        · exact ⟨⟨cell_later be1 hHeld.1.1, cell_later be1 hHeld.1.2.1, cell_later be1 hHeld.1.2.2.1, cell_later be1 hHeld.1.2.2.2.1, cell_later be1 hHeld.1.2.2.2.2⟩, Lib.hid trivial⟩
        clear hK K hHeld
        have hHeld := hNew
        clear hNew
        try simp only [Act.put, List.setIfInBounds_toArray, List.set_cons_zero, List.set_cons_succ]
        refine wpAnyH_ready (rs := [0]) (by kernel_rfl) (by simp) ?_
        refine AllReadyH.cons rfl (fun K hK => ?_) (AllReadyH.nil)
        go_simp
        have be5 : Below wz1.heap.size wz1 (wz1.alloc (.cells #[] 34)) := (Below.refl _ _).alloc (Nat.le_refl _) _
        have E2 := Lib.hid (show OwnSl (wz1.alloc (.cells #[] 34)) w6.heap.size (.slice (some ⟨wz1.heap.size, 0, none⟩) 0 0) [] from (slr_empty wz1 w6.heap.size (BB1.out.size)).row)
        have N2 := Lib.hid (N1.out.below be5)
        have BB2 := Lib.hid (next BB1.out be5)
        generalize wz1.alloc (.cells #[] 34) = wz2 at *
        refine hK.out _ _ ?_ (fun hNew => ?_)
        · exact ⟨⟨cell_later be5 hHeld.1.1, cell_later be5 hHeld.1.2.1, cell_later be5 hHeld.1.2.2.1, cell_later be5 hHeld.1.2.2.2.1, cell_later be5 hHeld.1.2.2.2.2⟩, Lib.hid trivial⟩
        clear hK K hHeld
        have hHeld := hNew
        clear hNew
        try simp only [Act.put, List.setIfInBounds_toArray, List.set_cons_zero, List.set_cons_succ]
        refine wpAnyH_ready (rs := [2]) (by kernel_rfl) (by simp) ?_
        refine AllReadyH.cons rfl (fun K hK => ?_) (AllReadyH.nil)
        refine wp_appS (.tmp 76) (.tmp 77) rfl w6.heap.size (.slice (some ⟨wz1.heap.size, 0, none⟩) 0 0) [] (by simp [Act.eval]) E2.out al L.length cl L rfl (by simp [Act.eval]) (HSC.out.below BB2.out) hcl (by simp; omega) BB2.out.size ?_
        intro v3 w903 own3 grow3
        replace own3 : OwnSl w903 w6.heap.size v3 L := own3
        have bq3 : Below w6.heap.size w6 w903 := below_app BB2.out E2.out (Nat.le_refl _) grow3
        have N3 := Lib.hid (N2.out.but grow3 (fun bb oo he hr => by simp [Value.ownBlock] at he hr; omega))
        obtain ⟨xa3, xc3, rfl, _⟩ := OwnSl.tab own3
        have O3 := Lib.hid own3
        have BB3 := Lib.hid bq3
        clear own3 grow3
        generalize hw3 : w903 = wz3 at *
        clear hw3
        show K (Act.put _ (some 78) _) wz3
        refine hK.out _ _ ?_ (fun hNew => ?_)
        · exact ⟨⟨cell_later bq3 HQC.out.1, cell_later bq3 HQC.out.2.1, cell_later bq3 HQC.out.2.2.1, cell_later bq3 HQC.out.2.2.2.1, cell_later bq3 HQC.out.2.2.2.2⟩, Lib.hid trivial⟩
        clear hK K hHeld
        have hHeld := hNew
        clear hNew
        try simp only [Act.put, List.setIfInBounds_toArray, List.set_cons_zero, List.set_cons_succ]
        refine wpAnyH_ready (rs := [10]) (by kernel_rfl) (by simp) ?_
        refine AllReadyH.cons rfl (fun K hK => ?_) (AllReadyH.nil)
        refine wp_appS (.tmp 78) (.tmp 85) rfl w6.heap.size (.slice xa3 L.length xc3) L (by simp [Act.eval]) O3.out (some ⟨w6.heap.size, 0, none⟩) 1 1 [⟨t, Q, f, b, pa, pc, PP⟩] rfl (by simp [Act.eval]) N3.out (Nat.le_refl _) (by simp; omega) BB3.out.size ?_
        intro v4 w904 own4 grow4
        have bq4 : Below w6.heap.size w6 w904 := below_app BB3.out O3.out (Nat.le_refl _) grow4
        obtain ⟨L2, hL2⟩ : ∃ L2 : List SV, L ++ [(⟨t, Q, f, b, pa, pc, PP⟩ : SV)] = L2 := ⟨_, rfl⟩
        have hl2 : L2.length = L.length + 1 := (by rw [← hL2]; simp)
        rw [hL2] at own4
        obtain ⟨xa4, xc4, rfl, _⟩ := OwnSl.tab own4
        have HF := Lib.hid (show L ++ [(⟨t, Q, f, b, pa, pc, PP⟩ : SV)] = L2 ∧ OwnSl w904 w6.heap.size (.slice xa4 L2.length xc4) L2 ∧ Below w6.heap.size w6 w904 from ⟨hL2, own4, bq4⟩)
        have HL4 := Lib.hid hl2
        clear own4 grow4 hl2 hL2
        generalize hw4 : w904 = wz4 at *
        clear hw4
        show K (Act.put _ (some 86) _) wz4
        refine hK.out _ _ ?_ (fun hNew => ?_)
        · exact ⟨⟨cell_later bq4 HQC.out.1, cell_later bq4 HQC.out.2.1, cell_later bq4 HQC.out.2.2.1, cell_later bq4 HQC.out.2.2.2.1, cell_later bq4 HQC.out.2.2.2.2⟩, Lib.hid trivial⟩
        clear hK K hHeld
        have hHeld := hNew
        clear hNew
        try simp only [Act.put, List.setIfInBounds_toArray, List.set_cons_zero, List.set_cons_succ]
        refine takeH (i := 11) (v := ?_) rfl rfl (by kernel_rfl) (by kernel_rfl) (by kernel_rfl) (fun _ _ _ h => h) (by rfl) ?_ (by assumption) ?_
        rotate_left 1
        · intro w hSw
          (try dsimp only at hSw)
          go_simp
          try with_reducible rfl
        try simp only [List.setIfInBounds_toArray, List.set_cons_zero, List.set_cons_succ]
        refine wpAnyH_done (by kernel_rfl) ?_ _
        clear hHeld
        have HS7 := Lib.hid (HS6.out.go HF.out.2.2)
        have SA7 := Lib.hid (told_sla HF.out.1 HF.out.2.1 HS7.out.sl.2 ⟨IntA.below P6.out HF.out.2.2, HP5.out.2.1, by show PP.length ≤ 2000000; omega⟩)
        have HW7 := Lib.hid (told_w HF.out.1 HW.out HNW.out)
        have HZ7 := Lib.hid (show decide (lackM H L2 f b PP 0 [] Q = 0) = true from decide_eq_true (by rw [← HF.out.1, ← HPP.out]; exact told_ok HLK.out hQ1 (by rw [HPP.out]; exact HZN.out) (by rw [HPP.out]; rfl)))
        have hl7 : L2.length ≤ 13 := (by have := HL4.out; omega)
        have A7 := Lib.hid (A6.out.below HF.out.2.2)
        obtain ⟨q0, q1, q2, q3, q4⟩ := A7.out.five
        go_wp2_with fail
        refine (isealok_is H L2 HW7.out ah xa4 ch xc4 f b pa pc PP 0 none 0 [] Q HZ7.out _ p HS7.out.hv (by omega) SA7.out (by omega) ⟨⟨IntA.below P6.out HF.out.2.2, .inl rfl⟩, HP5.out.2.1, Nat.le_refl _, by omega, by simp⟩ HS7.out.sm.ev HS7.out.sm.pw).mono ?_
        rintro en w8 ⟨rfl, b8⟩
        have HS8 := Lib.hid (HS7.out.go b8)
        clear b8
        go_wp2_with fail
        go_ret
        exact ⟨rfl, HS8.out.sm.bel⟩
end Go.Proofs.YtnnmgbgkgnejlaaDoor
