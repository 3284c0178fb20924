/-
  The exact law of PolicyDo: the walk.
-/
import Derived.Test.YtioppkalehnoaaaGreatDoorClMl
import Derived.Test.YtioppkalehnoaaaGreatDoorClHd
import Derived.Test.YtioppkalehnoaaaGreatDoorRtVs
import Derived.Test.YtioppkalehnoaaaGreatDoorRtExA
namespace Go.Proofs.YtioppkalehnoaaaGreatDoor
open Go.RowKit
set_option linter.unusedSimpArgs false
set_option linter.unusedVariables false

theorem ownc_cs {w : World} {R n cap : Nat} {a : Option Addr} {L : List CL} (h : OwnC w R (.slice a n cap) L) : CsA w a L := by
  obtain ⟨a', c', e, _, h2⟩ := OwnC.tab h
  injection e with e1 _ _
  rw [e1]; exact h2

set_option maxRecDepth 100000 in
set_option maxHeartbeats 4000000 in
theorem exactPolicyDo_walk (a0 : Option Addr) (n0 cap0 : Nat) (L0 : List CL) (f1 b1 : Int) (a1 : Option Addr) (n1 c1 : Nat) (P1 : List Int) (l1 : Int) (d1 : Option Addr) (m1 e1 : Nat) (M1 : List Int) (w : World) (hn0 : n0 = L0.length) (hA0 : CsA w a0 L0) (hl0 : n0 ≤ 9223372036854775807) (hP1 : IntA w a1 P1) (hM1 : IntA w d1 M1) (hn1 : n1 = P1.length) (hm1 : m1 = M1.length) (hcP1 : n1 ≤ c1) (hcM1 : m1 ≤ e1) (hnl1 : n1 ≤ 9223372036854775807) (hml1 : m1 ≤ 9223372036854775807) (p : Addr) (hE : EV w p) (_ : True) :
    Calls Tryz.prog 3 #[.slice a0 n0 cap0, .agg #[.int .i64 f1, .int .i64 b1, .slice a1 n1 c1, .int .i64 l1, .slice d1 m1 e1]] w fun e w' => e = .returned (.bool true) ∧ Below w.heap.size w w' := by
  subst hn0 hn1 hm1
  have HM1 := Lib.hid (And.intro hP1 hM1)
  have HA := Lib.hid hA0
  clear hP1 hM1 hA0
  have HE := Lib.hid hE
  clear hE
  have HB0 := Lib.hid (Below.refl w.heap.size w)
  by_cases hlc : L0.length ≤ 1048576
  · go_enter Tryz.func3, Tryz.ntmps3
    have HB1 := Lib.hid (HB0.out.alloc HB0.out.size (.cells #[.int .i64 f1, .int .i64 b1, .slice a1 P1.length c1, .int .i64 l1, .slice d1 M1.length e1] 27))
    have hs1 := Lib.hid (show w.heap.size + 1 = (w.alloc (.cells #[.int .i64 f1, .int .i64 b1, .slice a1 P1.length c1, .int .i64 l1, .slice d1 M1.length e1] 27)).heap.size by simp)
    have XA1_1 := Lib.hid (At5.new w (.int .i64 f1) (.int .i64 b1) (.slice a1 P1.length c1) (.int .i64 l1) (.slice d1 M1.length e1) 27)
    go_wp2_with fail
    generalize w.alloc (.cells #[.int .i64 f1, .int .i64 b1, .slice a1 P1.length c1, .int .i64 l1, .slice d1 M1.length e1] 27) = w1 at *
    have hz : szC 1048576 L0.length = 1048576 - (L0.length : Int) := by rw [szC, if_neg (by omega)]
    have hz0 : ¬ (1048576 : Int) - (L0.length : Int) < 0 := by omega
    generalize hZ1 : (1048576 : Int) - (L0.length : Int) = Z1 at *
    refine (szcl_is hz (by omega) (by omega) (by omega) a0 cap0 _).mono ?_
    rintro en w0 ⟨rfl, rfl⟩
    by_cases hk : (P1.length : Int) + M1.length ≤ Z1
    · have hy : szR Z1 P1.length M1.length = Z1 - (P1.length : Int) - (M1.length : Int) := szR_pos hk
      have hy0 : ¬ Z1 - (P1.length : Int) - (M1.length : Int) < 0 := by omega
      generalize hZ2 : Z1 - (P1.length : Int) - (M1.length : Int) = Z2 at *
      obtain ⟨⟨qA10, qA11, qA12, qA13, qA14⟩, _⟩ := XA1_1.out
      go_wp2_with fail
      clear qA10 qA11 qA12 qA13 qA14
      refine (szrt_is f1 b1 l1 a1 d1 _ c1 _ e1 hy (by omega) (by omega) hnl1 hml1 _).mono ?_
      rintro en w2 ⟨rfl, b⟩
      have HB2 := Lib.hid (HB1.out.trans (b.mono HB1.out.size))
      have hs2 := Lib.hid b.size
      have XA1_2 := Lib.hid (At5.below XA1_1.out b)
      clear b
      obtain ⟨⟨⟨fU, bU, PU, lU, MU⟩, u⟩, hU⟩ : ∃ s, polDo L0 (f1, b1, P1, l1, M1) = s := ⟨_, rfl⟩
      have hUl : PU.length ≤ 5 ∧ MU.length ≤ 10 := by have := polDo_len L0 (f1, b1, P1, l1, M1); rw [hU] at this; exact this
      have HU := Lib.hid hU
      have huu : (u != u) = false := by simp
      clear hU
      go_upto_region 8 with fail
      go_cut [6, 7] from 17 (fun y one wx => ∃ (Ry : Nat) (ayp : Option Addr) (cyp : Nat) (aym : Option Addr) (cym : Nat), y = .pointer (some ⟨Ry, 0, none⟩) ∧ one = .bool u ∧ Hid (CutY w2 Ry fU bU lU PU MU ayp cyp aym cym wx))
      case first =>
        refine wp_region_held_drew (S := fun W => (W.cell? ⟨w.heap.size, 0, none⟩ = some (.int .i64 f1) ∧ W.cell? ⟨w.heap.size, 1, none⟩ = some (.int .i64 b1) ∧ W.cell? ⟨w.heap.size, 2, none⟩ = some (.slice a1 P1.length c1) ∧ W.cell? ⟨w.heap.size, 3, none⟩ = some (.int .i64 l1) ∧ W.cell? ⟨w.heap.size, 4, none⟩ = some (.slice d1 M1.length e1)) ∧ Hid (Below w2.heap.size w2 W)) (by kernel_rfl) ?_ (fun hHeld => ?_)
        · exact ⟨XA1_2.out.1, Lib.hid (Below.refl _ w2).drew⟩
        refine takeH (i := 0) (v := ?_) rfl rfl (by kernel_rfl) (by kernel_rfl) (by kernel_rfl) (fun _ _ _ h => h) (by rfl) ?_ (by assumption) ?_
        rotate_left 1
        · intro w hSw
          (try dsimp only at hSw)
          go_simp
          try with_reducible rfl
        try simp only [List.setIfInBounds_toArray, List.set_cons_zero, List.set_cons_succ]
        refine takeH (i := 2) (v := ?_) rfl rfl (by kernel_rfl) (by kernel_rfl) (by kernel_rfl) (fun _ _ _ h => h) (by rfl) ?_ (by assumption) ?_
        rotate_left 1
        · intro w hSw
          (try dsimp only at hSw)
          go_simp
          try with_reducible rfl
        try simp only [List.setIfInBounds_toArray, List.set_cons_zero, List.set_cons_succ]
        refine wpAnyH_ready (rs := [1, 8]) (by kernel_rfl) (by simp) ?_
        refine AllReadyH.cons rfl (fun K hK => ?_) (AllReadyH.cons rfl (fun K hK => ?_) (AllReadyH.nil))
        · generalize w2.drew = wz0 at *
          go_simp
          refine (tocls_any L0 a0 cap0 _ _ rfl (HA.out.below (HB2.out.trans (hHeld.2.out.mono HB2.out.size))) hlc).mono ?_
          rintro en wz1 ⟨v, rfl, oc, b⟩
          obtain ⟨at1, ct1, rfl, _, _⟩ := OwnC.tab oc
          have C_1 := Lib.hid (ownc_mono oc hHeld.2.out.size)
          have bq1 := next hHeld.2.out b
          clear oc b
          go_wp2_with fail
          refine hK.out _ _ ?_ (fun hNew => ?_)
          · exact ⟨⟨vcell_far (bq1) XA1_2.out.lt XA1_2.out.1.1, vcell_far (bq1) XA1_2.out.lt XA1_2.out.1.2.1, vcell_far (bq1) XA1_2.out.lt XA1_2.out.1.2.2.1, vcell_far (bq1) XA1_2.out.lt XA1_2.out.1.2.2.2.1, vcell_far (bq1) XA1_2.out.lt XA1_2.out.1.2.2.2.2⟩, Lib.hid (bq1)⟩
          clear hK K hHeld
          have hHeld := hNew
          clear hNew
          try simp only [Act.put, List.setIfInBounds_toArray, List.set_cons_zero, List.set_cons_succ]
          refine wpAnyH_ready (rs := [3, 8]) (by kernel_rfl) (by simp) ?_
          refine AllReadyH.cons rfl (fun K hK => ?_) (AllReadyH.cons rfl (fun K hK => ?_) (AllReadyH.nil))
          · go_simp
            refine (tort_is f1 b1 a1 c1 P1 l1 d1 e1 M1 _ ⟨⟨HM1.out.1.below (HB2.out.trans (hHeld.2.out.mono HB2.out.size)), HM1.out.2.below (HB2.out.trans (hHeld.2.out.mono HB2.out.size))⟩, hcP1, hcM1, by omega, by omega⟩ (by omega) (by omega)).mono ?_
            rintro en wz2 ⟨pv, mv, rfl, S, o, bP, o2, hS, b⟩
            replace o : OwnI wz2 wz1.heap.size pv P1 := o
            replace o2 : OwnI wz2 S mv M1 := o2
            obtain ⟨atp, ctp, rfl, _, _⟩ := OwnI.tab o
            obtain ⟨atm, ctm, rfl, _, _⟩ := OwnI.tab o2
            have C_2 := Lib.hid (ownc_later C_1.out b)
            have TP2 := Lib.hid (owni_mono o hHeld.2.out.size)
            have TM2 := Lib.hid (owni_mono o2 (Nat.le_trans hHeld.2.out.size hS))
            have bq2 := next hHeld.2.out b
            clear o o2 bP hS b
            go_wp2_with fail
            refine hK.out _ _ ?_ (fun hNew => ?_)
            · exact ⟨⟨vcell_far (bq2) XA1_2.out.lt XA1_2.out.1.1, vcell_far (bq2) XA1_2.out.lt XA1_2.out.1.2.1, vcell_far (bq2) XA1_2.out.lt XA1_2.out.1.2.2.1, vcell_far (bq2) XA1_2.out.lt XA1_2.out.1.2.2.2.1, vcell_far (bq2) XA1_2.out.lt XA1_2.out.1.2.2.2.2⟩, Lib.hid (bq2)⟩
            clear hK K hHeld
            have hHeld := hNew
            clear hNew
            try simp only [Act.put, List.setIfInBounds_toArray, List.set_cons_zero, List.set_cons_succ]
            refine wpAnyH_ready (rs := [4, 8]) (by kernel_rfl) (by simp) ?_
            refine AllReadyH.cons rfl (fun K hK => ?_) (AllReadyH.cons rfl (fun K hK => ?_) (AllReadyH.nil))
            · go_simp
              refine (spoldo_is L0 at1 _ ct1 f1 b1 atp ctp P1 l1 atm ctm M1 HU.out _ rfl (ownc_cs C_2.out) (by omega) ⟨⟨(OwnI.intA TP2.out).2.2, (OwnI.intA TM2.out).2.2⟩, (OwnI.intA TP2.out).2.1, (OwnI.intA TM2.out).2.1, by omega, by omega⟩).mono ?_
              rintro en wz3 ⟨pv, mv, rfl, S, o, bP, o2, hS, b⟩
              replace o : OwnI wz3 wz2.heap.size pv PU := o
              replace o2 : OwnI wz3 S mv MU := o2
              obtain ⟨ayp, cyp, rfl, _, _⟩ := OwnI.tab o
              obtain ⟨aym, cym, rfl, _, _⟩ := OwnI.tab o2
              have Yp3 := Lib.hid (owni_mono o hHeld.2.out.size)
              have Ym3 := Lib.hid (owni_mono o2 (Nat.le_trans hHeld.2.out.size hS))
              have bq3 := next hHeld.2.out b
              clear o o2 bP hS b
              go_wp2_with fail
              refine hK.out _ _ ?_ (fun hNew => ?_)
              · exact ⟨⟨vcell_far (bq3) XA1_2.out.lt XA1_2.out.1.1, vcell_far (bq3) XA1_2.out.lt XA1_2.out.1.2.1, vcell_far (bq3) XA1_2.out.lt XA1_2.out.1.2.2.1, vcell_far (bq3) XA1_2.out.lt XA1_2.out.1.2.2.2.1, vcell_far (bq3) XA1_2.out.lt XA1_2.out.1.2.2.2.2⟩, Lib.hid (bq3)⟩
              clear hK K hHeld
              have hHeld := hNew
              clear hNew
              try simp only [Act.put, List.setIfInBounds_toArray, List.set_cons_zero, List.set_cons_succ]
              refine takeH (i := 5) (v := ?_) rfl rfl (by kernel_rfl) (by kernel_rfl) (by kernel_rfl) (fun _ _ _ h => h) (by rfl) ?_ (by assumption) ?_
              rotate_left 1
              · intro w hSw
                (try dsimp only at hSw)
                go_simp
                try with_reducible rfl
              try simp only [List.setIfInBounds_toArray, List.set_cons_zero, List.set_cons_succ]
              refine takeH (i := 6) (v := ?_) rfl rfl (by kernel_rfl) (by kernel_rfl) (by kernel_rfl) (fun _ _ _ h => h) (by rfl) ?_ (by assumption) ?_
              rotate_left 1
              · intro w hSw
                (try dsimp only at hSw)
                go_simp
                try with_reducible rfl
              try simp only [List.setIfInBounds_toArray, List.set_cons_zero, List.set_cons_succ]
              refine takeH (i := 7) (v := ?_) rfl rfl (by kernel_rfl) (by kernel_rfl) (by kernel_rfl) (fun _ _ _ h => h) (by rfl) ?_ (by assumption) ?_
              rotate_left 1
              · intro w hSw
                (try dsimp only at hSw)
                go_simp
                try with_reducible rfl
              try simp only [List.setIfInBounds_toArray, List.set_cons_zero, List.set_cons_succ]
              refine wpAnyH_ready (rs := [8]) (by kernel_rfl) (by simp) ?_
              refine AllReadyH.cons rfl (fun K hK => ?_) (AllReadyH.nil)
              go_simp
              have be4 : Below wz3.heap.size wz3 (wz3.alloc (.cells #[.int .i64 0, .int .i64 0, .slice none 0 0, .int .i64 0, .slice none 0 0] 32)) := (Below.refl _ _).alloc (Nat.le_refl _) _
              have Yp4 := Lib.hid (owni_later Yp3.out be4)
              have Ym4 := Lib.hid (owni_later Ym3.out be4)
              have Zz4 := Lib.hid (ownw_zero wz3 w2.heap.size hHeld.2.out.size)
              generalize wz3.alloc (.cells #[.int .i64 0, .int .i64 0, .slice none 0 0, .int .i64 0, .slice none 0 0] 32) = wz4 at *
              refine hK.out _ _ ?_ (fun hNew => ?_)
              · exact ⟨⟨vcell_far (next hHeld.2.out be4) XA1_2.out.lt XA1_2.out.1.1, vcell_far (next hHeld.2.out be4) XA1_2.out.lt XA1_2.out.1.2.1, vcell_far (next hHeld.2.out be4) XA1_2.out.lt XA1_2.out.1.2.2.1, vcell_far (next hHeld.2.out be4) XA1_2.out.lt XA1_2.out.1.2.2.2.1, vcell_far (next hHeld.2.out be4) XA1_2.out.lt XA1_2.out.1.2.2.2.2⟩, Lib.hid (next hHeld.2.out be4)⟩
              clear hK K hHeld
              have hHeld := hNew
              clear hNew
              try simp only [Act.put, List.setIfInBounds_toArray, List.set_cons_zero, List.set_cons_succ]
              refine wpAnyH_ready (rs := [9]) (by kernel_rfl) (by simp) ?_
              refine AllReadyH.cons rfl (fun K hK => ?_) (AllReadyH.nil)
              refine wp_stA 32 (.tmp 6) (.tmp 33) rfl (wz3.heap.size) #[.int .i64 fU, .int .i64 bU, .slice ayp PU.length cyp, .int .i64 lU, .slice aym MU.length cym] (by simp [Act.eval]) (by simp [Act.eval]) (one5a _ _ _ _ _ _ _ _ _) infoR5 _ (OwnW.atl Zz4.out) rfl ?_
              intro wz5 aa gg
              have HF : Hid (CutY w2 (wz3.heap.size) fU bU lU PU MU ayp cyp aym cym wz5) := Lib.hid (CutY.mk' hHeld.2.out Zz4.out Yp4.out Ym4.out aa gg)
              clear aa gg
              try simp only [List.getElem_toArray, List.getElem_cons_succ, List.getElem_cons_zero]
              refine hK.out _ _ ?_ (fun hNew => ?_)
              · exact ⟨⟨vcell_far (HF.out.bel) XA1_2.out.lt XA1_2.out.1.1, vcell_far (HF.out.bel) XA1_2.out.lt XA1_2.out.1.2.1, vcell_far (HF.out.bel) XA1_2.out.lt XA1_2.out.1.2.2.1, vcell_far (HF.out.bel) XA1_2.out.lt XA1_2.out.1.2.2.2.1, vcell_far (HF.out.bel) XA1_2.out.lt XA1_2.out.1.2.2.2.2⟩, Lib.hid (HF.out.bel)⟩
              clear hK K hHeld
              have hHeld := hNew
              clear hNew
              try simp only [Act.put, List.setIfInBounds_toArray, List.set_cons_zero, List.set_cons_succ]
              refine takeH (i := 10) (v := ?_) rfl rfl (by kernel_rfl) (by kernel_rfl) (by kernel_rfl) (fun _ _ _ h => h) (by rfl) ?_ (by assumption) ?_
              rotate_left 1
              · intro w hSw
                (try dsimp only at hSw)
                go_simp
                try with_reducible rfl
              try simp only [List.setIfInBounds_toArray, List.set_cons_zero, List.set_cons_succ]
              refine wpAnyH_done (by kernel_rfl) ?_ _
              clear hHeld
              go_wp2_with fail
              go_meet
              exact ⟨_, _, _, _, _, rfl, rfl, HF⟩
            · go_simp
              have be3 : Below wz2.heap.size wz2 (wz2.alloc (.cells #[.int .i64 0, .int .i64 0, .slice none 0 0, .int .i64 0, .slice none 0 0] 32)) := (Below.refl _ _).alloc (Nat.le_refl _) _
              have C_3 := Lib.hid (ownc_later C_2.out be3)
              have TP3 := Lib.hid (owni_later TP2.out be3)
              have TM3 := Lib.hid (owni_later TM2.out be3)
              have Zz3 := Lib.hid (ownw_zero wz2 w2.heap.size hHeld.2.out.size)
              generalize wz2.alloc (.cells #[.int .i64 0, .int .i64 0, .slice none 0 0, .int .i64 0, .slice none 0 0] 32) = wz3 at *
              refine hK.out _ _ ?_ (fun hNew => ?_)
              · exact ⟨⟨vcell_far (next hHeld.2.out be3) XA1_2.out.lt XA1_2.out.1.1, vcell_far (next hHeld.2.out be3) XA1_2.out.lt XA1_2.out.1.2.1, vcell_far (next hHeld.2.out be3) XA1_2.out.lt XA1_2.out.1.2.2.1, vcell_far (next hHeld.2.out be3) XA1_2.out.lt XA1_2.out.1.2.2.2.1, vcell_far (next hHeld.2.out be3) XA1_2.out.lt XA1_2.out.1.2.2.2.2⟩, Lib.hid (next hHeld.2.out be3)⟩
              clear hK K hHeld
              have hHeld := hNew
              clear hNew
              try simp only [Act.put, List.setIfInBounds_toArray, List.set_cons_zero, List.set_cons_succ]
              refine wpAnyH_ready (rs := [4]) (by kernel_rfl) (by simp) ?_
              refine AllReadyH.cons rfl (fun K hK => ?_) (AllReadyH.nil)
              go_simp
              refine (spoldo_is L0 at1 _ ct1 f1 b1 atp ctp P1 l1 atm ctm M1 HU.out _ rfl (ownc_cs C_3.out) (by omega) ⟨⟨(OwnI.intA TP3.out).2.2, (OwnI.intA TM3.out).2.2⟩, (OwnI.intA TP3.out).2.1, (OwnI.intA TM3.out).2.1, by omega, by omega⟩).mono ?_
              rintro en wz4 ⟨pv, mv, rfl, S, o, bP, o2, hS, b⟩
              replace o : OwnI wz4 wz3.heap.size pv PU := o
              replace o2 : OwnI wz4 S mv MU := o2
              obtain ⟨ayp, cyp, rfl, _, _⟩ := OwnI.tab o
              obtain ⟨aym, cym, rfl, _, _⟩ := OwnI.tab o2
              have Zz4 := Lib.hid (ownw_later Zz3.out b)
              have Yp4 := Lib.hid (owni_mono o hHeld.2.out.size)
              have Ym4 := Lib.hid (owni_mono o2 (Nat.le_trans hHeld.2.out.size hS))
              have bq4 := next hHeld.2.out b
              clear o o2 bP hS b
              go_wp2_with fail
              refine hK.out _ _ ?_ (fun hNew => ?_)
              · exact ⟨⟨vcell_far (bq4) XA1_2.out.lt XA1_2.out.1.1, vcell_far (bq4) XA1_2.out.lt XA1_2.out.1.2.1, vcell_far (bq4) XA1_2.out.lt XA1_2.out.1.2.2.1, vcell_far (bq4) XA1_2.out.lt XA1_2.out.1.2.2.2.1, vcell_far (bq4) XA1_2.out.lt XA1_2.out.1.2.2.2.2⟩, Lib.hid (bq4)⟩
              clear hK K hHeld
              have hHeld := hNew
              clear hNew
              try simp only [Act.put, List.setIfInBounds_toArray, List.set_cons_zero, List.set_cons_succ]
              refine takeH (i := 5) (v := ?_) rfl rfl (by kernel_rfl) (by kernel_rfl) (by kernel_rfl) (fun _ _ _ h => h) (by rfl) ?_ (by assumption) ?_
              rotate_left 1
              · intro w hSw
                (try dsimp only at hSw)
                go_simp
                try with_reducible rfl
              try simp only [List.setIfInBounds_toArray, List.set_cons_zero, List.set_cons_succ]
              refine takeH (i := 6) (v := ?_) rfl rfl (by kernel_rfl) (by kernel_rfl) (by kernel_rfl) (fun _ _ _ h => h) (by rfl) ?_ (by assumption) ?_
              rotate_left 1
              · intro w hSw
                (try dsimp only at hSw)
                go_simp
                try with_reducible rfl
              try simp only [List.setIfInBounds_toArray, List.set_cons_zero, List.set_cons_succ]
              refine takeH (i := 7) (v := ?_) rfl rfl (by kernel_rfl) (by kernel_rfl) (by kernel_rfl) (fun _ _ _ h => h) (by rfl) ?_ (by assumption) ?_
              rotate_left 1
              · intro w hSw
                (try dsimp only at hSw)
                go_simp
                try with_reducible rfl
              try simp only [List.setIfInBounds_toArray, List.set_cons_zero, List.set_cons_succ]
              refine wpAnyH_ready (rs := [9]) (by kernel_rfl) (by simp) ?_
              refine AllReadyH.cons rfl (fun K hK => ?_) (AllReadyH.nil)
              refine wp_stA 32 (.tmp 6) (.tmp 33) rfl (wz2.heap.size) #[.int .i64 fU, .int .i64 bU, .slice ayp PU.length cyp, .int .i64 lU, .slice aym MU.length cym] (by simp [Act.eval]) (by simp [Act.eval]) (one5a _ _ _ _ _ _ _ _ _) infoR5 _ (OwnW.atl Zz4.out) rfl ?_
              intro wz5 aa gg
              have HF : Hid (CutY w2 (wz2.heap.size) fU bU lU PU MU ayp cyp aym cym wz5) := Lib.hid (CutY.mk' hHeld.2.out Zz4.out Yp4.out Ym4.out aa gg)
              clear aa gg
              try simp only [List.getElem_toArray, List.getElem_cons_succ, List.getElem_cons_zero]
              refine hK.out _ _ ?_ (fun hNew => ?_)
              · exact ⟨⟨vcell_far (HF.out.bel) XA1_2.out.lt XA1_2.out.1.1, vcell_far (HF.out.bel) XA1_2.out.lt XA1_2.out.1.2.1, vcell_far (HF.out.bel) XA1_2.out.lt XA1_2.out.1.2.2.1, vcell_far (HF.out.bel) XA1_2.out.lt XA1_2.out.1.2.2.2.1, vcell_far (HF.out.bel) XA1_2.out.lt XA1_2.out.1.2.2.2.2⟩, Lib.hid (HF.out.bel)⟩
              clear hK K hHeld
              have hHeld := hNew
              clear hNew
              try simp only [Act.put, List.setIfInBounds_toArray, List.set_cons_zero, List.set_cons_succ]
              refine takeH (i := 10) (v := ?_) rfl rfl (by kernel_rfl) (by kernel_rfl) (by kernel_rfl) (fun _ _ _ h => h) (by rfl) ?_ (by assumption) ?_
              rotate_left 1
              · intro w hSw
                (try dsimp only at hSw)
                go_simp
                try with_reducible rfl
              try simp only [List.setIfInBounds_toArray, List.set_cons_zero, List.set_cons_succ]
              refine wpAnyH_done (by kernel_rfl) ?_ _
              clear hHeld
              go_wp2_with fail
              go_meet
              exact ⟨_, _, _, _, _, rfl, rfl, HF⟩
          · go_simp
            have be2 : Below wz1.heap.size wz1 (wz1.alloc (.cells #[.int .i64 0, .int .i64 0, .slice none 0 0, .int .i64 0, .slice none 0 0] 32)) := (Below.refl _ _).alloc (Nat.le_refl _) _
            have C_2 := Lib.hid (ownc_later C_1.out be2)
            have Zz2 := Lib.hid (ownw_zero wz1 w2.heap.size hHeld.2.out.size)
            generalize wz1.alloc (.cells #[.int .i64 0, .int .i64 0, .slice none 0 0, .int .i64 0, .slice none 0 0] 32) = wz2 at *
            refine hK.out _ _ ?_ (fun hNew => ?_)
            · exact ⟨⟨vcell_far (next hHeld.2.out be2) XA1_2.out.lt XA1_2.out.1.1, vcell_far (next hHeld.2.out be2) XA1_2.out.lt XA1_2.out.1.2.1, vcell_far (next hHeld.2.out be2) XA1_2.out.lt XA1_2.out.1.2.2.1, vcell_far (next hHeld.2.out be2) XA1_2.out.lt XA1_2.out.1.2.2.2.1, vcell_far (next hHeld.2.out be2) XA1_2.out.lt XA1_2.out.1.2.2.2.2⟩, Lib.hid (next hHeld.2.out be2)⟩
            clear hK K hHeld
            have hHeld := hNew
            clear hNew
            try simp only [Act.put, List.setIfInBounds_toArray, List.set_cons_zero, List.set_cons_succ]
            refine wpAnyH_ready (rs := [3]) (by kernel_rfl) (by simp) ?_
            refine AllReadyH.cons rfl (fun K hK => ?_) (AllReadyH.nil)
            go_simp
            refine (tort_is f1 b1 a1 c1 P1 l1 d1 e1 M1 _ ⟨⟨HM1.out.1.below (HB2.out.trans (hHeld.2.out.mono HB2.out.size)), HM1.out.2.below (HB2.out.trans (hHeld.2.out.mono HB2.out.size))⟩, hcP1, hcM1, by omega, by omega⟩ (by omega) (by omega)).mono ?_
            rintro en wz3 ⟨pv, mv, rfl, S, o, bP, o2, hS, b⟩
            replace o : OwnI wz3 wz2.heap.size pv P1 := o
            replace o2 : OwnI wz3 S mv M1 := o2
            obtain ⟨atp, ctp, rfl, _, _⟩ := OwnI.tab o
            obtain ⟨atm, ctm, rfl, _, _⟩ := OwnI.tab o2
            have Zz3 := Lib.hid (ownw_later Zz2.out b)
            have C_3 := Lib.hid (ownc_later C_2.out b)
            have TP3 := Lib.hid (owni_mono o hHeld.2.out.size)
            have TM3 := Lib.hid (owni_mono o2 (Nat.le_trans hHeld.2.out.size hS))
            have bq3 := next hHeld.2.out b
            clear o o2 bP hS b
            go_wp2_with fail
            refine hK.out _ _ ?_ (fun hNew => ?_)
            · exact ⟨⟨vcell_far (bq3) XA1_2.out.lt XA1_2.out.1.1, vcell_far (bq3) XA1_2.out.lt XA1_2.out.1.2.1, vcell_far (bq3) XA1_2.out.lt XA1_2.out.1.2.2.1, vcell_far (bq3) XA1_2.out.lt XA1_2.out.1.2.2.2.1, vcell_far (bq3) XA1_2.out.lt XA1_2.out.1.2.2.2.2⟩, Lib.hid (bq3)⟩
            clear hK K hHeld
            have hHeld := hNew
            clear hNew
            try simp only [Act.put, List.setIfInBounds_toArray, List.set_cons_zero, List.set_cons_succ]
            refine wpAnyH_ready (rs := [4]) (by kernel_rfl) (by simp) ?_
            refine AllReadyH.cons rfl (fun K hK => ?_) (AllReadyH.nil)
            go_simp
            refine (spoldo_is L0 at1 _ ct1 f1 b1 atp ctp P1 l1 atm ctm M1 HU.out _ rfl (ownc_cs C_3.out) (by omega) ⟨⟨(OwnI.intA TP3.out).2.2, (OwnI.intA TM3.out).2.2⟩, (OwnI.intA TP3.out).2.1, (OwnI.intA TM3.out).2.1, by omega, by omega⟩).mono ?_
            rintro en wz4 ⟨pv, mv, rfl, S, o, bP, o2, hS, b⟩
            replace o : OwnI wz4 wz3.heap.size pv PU := o
            replace o2 : OwnI wz4 S mv MU := o2
            obtain ⟨ayp, cyp, rfl, _, _⟩ := OwnI.tab o
            obtain ⟨aym, cym, rfl, _, _⟩ := OwnI.tab o2
            have Zz4 := Lib.hid (ownw_later Zz3.out b)
            have Yp4 := Lib.hid (owni_mono o hHeld.2.out.size)
            have Ym4 := Lib.hid (owni_mono o2 (Nat.le_trans hHeld.2.out.size hS))
            have bq4 := next hHeld.2.out b
            clear o o2 bP hS b
            go_wp2_with fail
            refine hK.out _ _ ?_ (fun hNew => ?_)
            · exact ⟨⟨vcell_far (bq4) XA1_2.out.lt XA1_2.out.1.1, vcell_far (bq4) XA1_2.out.lt XA1_2.out.1.2.1, vcell_far (bq4) XA1_2.out.lt XA1_2.out.1.2.2.1, vcell_far (bq4) XA1_2.out.lt XA1_2.out.1.2.2.2.1, vcell_far (bq4) XA1_2.out.lt XA1_2.out.1.2.2.2.2⟩, Lib.hid (bq4)⟩
            clear hK K hHeld
            have hHeld := hNew
            clear hNew
            try simp only [Act.put, List.setIfInBounds_toArray, List.set_cons_zero, List.set_cons_succ]
            refine takeH (i := 5) (v := ?_) rfl rfl (by kernel_rfl) (by kernel_rfl) (by kernel_rfl) (fun _ _ _ h => h) (by rfl) ?_ (by assumption) ?_
            rotate_left 1
            · intro w hSw
              (try dsimp only at hSw)
              go_simp
              try with_reducible rfl
            try simp only [List.setIfInBounds_toArray, List.set_cons_zero, List.set_cons_succ]
            refine takeH (i := 6) (v := ?_) rfl rfl (by kernel_rfl) (by kernel_rfl) (by kernel_rfl) (fun _ _ _ h => h) (by rfl) ?_ (by assumption) ?_
            rotate_left 1
            · intro w hSw
              (try dsimp only at hSw)
              go_simp
              try with_reducible rfl
            try simp only [List.setIfInBounds_toArray, List.set_cons_zero, List.set_cons_succ]
            refine takeH (i := 7) (v := ?_) rfl rfl (by kernel_rfl) (by kernel_rfl) (by kernel_rfl) (fun _ _ _ h => h) (by rfl) ?_ (by assumption) ?_
            rotate_left 1
            · intro w hSw
              (try dsimp only at hSw)
              go_simp
              try with_reducible rfl
            try simp only [List.setIfInBounds_toArray, List.set_cons_zero, List.set_cons_succ]
            refine wpAnyH_ready (rs := [9]) (by kernel_rfl) (by simp) ?_
            refine AllReadyH.cons rfl (fun K hK => ?_) (AllReadyH.nil)
            refine wp_stA 32 (.tmp 6) (.tmp 33) rfl (wz1.heap.size) #[.int .i64 fU, .int .i64 bU, .slice ayp PU.length cyp, .int .i64 lU, .slice aym MU.length cym] (by simp [Act.eval]) (by simp [Act.eval]) (one5a _ _ _ _ _ _ _ _ _) infoR5 _ (OwnW.atl Zz4.out) rfl ?_
            intro wz5 aa gg
            have HF : Hid (CutY w2 (wz1.heap.size) fU bU lU PU MU ayp cyp aym cym wz5) := Lib.hid (CutY.mk' hHeld.2.out Zz4.out Yp4.out Ym4.out aa gg)
            clear aa gg
            try simp only [List.getElem_toArray, List.getElem_cons_succ, List.getElem_cons_zero]
            refine hK.out _ _ ?_ (fun hNew => ?_)
            · exact ⟨⟨vcell_far (HF.out.bel) XA1_2.out.lt XA1_2.out.1.1, vcell_far (HF.out.bel) XA1_2.out.lt XA1_2.out.1.2.1, vcell_far (HF.out.bel) XA1_2.out.lt XA1_2.out.1.2.2.1, vcell_far (HF.out.bel) XA1_2.out.lt XA1_2.out.1.2.2.2.1, vcell_far (HF.out.bel) XA1_2.out.lt XA1_2.out.1.2.2.2.2⟩, Lib.hid (HF.out.bel)⟩
            clear hK K hHeld
            have hHeld := hNew
            clear hNew
            try simp only [Act.put, List.setIfInBounds_toArray, List.set_cons_zero, List.set_cons_succ]
            refine takeH (i := 10) (v := ?_) rfl rfl (by kernel_rfl) (by kernel_rfl) (by kernel_rfl) (fun _ _ _ h => h) (by rfl) ?_ (by assumption) ?_
            rotate_left 1
            · intro w hSw
              (try dsimp only at hSw)
              go_simp
              try with_reducible rfl
            try simp only [List.setIfInBounds_toArray, List.set_cons_zero, List.set_cons_succ]
            refine wpAnyH_done (by kernel_rfl) ?_ _
            clear hHeld
            go_wp2_with fail
            go_meet
            exact ⟨_, _, _, _, _, rfl, rfl, HF⟩
        · generalize w2.drew = wz0 at *
          go_simp
          have be1 : Below wz0.heap.size wz0 (wz0.alloc (.cells #[.int .i64 0, .int .i64 0, .slice none 0 0, .int .i64 0, .slice none 0 0] 32)) := (Below.refl _ _).alloc (Nat.le_refl _) _
          have Zz1 := Lib.hid (ownw_zero wz0 w2.heap.size hHeld.2.out.size)
          generalize wz0.alloc (.cells #[.int .i64 0, .int .i64 0, .slice none 0 0, .int .i64 0, .slice none 0 0] 32) = wz1 at *
          refine hK.out _ _ ?_ (fun hNew => ?_)
          · exact ⟨⟨vcell_far (next hHeld.2.out be1) XA1_2.out.lt XA1_2.out.1.1, vcell_far (next hHeld.2.out be1) XA1_2.out.lt XA1_2.out.1.2.1, vcell_far (next hHeld.2.out be1) XA1_2.out.lt XA1_2.out.1.2.2.1, vcell_far (next hHeld.2.out be1) XA1_2.out.lt XA1_2.out.1.2.2.2.1, vcell_far (next hHeld.2.out be1) XA1_2.out.lt XA1_2.out.1.2.2.2.2⟩, Lib.hid (next hHeld.2.out be1)⟩
          clear hK K hHeld
          have hHeld := hNew
          clear hNew
          try simp only [Act.put, List.setIfInBounds_toArray, List.set_cons_zero, List.set_cons_succ]
          refine wpAnyH_ready (rs := [1]) (by kernel_rfl) (by simp) ?_
          refine AllReadyH.cons rfl (fun K hK => ?_) (AllReadyH.nil)
          go_simp
          refine (tocls_any L0 a0 cap0 _ _ rfl (HA.out.below (HB2.out.trans (hHeld.2.out.mono HB2.out.size))) hlc).mono ?_
          rintro en wz2 ⟨v, rfl, oc, b⟩
          obtain ⟨at1, ct1, rfl, _, _⟩ := OwnC.tab oc
          have Zz2 := Lib.hid (ownw_later Zz1.out b)
          have C_2 := Lib.hid (ownc_mono oc hHeld.2.out.size)
          have bq2 := next hHeld.2.out b
          clear oc b
          go_wp2_with fail
          refine hK.out _ _ ?_ (fun hNew => ?_)
          · exact ⟨⟨vcell_far (bq2) XA1_2.out.lt XA1_2.out.1.1, vcell_far (bq2) XA1_2.out.lt XA1_2.out.1.2.1, vcell_far (bq2) XA1_2.out.lt XA1_2.out.1.2.2.1, vcell_far (bq2) XA1_2.out.lt XA1_2.out.1.2.2.2.1, vcell_far (bq2) XA1_2.out.lt XA1_2.out.1.2.2.2.2⟩, Lib.hid (bq2)⟩
          clear hK K hHeld
          have hHeld := hNew
          clear hNew
          try simp only [Act.put, List.setIfInBounds_toArray, List.set_cons_zero, List.set_cons_succ]
          refine wpAnyH_ready (rs := [3]) (by kernel_rfl) (by simp) ?_
          refine AllReadyH.cons rfl (fun K hK => ?_) (AllReadyH.nil)
          go_simp
          refine (tort_is f1 b1 a1 c1 P1 l1 d1 e1 M1 _ ⟨⟨HM1.out.1.below (HB2.out.trans (hHeld.2.out.mono HB2.out.size)), HM1.out.2.below (HB2.out.trans (hHeld.2.out.mono HB2.out.size))⟩, hcP1, hcM1, by omega, by omega⟩ (by omega) (by omega)).mono ?_
          rintro en wz3 ⟨pv, mv, rfl, S, o, bP, o2, hS, b⟩
          replace o : OwnI wz3 wz2.heap.size pv P1 := o
          replace o2 : OwnI wz3 S mv M1 := o2
          obtain ⟨atp, ctp, rfl, _, _⟩ := OwnI.tab o
          obtain ⟨atm, ctm, rfl, _, _⟩ := OwnI.tab o2
          have Zz3 := Lib.hid (ownw_later Zz2.out b)
          have C_3 := Lib.hid (ownc_later C_2.out b)
          have TP3 := Lib.hid (owni_mono o hHeld.2.out.size)
          have TM3 := Lib.hid (owni_mono o2 (Nat.le_trans hHeld.2.out.size hS))
          have bq3 := next hHeld.2.out b
          clear o o2 bP hS b
          go_wp2_with fail
          refine hK.out _ _ ?_ (fun hNew => ?_)
          · exact ⟨⟨vcell_far (bq3) XA1_2.out.lt XA1_2.out.1.1, vcell_far (bq3) XA1_2.out.lt XA1_2.out.1.2.1, vcell_far (bq3) XA1_2.out.lt XA1_2.out.1.2.2.1, vcell_far (bq3) XA1_2.out.lt XA1_2.out.1.2.2.2.1, vcell_far (bq3) XA1_2.out.lt XA1_2.out.1.2.2.2.2⟩, Lib.hid (bq3)⟩
          clear hK K hHeld
          have hHeld := hNew
          clear hNew
          try simp only [Act.put, List.setIfInBounds_toArray, List.set_cons_zero, List.set_cons_succ]
          refine wpAnyH_ready (rs := [4]) (by kernel_rfl) (by simp) ?_
          refine AllReadyH.cons rfl (fun K hK => ?_) (AllReadyH.nil)
          go_simp
          refine (spoldo_is L0 at1 _ ct1 f1 b1 atp ctp P1 l1 atm ctm M1 HU.out _ rfl (ownc_cs C_3.out) (by omega) ⟨⟨(OwnI.intA TP3.out).2.2, (OwnI.intA TM3.out).2.2⟩, (OwnI.intA TP3.out).2.1, (OwnI.intA TM3.out).2.1, by omega, by omega⟩).mono ?_
          rintro en wz4 ⟨pv, mv, rfl, S, o, bP, o2, hS, b⟩
          replace o : OwnI wz4 wz3.heap.size pv PU := o
          replace o2 : OwnI wz4 S mv MU := o2
          obtain ⟨ayp, cyp, rfl, _, _⟩ := OwnI.tab o
          obtain ⟨aym, cym, rfl, _, _⟩ := OwnI.tab o2
          have Zz4 := Lib.hid (ownw_later Zz3.out b)
          have Yp4 := Lib.hid (owni_mono o hHeld.2.out.size)
          have Ym4 := Lib.hid (owni_mono o2 (Nat.le_trans hHeld.2.out.size hS))
          have bq4 := next hHeld.2.out b
          clear o o2 bP hS b
          go_wp2_with fail
          refine hK.out _ _ ?_ (fun hNew => ?_)
          · exact ⟨⟨vcell_far (bq4) XA1_2.out.lt XA1_2.out.1.1, vcell_far (bq4) XA1_2.out.lt XA1_2.out.1.2.1, vcell_far (bq4) XA1_2.out.lt XA1_2.out.1.2.2.1, vcell_far (bq4) XA1_2.out.lt XA1_2.out.1.2.2.2.1, vcell_far (bq4) XA1_2.out.lt XA1_2.out.1.2.2.2.2⟩, Lib.hid (bq4)⟩
          clear hK K hHeld
          have hHeld := hNew
          clear hNew
          try simp only [Act.put, List.setIfInBounds_toArray, List.set_cons_zero, List.set_cons_succ]
          refine takeH (i := 5) (v := ?_) rfl rfl (by kernel_rfl) (by kernel_rfl) (by kernel_rfl) (fun _ _ _ h => h) (by rfl) ?_ (by assumption) ?_
          rotate_left 1
          · intro w hSw
            (try dsimp only at hSw)
            go_simp
            try with_reducible rfl
          try simp only [List.setIfInBounds_toArray, List.set_cons_zero, List.set_cons_succ]
          refine takeH (i := 6) (v := ?_) rfl rfl (by kernel_rfl) (by kernel_rfl) (by kernel_rfl) (fun _ _ _ h => h) (by rfl) ?_ (by assumption) ?_
          rotate_left 1
          · intro w hSw
            (try dsimp only at hSw)
            go_simp
            try with_reducible rfl
          try simp only [List.setIfInBounds_toArray, List.set_cons_zero, List.set_cons_succ]
          refine takeH (i := 7) (v := ?_) rfl rfl (by kernel_rfl) (by kernel_rfl) (by kernel_rfl) (fun _ _ _ h => h) (by rfl) ?_ (by assumption) ?_
          rotate_left 1
          · intro w hSw
            (try dsimp only at hSw)
            go_simp
            try with_reducible rfl
          try simp only [List.setIfInBounds_toArray, List.set_cons_zero, List.set_cons_succ]
          refine wpAnyH_ready (rs := [9]) (by kernel_rfl) (by simp) ?_
          refine AllReadyH.cons rfl (fun K hK => ?_) (AllReadyH.nil)
          refine wp_stA 32 (.tmp 6) (.tmp 33) rfl (wz0.heap.size) #[.int .i64 fU, .int .i64 bU, .slice ayp PU.length cyp, .int .i64 lU, .slice aym MU.length cym] (by simp [Act.eval]) (by simp [Act.eval]) (one5a _ _ _ _ _ _ _ _ _) infoR5 _ (OwnW.atl Zz4.out) rfl ?_
          intro wz5 aa gg
          have HF : Hid (CutY w2 (wz0.heap.size) fU bU lU PU MU ayp cyp aym cym wz5) := Lib.hid (CutY.mk' hHeld.2.out Zz4.out Yp4.out Ym4.out aa gg)
          clear aa gg
          try simp only [List.getElem_toArray, List.getElem_cons_succ, List.getElem_cons_zero]
          refine hK.out _ _ ?_ (fun hNew => ?_)
          · exact ⟨⟨vcell_far (HF.out.bel) XA1_2.out.lt XA1_2.out.1.1, vcell_far (HF.out.bel) XA1_2.out.lt XA1_2.out.1.2.1, vcell_far (HF.out.bel) XA1_2.out.lt XA1_2.out.1.2.2.1, vcell_far (HF.out.bel) XA1_2.out.lt XA1_2.out.1.2.2.2.1, vcell_far (HF.out.bel) XA1_2.out.lt XA1_2.out.1.2.2.2.2⟩, Lib.hid (HF.out.bel)⟩
          clear hK K hHeld
          have hHeld := hNew
          clear hNew
          try simp only [Act.put, List.setIfInBounds_toArray, List.set_cons_zero, List.set_cons_succ]
          refine takeH (i := 10) (v := ?_) rfl rfl (by kernel_rfl) (by kernel_rfl) (by kernel_rfl) (fun _ _ _ h => h) (by rfl) ?_ (by assumption) ?_
          rotate_left 1
          · intro w hSw
            (try dsimp only at hSw)
            go_simp
            try with_reducible rfl
          try simp only [List.setIfInBounds_toArray, List.set_cons_zero, List.set_cons_succ]
          refine wpAnyH_done (by kernel_rfl) ?_ _
          clear hHeld
          go_wp2_with fail
          go_meet
          exact ⟨_, _, _, _, _, rfl, rfl, HF⟩
      case rest =>
        obtain ⟨Rw, awp, cwp, awm, cwm, rfl, rfl, HF⟩ := hcut
        have hRw := Lib.hid HF.out.low
        have HB3 := Lib.hid (HB2.out.trans (HF.out.bel.mono HB2.out.size))
        have hs3 := Lib.hid HF.out.bel.size
        have XA1_3 := Lib.hid (At5.below XA1_2.out HF.out.bel)
        have Owp_3 := Lib.hid (owni_mono HF.out.p HB2.out.size)
        have Owm_3 := Lib.hid (owni_mono HF.out.m HB2.out.size)
        have Xw_3 := Lib.hid HF.out.box
        have Bwp := Lib.hid (OwnI.btw HF.out.p)
        have Bwm := Lib.hid (OwnI.btw HF.out.m)
        have ltw := Lib.hid (At5.lt Xw_3.out)
        clear HF
        generalize wc = w3 at *
        obtain ⟨⟨qA10, qA11, qA12, qA13, qA14⟩, _⟩ := XA1_3.out
        obtain ⟨⟨qw0, qw1, qw2, qw3, qw4⟩, _⟩ := Xw_3.out
        go_wp2_with fail
        clear qA10 qA11 qA12 qA13 qA14
        clear qw0 qw1 qw2 qw3 qw4
        refine (tocls_any L0 a0 cap0 _ _ rfl (HA.out.below HB3.out) hlc).mono ?_
        rintro en w4 ⟨v, rfl, oc, b⟩
        have HB4 := Lib.hid (HB3.out.trans (b.mono HB3.out.size))
        have hs4 := Lib.hid b.size
        have Owp_4 := Lib.hid (owni_later Owp_3.out b)
        have Owm_4 := Lib.hid (owni_later Owm_3.out b)
        have XA1_4 := Lib.hid (At5.below XA1_3.out b)
        have Xw_4 := Lib.hid (At5.below Xw_3.out b)
        obtain ⟨acx, ccx, rfl, _, _⟩ := OwnC.tab oc
        have Bcx : Hid (pBtw (Value.slice acx L0.length ccx) w3.heap.size w4.heap.size) := Lib.hid (fun k hk => World.ownsRow.lt oc k hk)
        have Ccx_4 := Lib.hid (ownc_mono oc HB3.out.size)
        clear oc b
        obtain ⟨⟨qA10, qA11, qA12, qA13, qA14⟩, _⟩ := XA1_4.out
        obtain ⟨⟨qw0, qw1, qw2, qw3, qw4⟩, _⟩ := Xw_4.out
        go_wp2_with fail
        clear qA10 qA11 qA12 qA13 qA14
        clear qw0 qw1 qw2 qw3 qw4
        refine (tort_is f1 b1 a1 c1 P1 l1 d1 e1 M1 _ ⟨⟨HM1.out.1.below HB4.out, HM1.out.2.below HB4.out⟩, hcP1, hcM1, by omega, by omega⟩ (by omega) (by omega)).mono ?_
        rintro en w5 ⟨pv, mv, rfl, S, o, bP, o2, hS, b⟩
        have HB5 := Lib.hid (HB4.out.trans (b.mono HB4.out.size))
        have hs5 := Lib.hid b.size
        have Owp_5 := Lib.hid (owni_later Owp_4.out b)
        have Owm_5 := Lib.hid (owni_later Owm_4.out b)
        have XA1_5 := Lib.hid (At5.below XA1_4.out b)
        have Xw_5 := Lib.hid (At5.below Xw_4.out b)
        have Ccx_5 := Lib.hid (ownc_later Ccx_4.out b)
        replace o : OwnI w5 w4.heap.size pv P1 := o
        replace o2 : OwnI w5 S mv M1 := o2
        obtain ⟨axp, cxp, rfl, _, _⟩ := OwnI.tab o
        obtain ⟨axm, cxm, rfl, _, _⟩ := OwnI.tab o2
        have Ax := Lib.hid (apart2 bP o2)
        have Bxp := Lib.hid (OwnI.btw o)
        have Bxm := Lib.hid ((OwnI.btw o2).mono hS (Nat.le_refl _))
        have Oxp_5 := Lib.hid (owni_mono o HB4.out.size)
        have Oxm_5 := Lib.hid (owni_mono o2 (Nat.le_trans HB4.out.size hS))
        clear o o2 bP hS b
        have HB6 := Lib.hid (HB5.out.alloc HB5.out.size (.cells #[.int .i64 f1, .int .i64 b1, .slice axp (P1).length cxp, .int .i64 l1, .slice axm (M1).length cxm] 32))
        have hs6 := Lib.hid (show w5.heap.size + 1 = (w5.alloc (.cells #[.int .i64 f1, .int .i64 b1, .slice axp (P1).length cxp, .int .i64 l1, .slice axm (M1).length cxm] 32)).heap.size by simp)
        have Owp_6 := Lib.hid (World.ownsRow.alloc Owp_5.out (.cells #[.int .i64 f1, .int .i64 b1, .slice axp (P1).length cxp, .int .i64 l1, .slice axm (M1).length cxm] 32))
        have Owm_6 := Lib.hid (World.ownsRow.alloc Owm_5.out (.cells #[.int .i64 f1, .int .i64 b1, .slice axp (P1).length cxp, .int .i64 l1, .slice axm (M1).length cxm] 32))
        have Oxp_6 := Lib.hid (World.ownsRow.alloc Oxp_5.out (.cells #[.int .i64 f1, .int .i64 b1, .slice axp (P1).length cxp, .int .i64 l1, .slice axm (M1).length cxm] 32))
        have Oxm_6 := Lib.hid (World.ownsRow.alloc Oxm_5.out (.cells #[.int .i64 f1, .int .i64 b1, .slice axp (P1).length cxp, .int .i64 l1, .slice axm (M1).length cxm] 32))
        have XA1_6 := Lib.hid (At5.alloc XA1_5.out (.cells #[.int .i64 f1, .int .i64 b1, .slice axp (P1).length cxp, .int .i64 l1, .slice axm (M1).length cxm] 32))
        have Xw_6 := Lib.hid (At5.alloc Xw_5.out (.cells #[.int .i64 f1, .int .i64 b1, .slice axp (P1).length cxp, .int .i64 l1, .slice axm (M1).length cxm] 32))
        have Ccx_6 := Lib.hid (World.ownsRow.alloc Ccx_5.out (.cells #[.int .i64 f1, .int .i64 b1, .slice axp (P1).length cxp, .int .i64 l1, .slice axm (M1).length cxm] 32))
        have Xx_6 := Lib.hid (At5.new w5 (.int .i64 f1) (.int .i64 b1) (.slice axp (P1).length cxp) (.int .i64 l1) (.slice axm (M1).length cxm) 32)
        obtain ⟨⟨qA10, qA11, qA12, qA13, qA14⟩, _⟩ := XA1_6.out
        obtain ⟨⟨qw0, qw1, qw2, qw3, qw4⟩, _⟩ := Xw_6.out
        go_wp2_with fail
        clear qA10 qA11 qA12 qA13 qA14
        clear qw0 qw1 qw2 qw3 qw4
        generalize w5.alloc (.cells #[.int .i64 f1, .int .i64 b1, .slice axp (P1).length cxp, .int .i64 l1, .slice axm (M1).length cxm] 32) = w6 at *
        refine (ipoldo_is L0 acx _ ccx f1 b1 axp cxp (P1) l1 axm cxm (M1) HU.out _ p rfl (ownc_cs Ccx_6.out) (by omega) ⟨⟨(OwnI.intA Oxp_6.out).2.2, (OwnI.intA Oxm_6.out).2.2⟩, (OwnI.intA Oxp_6.out).2.1, (OwnI.intA Oxm_6.out).2.1, by omega, by omega⟩ (HE.out.below HB6.out)).mono ?_
        rintro en w7 ⟨pv, mv, rfl, S, o, bP, o2, hS, b⟩
        have HB7 := Lib.hid (HB6.out.trans (b.mono HB6.out.size))
        have hs7 := Lib.hid b.size
        have Owp_7 := Lib.hid (owni_later Owp_6.out b)
        have Owm_7 := Lib.hid (owni_later Owm_6.out b)
        have Oxp_7 := Lib.hid (owni_later Oxp_6.out b)
        have Oxm_7 := Lib.hid (owni_later Oxm_6.out b)
        have XA1_7 := Lib.hid (At5.below XA1_6.out b)
        have Xw_7 := Lib.hid (At5.below Xw_6.out b)
        have Xx_7 := Lib.hid (At5.below Xx_6.out b)
        have Ccx_7 := Lib.hid (ownc_later Ccx_6.out b)
        replace o : OwnI w7 w6.heap.size pv PU := o
        replace o2 : OwnI w7 S mv MU := o2
        obtain ⟨agp, cgp, rfl, _, _⟩ := OwnI.tab o
        obtain ⟨agm, cgm, rfl, _, _⟩ := OwnI.tab o2
        have Ag := Lib.hid (apart2 bP o2)
        have Bgp := Lib.hid (OwnI.btw o)
        have Bgm := Lib.hid ((OwnI.btw o2).mono hS (Nat.le_refl _))
        have Ogp_7 := Lib.hid (owni_mono o HB6.out.size)
        have Ogm_7 := Lib.hid (owni_mono o2 (Nat.le_trans HB6.out.size hS))
        clear o o2 bP hS b
        have HB8 := Lib.hid (HB7.out.alloc HB7.out.size (.cells #[.int .i64 fU, .int .i64 bU, .slice agp (PU).length cgp, .int .i64 lU, .slice agm (MU).length cgm] 32))
        have hs8 := Lib.hid (show w7.heap.size + 1 = (w7.alloc (.cells #[.int .i64 fU, .int .i64 bU, .slice agp (PU).length cgp, .int .i64 lU, .slice agm (MU).length cgm] 32)).heap.size by simp)
        have Owp_8 := Lib.hid (World.ownsRow.alloc Owp_7.out (.cells #[.int .i64 fU, .int .i64 bU, .slice agp (PU).length cgp, .int .i64 lU, .slice agm (MU).length cgm] 32))
        have Owm_8 := Lib.hid (World.ownsRow.alloc Owm_7.out (.cells #[.int .i64 fU, .int .i64 bU, .slice agp (PU).length cgp, .int .i64 lU, .slice agm (MU).length cgm] 32))
        have Oxp_8 := Lib.hid (World.ownsRow.alloc Oxp_7.out (.cells #[.int .i64 fU, .int .i64 bU, .slice agp (PU).length cgp, .int .i64 lU, .slice agm (MU).length cgm] 32))
        have Oxm_8 := Lib.hid (World.ownsRow.alloc Oxm_7.out (.cells #[.int .i64 fU, .int .i64 bU, .slice agp (PU).length cgp, .int .i64 lU, .slice agm (MU).length cgm] 32))
        have Ogp_8 := Lib.hid (World.ownsRow.alloc Ogp_7.out (.cells #[.int .i64 fU, .int .i64 bU, .slice agp (PU).length cgp, .int .i64 lU, .slice agm (MU).length cgm] 32))
        have Ogm_8 := Lib.hid (World.ownsRow.alloc Ogm_7.out (.cells #[.int .i64 fU, .int .i64 bU, .slice agp (PU).length cgp, .int .i64 lU, .slice agm (MU).length cgm] 32))
        have XA1_8 := Lib.hid (At5.alloc XA1_7.out (.cells #[.int .i64 fU, .int .i64 bU, .slice agp (PU).length cgp, .int .i64 lU, .slice agm (MU).length cgm] 32))
        have Xw_8 := Lib.hid (At5.alloc Xw_7.out (.cells #[.int .i64 fU, .int .i64 bU, .slice agp (PU).length cgp, .int .i64 lU, .slice agm (MU).length cgm] 32))
        have Xx_8 := Lib.hid (At5.alloc Xx_7.out (.cells #[.int .i64 fU, .int .i64 bU, .slice agp (PU).length cgp, .int .i64 lU, .slice agm (MU).length cgm] 32))
        have Ccx_8 := Lib.hid (World.ownsRow.alloc Ccx_7.out (.cells #[.int .i64 fU, .int .i64 bU, .slice agp (PU).length cgp, .int .i64 lU, .slice agm (MU).length cgm] 32))
        have Xg_8 := Lib.hid (At5.new w7 (.int .i64 fU) (.int .i64 bU) (.slice agp (PU).length cgp) (.int .i64 lU) (.slice agm (MU).length cgm) 32)
        obtain ⟨⟨qA10, qA11, qA12, qA13, qA14⟩, _⟩ := XA1_8.out
        obtain ⟨⟨qw0, qw1, qw2, qw3, qw4⟩, _⟩ := Xw_8.out
        obtain ⟨⟨qx0, qx1, qx2, qx3, qx4⟩, _⟩ := Xx_8.out
        go_wp2_with fail
        clear qA10 qA11 qA12 qA13 qA14
        clear qw0 qw1 qw2 qw3 qw4
        clear qx0 qx1 qx2 qx3 qx4
        generalize w7.alloc (.cells #[.int .i64 fU, .int .i64 bU, .slice agp (PU).length cgp, .int .i64 lU, .slice agm (MU).length cgm] 32) = w8 at *
        refine (eqrt_is fU bU agp cgp (PU) lU agm cgm (MU) fU bU awp cwp (PU) lU awm cwm (MU) (show decide (((fU, bU, PU, lU, MU) : Rt) = ((fU, bU, PU, lU, MU) : Rt)) = true from decide_eq_true rfl) _ ⟨⟨(OwnI.intA Ogp_8.out).2.2, (OwnI.intA Ogm_8.out).2.2⟩, (OwnI.intA Ogp_8.out).2.1, (OwnI.intA Ogm_8.out).2.1, by omega, by omega⟩ ⟨⟨(OwnI.intA Owp_8.out).2.2, (OwnI.intA Owm_8.out).2.2⟩, (OwnI.intA Owp_8.out).2.1, (OwnI.intA Owm_8.out).2.1, by omega, by omega⟩).mono ?_
        rintro en w9 ⟨rfl, b⟩
        have HB9 := Lib.hid (HB8.out.trans (b.mono HB8.out.size))
        have hs9 := Lib.hid b.size
        have Owp_9 := Lib.hid (owni_later Owp_8.out b)
        have Owm_9 := Lib.hid (owni_later Owm_8.out b)
        have Oxp_9 := Lib.hid (owni_later Oxp_8.out b)
        have Oxm_9 := Lib.hid (owni_later Oxm_8.out b)
        have Ogp_9 := Lib.hid (owni_later Ogp_8.out b)
        have Ogm_9 := Lib.hid (owni_later Ogm_8.out b)
        have XA1_9 := Lib.hid (At5.below XA1_8.out b)
        have Xw_9 := Lib.hid (At5.below Xw_8.out b)
        have Xx_9 := Lib.hid (At5.below Xx_8.out b)
        have Xg_9 := Lib.hid (At5.below Xg_8.out b)
        have Ccx_9 := Lib.hid (ownc_later Ccx_8.out b)
        clear b
        obtain ⟨⟨qA10, qA11, qA12, qA13, qA14⟩, _⟩ := XA1_9.out
        obtain ⟨⟨qw0, qw1, qw2, qw3, qw4⟩, _⟩ := Xw_9.out
        obtain ⟨⟨qx0, qx1, qx2, qx3, qx4⟩, _⟩ := Xx_9.out
        obtain ⟨⟨qg0, qg1, qg2, qg3, qg4⟩, _⟩ := Xg_9.out
        go_wp2_with fail
        clear qA10 qA11 qA12 qA13 qA14
        clear qw0 qw1 qw2 qw3 qw4
        clear qx0 qx1 qx2 qx3 qx4
        clear qg0 qg1 qg2 qg3 qg4
        refine (tocls_any L0 a0 cap0 _ _ rfl (HA.out.below HB9.out) hlc).mono ?_
        rintro en w10 ⟨v, rfl, oc, b⟩
        have HB10 := Lib.hid (HB9.out.trans (b.mono HB9.out.size))
        have hs10 := Lib.hid b.size
        have Owp_10 := Lib.hid (owni_later Owp_9.out b)
        have Owm_10 := Lib.hid (owni_later Owm_9.out b)
        have Oxp_10 := Lib.hid (owni_later Oxp_9.out b)
        have Oxm_10 := Lib.hid (owni_later Oxm_9.out b)
        have Ogp_10 := Lib.hid (owni_later Ogp_9.out b)
        have Ogm_10 := Lib.hid (owni_later Ogm_9.out b)
        have XA1_10 := Lib.hid (At5.below XA1_9.out b)
        have Xw_10 := Lib.hid (At5.below Xw_9.out b)
        have Xx_10 := Lib.hid (At5.below Xx_9.out b)
        have Xg_10 := Lib.hid (At5.below Xg_9.out b)
        have Ccx_10 := Lib.hid (ownc_later Ccx_9.out b)
        obtain ⟨acy, ccy, rfl, _, _⟩ := OwnC.tab oc
        have Bcy : Hid (pBtw (Value.slice acy L0.length ccy) w9.heap.size w10.heap.size) := Lib.hid (fun k hk => World.ownsRow.lt oc k hk)
        have Ccy_10 := Lib.hid (ownc_mono oc HB9.out.size)
        clear oc b
        obtain ⟨⟨qA10, qA11, qA12, qA13, qA14⟩, _⟩ := XA1_10.out
        obtain ⟨⟨qw0, qw1, qw2, qw3, qw4⟩, _⟩ := Xw_10.out
        obtain ⟨⟨qx0, qx1, qx2, qx3, qx4⟩, _⟩ := Xx_10.out
        obtain ⟨⟨qg0, qg1, qg2, qg3, qg4⟩, _⟩ := Xg_10.out
        go_wp2_with fail
        clear qA10 qA11 qA12 qA13 qA14
        clear qw0 qw1 qw2 qw3 qw4
        clear qx0 qx1 qx2 qx3 qx4
        clear qg0 qg1 qg2 qg3 qg4
        refine (eqcls_is L0 acx acy ccx ccy _ _ _ rfl rfl (ownc_cs Ccx_10.out) (ownc_cs Ccy_10.out) (by omega)).mono ?_
        rintro en w11 ⟨rfl, b⟩
        have HB11 := Lib.hid (HB10.out.trans (b.mono HB10.out.size))
        have hs11 := Lib.hid b.size
        have Owp_11 := Lib.hid (owni_later Owp_10.out b)
        have Owm_11 := Lib.hid (owni_later Owm_10.out b)
        have Oxp_11 := Lib.hid (owni_later Oxp_10.out b)
        have Oxm_11 := Lib.hid (owni_later Oxm_10.out b)
        have Ogp_11 := Lib.hid (owni_later Ogp_10.out b)
        have Ogm_11 := Lib.hid (owni_later Ogm_10.out b)
        have XA1_11 := Lib.hid (At5.below XA1_10.out b)
        have Xw_11 := Lib.hid (At5.below Xw_10.out b)
        have Xx_11 := Lib.hid (At5.below Xx_10.out b)
        have Xg_11 := Lib.hid (At5.below Xg_10.out b)
        have Ccx_11 := Lib.hid (ownc_later Ccx_10.out b)
        have Ccy_11 := Lib.hid (ownc_later Ccy_10.out b)
        clear b
        obtain ⟨⟨qA10, qA11, qA12, qA13, qA14⟩, _⟩ := XA1_11.out
        obtain ⟨⟨qx0, qx1, qx2, qx3, qx4⟩, _⟩ := Xx_11.out
        go_wp2_with fail
        clear qA10 qA11 qA12 qA13 qA14
        clear qx0 qx1 qx2 qx3 qx4
        have HRX : Hid (RtM w11 axp cxp P1 axm cxm M1) := Lib.hid ⟨⟨(OwnI.intA Oxp_11.out).2.2, (OwnI.intA Oxm_11.out).2.2⟩, (OwnI.intA Oxp_11.out).2.1, (OwnI.intA Oxm_11.out).2.1, by omega, by omega⟩
        refine wp_region_held_drew (S := fun W => ((W.cell? ⟨w5.heap.size, 0, none⟩ = some (.int .i64 f1) ∧ W.cell? ⟨w5.heap.size, 1, none⟩ = some (.int .i64 b1) ∧ W.cell? ⟨w5.heap.size, 2, none⟩ = some (.slice axp (P1).length cxp) ∧ W.cell? ⟨w5.heap.size, 3, none⟩ = some (.int .i64 l1) ∧ W.cell? ⟨w5.heap.size, 4, none⟩ = some (.slice axm (M1).length cxm)) ∧ (W.cell? ⟨w.heap.size, 0, none⟩ = some (.int .i64 f1) ∧ W.cell? ⟨w.heap.size, 1, none⟩ = some (.int .i64 b1) ∧ W.cell? ⟨w.heap.size, 2, none⟩ = some (.slice a1 P1.length c1) ∧ W.cell? ⟨w.heap.size, 3, none⟩ = some (.int .i64 l1) ∧ W.cell? ⟨w.heap.size, 4, none⟩ = some (.slice d1 M1.length e1))) ∧ Hid (Below w11.heap.size w11 W)) (by kernel_rfl) ?_ (fun hHeld => ?_)
        · exact ⟨⟨Xx_11.out.1, XA1_11.out.1⟩, Lib.hid (Below.refl _ w11).drew⟩
        refine takeH (i := 0) (v := ?_) rfl rfl (by kernel_rfl) (by kernel_rfl) (by kernel_rfl) (fun _ _ _ h => h) (by rfl) ?_ (by assumption) ?_
        rotate_left 1
        · intro w hSw
          (try dsimp only at hSw)
          go_simp
          try with_reducible rfl
        try simp only [List.setIfInBounds_toArray, List.set_cons_zero, List.set_cons_succ]
        refine takeH (i := 1) (v := ?_) rfl rfl (by kernel_rfl) (by kernel_rfl) (by kernel_rfl) (fun _ _ _ h => h) (by rfl) ?_ (by assumption) ?_
        rotate_left 1
        · intro w hSw
          (try dsimp only at hSw)
          go_simp
          try with_reducible rfl
        try simp only [List.setIfInBounds_toArray, List.set_cons_zero, List.set_cons_succ]
        refine wpAnyH_ready (rs := [2]) (by kernel_rfl) (by simp) ?_
        refine AllReadyH.cons rfl (fun K hK => ?_) (AllReadyH.nil)
        go_simp
        refine (tort_is f1 b1 a1 c1 P1 l1 d1 e1 M1 _ ⟨⟨HM1.out.1.below (HB11.out.trans (hHeld.2.out.mono HB11.out.size)), HM1.out.2.below (HB11.out.trans (hHeld.2.out.mono HB11.out.size))⟩, hcP1, hcM1, by omega, by omega⟩ (by omega) (by omega)).mono ?_
        rintro en wy ⟨pv, mv, rfl, S, o, bP, o2, hS, b⟩
        replace o : OwnI wy _ pv P1 := o
        replace o2 : OwnI wy S mv M1 := o2
        obtain ⟨ayp, cyp, rfl, _, _⟩ := OwnI.tab o
        obtain ⟨aym, cym, rfl, _, _⟩ := OwnI.tab o2
        have OYy := Lib.hid (And.intro o o2)
        clear o o2 bP hS
        go_wp2_with fail
        refine hK.out _ _ ?_ (fun hNew => ?_)
        · exact ⟨⟨⟨vcell_far (next hHeld.2.out b) Xx_11.out.lt Xx_11.out.1.1, vcell_far (next hHeld.2.out b) Xx_11.out.lt Xx_11.out.1.2.1, vcell_far (next hHeld.2.out b) Xx_11.out.lt Xx_11.out.1.2.2.1, vcell_far (next hHeld.2.out b) Xx_11.out.lt Xx_11.out.1.2.2.2.1, vcell_far (next hHeld.2.out b) Xx_11.out.lt Xx_11.out.1.2.2.2.2⟩, ⟨vcell_far (next hHeld.2.out b) XA1_11.out.lt XA1_11.out.1.1, vcell_far (next hHeld.2.out b) XA1_11.out.lt XA1_11.out.1.2.1, vcell_far (next hHeld.2.out b) XA1_11.out.lt XA1_11.out.1.2.2.1, vcell_far (next hHeld.2.out b) XA1_11.out.lt XA1_11.out.1.2.2.2.1, vcell_far (next hHeld.2.out b) XA1_11.out.lt XA1_11.out.1.2.2.2.2⟩⟩, Lib.hid (next hHeld.2.out b)⟩
        clear hK K hHeld
        have hHeld := hNew
        clear hNew
        try simp only [Act.put, List.setIfInBounds_toArray, List.set_cons_zero, List.set_cons_succ]
        refine wpAnyH_ready (rs := [3]) (by kernel_rfl) (by simp) ?_
        refine AllReadyH.cons rfl (fun K hK => ?_) (AllReadyH.nil)
        go_simp
        refine (eqrt_is f1 b1 axp cxp P1 l1 axm cxm M1 f1 b1 ayp cyp P1 l1 aym cym M1 (show decide (((f1, b1, P1, l1, M1) : Rt) = ((f1, b1, P1, l1, M1) : Rt)) = true from decide_eq_true rfl) _ (HRX.out.below hHeld.2.out) ⟨⟨(OwnI.intA OYy.out.1).2.2, (OwnI.intA OYy.out.2).2.2⟩, (OwnI.intA OYy.out.1).2.1, (OwnI.intA OYy.out.2).2.1, by omega, by omega⟩).mono ?_
        rintro en wz ⟨rfl, b⟩
        go_wp2_with fail
        refine hK.out _ _ ?_ (fun hNew => ?_)
        · exact ⟨⟨⟨vcell_far (next hHeld.2.out b) Xx_11.out.lt Xx_11.out.1.1, vcell_far (next hHeld.2.out b) Xx_11.out.lt Xx_11.out.1.2.1, vcell_far (next hHeld.2.out b) Xx_11.out.lt Xx_11.out.1.2.2.1, vcell_far (next hHeld.2.out b) Xx_11.out.lt Xx_11.out.1.2.2.2.1, vcell_far (next hHeld.2.out b) Xx_11.out.lt Xx_11.out.1.2.2.2.2⟩, ⟨vcell_far (next hHeld.2.out b) XA1_11.out.lt XA1_11.out.1.1, vcell_far (next hHeld.2.out b) XA1_11.out.lt XA1_11.out.1.2.1, vcell_far (next hHeld.2.out b) XA1_11.out.lt XA1_11.out.1.2.2.1, vcell_far (next hHeld.2.out b) XA1_11.out.lt XA1_11.out.1.2.2.2.1, vcell_far (next hHeld.2.out b) XA1_11.out.lt XA1_11.out.1.2.2.2.2⟩⟩, Lib.hid (next hHeld.2.out b)⟩
        clear hK K hHeld
        have hHeld := hNew
        clear hNew
        try simp only [Act.put, List.setIfInBounds_toArray, List.set_cons_zero, List.set_cons_succ]
        refine takeH (i := 4) (v := ?_) rfl rfl (by kernel_rfl) (by kernel_rfl) (by kernel_rfl) (fun _ _ _ h => h) (by rfl) ?_ (by assumption) ?_
        rotate_left 1
        · intro w hSw
          (try dsimp only at hSw)
          go_simp
          try with_reducible rfl
        try simp only [List.setIfInBounds_toArray, List.set_cons_zero, List.set_cons_succ]
        refine wpAnyH_done (by kernel_rfl) ?_ _
        have Hbt := Lib.hid hHeld.2.out
        clear hHeld HRX
        try clear OYy
        have HB12 := Lib.hid (HB11.out.trans (Hbt.out.mono HB11.out.size))
        have hs12 := Lib.hid Hbt.out.size
        have Owp_12 := Lib.hid (owni_later Owp_11.out Hbt.out)
        have Owm_12 := Lib.hid (owni_later Owm_11.out Hbt.out)
        have Oxp_12 := Lib.hid (owni_later Oxp_11.out Hbt.out)
        have Oxm_12 := Lib.hid (owni_later Oxm_11.out Hbt.out)
        have Ogp_12 := Lib.hid (owni_later Ogp_11.out Hbt.out)
        have Ogm_12 := Lib.hid (owni_later Ogm_11.out Hbt.out)
        have XA1_12 := Lib.hid (At5.below XA1_11.out Hbt.out)
        have Xw_12 := Lib.hid (At5.below Xw_11.out Hbt.out)
        have Xx_12 := Lib.hid (At5.below Xx_11.out Hbt.out)
        have Xg_12 := Lib.hid (At5.below Xg_11.out Hbt.out)
        have Ccx_12 := Lib.hid (ownc_later Ccx_11.out Hbt.out)
        clear Hbt
        generalize wz = w12 at *
        have hnn : ¬ ((1 + L0.length * 8 + P1.length + M1.length : Nat) : Int) < 0 := by omega
        have hnu : ¬ ((1 + PU.length + MU.length : Nat) : Int) < 0 := by omega
        obtain ⟨⟨qA10, qA11, qA12, qA13, qA14⟩, _⟩ := XA1_12.out
        obtain ⟨⟨qw0, qw1, qw2, qw3, qw4⟩, _⟩ := Xw_12.out
        obtain ⟨⟨qx0, qx1, qx2, qx3, qx4⟩, _⟩ := Xx_12.out
        obtain ⟨⟨qg0, qg1, qg2, qg3, qg4⟩, _⟩ := Xg_12.out
        go_wp2_with fail
        clear qA10 qA11 qA12 qA13 qA14
        clear qw0 qw1 qw2 qw3 qw4
        clear qx0 qx1 qx2 qx3 qx4
        clear qg0 qg1 qg2 qg3 qg4
        refine (markcl_any _ L0 _ _ Ccx_12.out (by omega)).mono ?_
        rintro en w13 ⟨rfl, gg⟩
        have hs13 := Lib.hid gg.size
        have HB13 := Lib.hid (HB12.out.grown gg HB12.out.size (fun k e => (World.ownsRow.lt Ccx_12.out k e).1))
        have Owp_13 := Lib.hid (World.ownsRow.kept Owp_12.out gg (rows_apart Owp_12.out Ccx_12.out (by decide)))
        have Owm_13 := Lib.hid (World.ownsRow.kept Owm_12.out gg (rows_apart Owm_12.out Ccx_12.out (by decide)))
        have Oxp_13 := Lib.hid (World.ownsRow.kept Oxp_12.out gg (rows_apart Oxp_12.out Ccx_12.out (by decide)))
        have Oxm_13 := Lib.hid (World.ownsRow.kept Oxm_12.out gg (rows_apart Oxm_12.out Ccx_12.out (by decide)))
        have Ogp_13 := Lib.hid (World.ownsRow.kept Ogp_12.out gg (rows_apart Ogp_12.out Ccx_12.out (by decide)))
        have Ogm_13 := Lib.hid (World.ownsRow.kept Ogm_12.out gg (rows_apart Ogm_12.out Ccx_12.out (by decide)))
        have XA1_13 := Lib.hid (At5.only XA1_12.out gg (fun q => by have hq := Bcx.out _ q.symm; have := hs1.out; have := hs2.out; have := hs3.out; have := hRw.out; have := ltw.out; have := hs4.out; have := hs5.out; have := hs6.out; have := hs7.out; have := hs8.out; have := hs9.out; have := hs10.out; have := hs11.out; have := hs12.out; omega))
        have Xw_13 := Lib.hid (At5.only Xw_12.out gg (fun q => by have hq := Bcx.out _ q.symm; have := hs1.out; have := hs2.out; have := hs3.out; have := hRw.out; have := ltw.out; have := hs4.out; have := hs5.out; have := hs6.out; have := hs7.out; have := hs8.out; have := hs9.out; have := hs10.out; have := hs11.out; have := hs12.out; omega))
        have Xx_13 := Lib.hid (At5.only Xx_12.out gg (fun q => by have hq := Bcx.out _ q.symm; have := hs1.out; have := hs2.out; have := hs3.out; have := hRw.out; have := ltw.out; have := hs4.out; have := hs5.out; have := hs6.out; have := hs7.out; have := hs8.out; have := hs9.out; have := hs10.out; have := hs11.out; have := hs12.out; omega))
        have Xg_13 := Lib.hid (At5.only Xg_12.out gg (fun q => by have hq := Bcx.out _ q.symm; have := hs1.out; have := hs2.out; have := hs3.out; have := hRw.out; have := ltw.out; have := hs4.out; have := hs5.out; have := hs6.out; have := hs7.out; have := hs8.out; have := hs9.out; have := hs10.out; have := hs11.out; have := hs12.out; omega))
        clear gg
        obtain ⟨⟨qA10, qA11, qA12, qA13, qA14⟩, _⟩ := XA1_13.out
        obtain ⟨⟨qw0, qw1, qw2, qw3, qw4⟩, _⟩ := Xw_13.out
        obtain ⟨⟨qx0, qx1, qx2, qx3, qx4⟩, _⟩ := Xx_13.out
        obtain ⟨⟨qg0, qg1, qg2, qg3, qg4⟩, _⟩ := Xg_13.out
        go_wp2_with fail
        clear qA10 qA11 qA12 qA13 qA14
        clear qw0 qw1 qw2 qw3 qw4
        clear qx0 qx1 qx2 qx3 qx4
        clear qg0 qg1 qg2 qg3 qg4
        refine (markrt_at (1 + L0.length * 8) (by omega) f1 b1 l1 _ _ _ _ (P1) (M1) _ _ _ Oxp_13.out Oxm_13.out Ax.out (by omega) (by omega)).mono ?_
        rintro en w14 ⟨rfl, o, o2, V0, V1, b0, g1, g2⟩
        have hs14 := Lib.hid (Nat.le_trans b0.size (Nat.le_trans g1.size g2.size))
        have HB14 := Lib.hid (((HB13.out.trans (b0.mono HB13.out.size)).grown g1 (Nat.le_trans HB13.out.size b0.size) (fun k e => (World.ownsRow.lt Oxp_13.out k e).1)).grown g2 (Nat.le_trans HB13.out.size (Nat.le_trans b0.size g1.size)) (fun k e => (World.ownsRow.lt Oxm_13.out k e).1))
        have Owp_14 := Lib.hid (World.ownsRow.kept (World.ownsRow.kept (owni_later Owp_13.out b0) g1 (pBtw.apart Bwp.out Bxp.out (by have := hs1.out; have := hs2.out; have := hs3.out; have := hRw.out; have := ltw.out; have := hs4.out; have := hs5.out; have := hs6.out; have := hs7.out; have := hs8.out; have := hs9.out; have := hs10.out; have := hs11.out; have := hs12.out; have := hs13.out; omega))) g2 (pBtw.apart Bwp.out Bxm.out (by have := hs1.out; have := hs2.out; have := hs3.out; have := hRw.out; have := ltw.out; have := hs4.out; have := hs5.out; have := hs6.out; have := hs7.out; have := hs8.out; have := hs9.out; have := hs10.out; have := hs11.out; have := hs12.out; have := hs13.out; omega)))
        have Owm_14 := Lib.hid (World.ownsRow.kept (World.ownsRow.kept (owni_later Owm_13.out b0) g1 (pBtw.apart Bwm.out Bxp.out (by have := hs1.out; have := hs2.out; have := hs3.out; have := hRw.out; have := ltw.out; have := hs4.out; have := hs5.out; have := hs6.out; have := hs7.out; have := hs8.out; have := hs9.out; have := hs10.out; have := hs11.out; have := hs12.out; have := hs13.out; omega))) g2 (pBtw.apart Bwm.out Bxm.out (by have := hs1.out; have := hs2.out; have := hs3.out; have := hRw.out; have := ltw.out; have := hs4.out; have := hs5.out; have := hs6.out; have := hs7.out; have := hs8.out; have := hs9.out; have := hs10.out; have := hs11.out; have := hs12.out; have := hs13.out; omega)))
        have Ogp_14 := Lib.hid (World.ownsRow.kept (World.ownsRow.kept (owni_later Ogp_13.out b0) g1 (pBtw.apart Bgp.out Bxp.out (by have := hs1.out; have := hs2.out; have := hs3.out; have := hRw.out; have := ltw.out; have := hs4.out; have := hs5.out; have := hs6.out; have := hs7.out; have := hs8.out; have := hs9.out; have := hs10.out; have := hs11.out; have := hs12.out; have := hs13.out; omega))) g2 (pBtw.apart Bgp.out Bxm.out (by have := hs1.out; have := hs2.out; have := hs3.out; have := hRw.out; have := ltw.out; have := hs4.out; have := hs5.out; have := hs6.out; have := hs7.out; have := hs8.out; have := hs9.out; have := hs10.out; have := hs11.out; have := hs12.out; have := hs13.out; omega)))
        have Ogm_14 := Lib.hid (World.ownsRow.kept (World.ownsRow.kept (owni_later Ogm_13.out b0) g1 (pBtw.apart Bgm.out Bxp.out (by have := hs1.out; have := hs2.out; have := hs3.out; have := hRw.out; have := ltw.out; have := hs4.out; have := hs5.out; have := hs6.out; have := hs7.out; have := hs8.out; have := hs9.out; have := hs10.out; have := hs11.out; have := hs12.out; have := hs13.out; omega))) g2 (pBtw.apart Bgm.out Bxm.out (by have := hs1.out; have := hs2.out; have := hs3.out; have := hRw.out; have := ltw.out; have := hs4.out; have := hs5.out; have := hs6.out; have := hs7.out; have := hs8.out; have := hs9.out; have := hs10.out; have := hs11.out; have := hs12.out; have := hs13.out; omega)))
        have XA1_14 := Lib.hid (((At5.below XA1_13.out b0).only g1 (fun q => by have hq := Bxp.out _ q.symm; have := hs1.out; have := hs2.out; have := hs3.out; have := hRw.out; have := ltw.out; have := hs4.out; have := hs5.out; have := hs6.out; have := hs7.out; have := hs8.out; have := hs9.out; have := hs10.out; have := hs11.out; have := hs12.out; have := hs13.out; omega)).only g2 (fun q => by have hq := Bxm.out _ q.symm; have := hs1.out; have := hs2.out; have := hs3.out; have := hRw.out; have := ltw.out; have := hs4.out; have := hs5.out; have := hs6.out; have := hs7.out; have := hs8.out; have := hs9.out; have := hs10.out; have := hs11.out; have := hs12.out; have := hs13.out; omega))
        have Xw_14 := Lib.hid (((At5.below Xw_13.out b0).only g1 (fun q => by have hq := Bxp.out _ q.symm; have := hs1.out; have := hs2.out; have := hs3.out; have := hRw.out; have := ltw.out; have := hs4.out; have := hs5.out; have := hs6.out; have := hs7.out; have := hs8.out; have := hs9.out; have := hs10.out; have := hs11.out; have := hs12.out; have := hs13.out; omega)).only g2 (fun q => by have hq := Bxm.out _ q.symm; have := hs1.out; have := hs2.out; have := hs3.out; have := hRw.out; have := ltw.out; have := hs4.out; have := hs5.out; have := hs6.out; have := hs7.out; have := hs8.out; have := hs9.out; have := hs10.out; have := hs11.out; have := hs12.out; have := hs13.out; omega))
        have Xg_14 := Lib.hid (((At5.below Xg_13.out b0).only g1 (fun q => by have hq := Bxp.out _ q.symm; have := hs1.out; have := hs2.out; have := hs3.out; have := hRw.out; have := ltw.out; have := hs4.out; have := hs5.out; have := hs6.out; have := hs7.out; have := hs8.out; have := hs9.out; have := hs10.out; have := hs11.out; have := hs12.out; have := hs13.out; omega)).only g2 (fun q => by have hq := Bxm.out _ q.symm; have := hs1.out; have := hs2.out; have := hs3.out; have := hRw.out; have := ltw.out; have := hs4.out; have := hs5.out; have := hs6.out; have := hs7.out; have := hs8.out; have := hs9.out; have := hs10.out; have := hs11.out; have := hs12.out; have := hs13.out; omega))
        clear o o2 b0 g1 g2
        generalize hk1 : 1 + L0.length * 8 + P1.length + M1.length = K1 at *
        obtain ⟨⟨qA10, qA11, qA12, qA13, qA14⟩, _⟩ := XA1_14.out
        obtain ⟨⟨qw0, qw1, qw2, qw3, qw4⟩, _⟩ := Xw_14.out
        obtain ⟨⟨qg0, qg1, qg2, qg3, qg4⟩, _⟩ := Xg_14.out
        go_wp2_with fail
        clear qA10 qA11 qA12 qA13 qA14
        clear qw0 qw1 qw2 qw3 qw4
        clear qg0 qg1 qg2 qg3 qg4
        refine (eqrt_is fU bU agp cgp (PU) lU agm cgm (MU) fU bU awp cwp (PU) lU awm cwm (MU) (show decide (((fU, bU, PU, lU, MU) : Rt) = ((fU, bU, PU, lU, MU) : Rt)) = true from decide_eq_true rfl) _ ⟨⟨(OwnI.intA Ogp_14.out).2.2, (OwnI.intA Ogm_14.out).2.2⟩, (OwnI.intA Ogp_14.out).2.1, (OwnI.intA Ogm_14.out).2.1, by omega, by omega⟩ ⟨⟨(OwnI.intA Owp_14.out).2.2, (OwnI.intA Owm_14.out).2.2⟩, (OwnI.intA Owp_14.out).2.1, (OwnI.intA Owm_14.out).2.1, by omega, by omega⟩).mono ?_
        rintro en w15 ⟨rfl, b⟩
        have HB15 := Lib.hid (HB14.out.trans (b.mono HB14.out.size))
        have hs15 := Lib.hid b.size
        have Owp_15 := Lib.hid (owni_later Owp_14.out b)
        have Owm_15 := Lib.hid (owni_later Owm_14.out b)
        have Ogp_15 := Lib.hid (owni_later Ogp_14.out b)
        have Ogm_15 := Lib.hid (owni_later Ogm_14.out b)
        have XA1_15 := Lib.hid (At5.below XA1_14.out b)
        have Xw_15 := Lib.hid (At5.below Xw_14.out b)
        have Xg_15 := Lib.hid (At5.below Xg_14.out b)
        clear b
        obtain ⟨⟨qA10, qA11, qA12, qA13, qA14⟩, _⟩ := XA1_15.out
        obtain ⟨⟨qw0, qw1, qw2, qw3, qw4⟩, _⟩ := Xw_15.out
        obtain ⟨⟨qg0, qg1, qg2, qg3, qg4⟩, _⟩ := Xg_15.out
        go_wp2_with fail
        clear qA10 qA11 qA12 qA13 qA14
        clear qw0 qw1 qw2 qw3 qw4
        clear qg0 qg1 qg2 qg3 qg4
        refine (markrt_any fU bU lU _ _ _ _ (PU) (MU) _ _ _ Ogp_15.out Ogm_15.out Ag.out (by omega) (by omega)).mono ?_
        rintro en w16 ⟨rfl, o, o2, V0, V1, b0, g1, g2⟩
        have hs16 := Lib.hid (Nat.le_trans b0.size (Nat.le_trans g1.size g2.size))
        have HB16 := Lib.hid (((HB15.out.trans (b0.mono HB15.out.size)).grown g1 (Nat.le_trans HB15.out.size b0.size) (fun k e => (World.ownsRow.lt Ogp_15.out k e).1)).grown g2 (Nat.le_trans HB15.out.size (Nat.le_trans b0.size g1.size)) (fun k e => (World.ownsRow.lt Ogm_15.out k e).1))
        have Owp_16 := Lib.hid (World.ownsRow.kept (World.ownsRow.kept (owni_later Owp_15.out b0) g1 (pBtw.apart Bwp.out Bgp.out (by have := hs1.out; have := hs2.out; have := hs3.out; have := hRw.out; have := ltw.out; have := hs4.out; have := hs5.out; have := hs6.out; have := hs7.out; have := hs8.out; have := hs9.out; have := hs10.out; have := hs11.out; have := hs12.out; have := hs13.out; have := hs14.out; have := hs15.out; omega))) g2 (pBtw.apart Bwp.out Bgm.out (by have := hs1.out; have := hs2.out; have := hs3.out; have := hRw.out; have := ltw.out; have := hs4.out; have := hs5.out; have := hs6.out; have := hs7.out; have := hs8.out; have := hs9.out; have := hs10.out; have := hs11.out; have := hs12.out; have := hs13.out; have := hs14.out; have := hs15.out; omega)))
        have Owm_16 := Lib.hid (World.ownsRow.kept (World.ownsRow.kept (owni_later Owm_15.out b0) g1 (pBtw.apart Bwm.out Bgp.out (by have := hs1.out; have := hs2.out; have := hs3.out; have := hRw.out; have := ltw.out; have := hs4.out; have := hs5.out; have := hs6.out; have := hs7.out; have := hs8.out; have := hs9.out; have := hs10.out; have := hs11.out; have := hs12.out; have := hs13.out; have := hs14.out; have := hs15.out; omega))) g2 (pBtw.apart Bwm.out Bgm.out (by have := hs1.out; have := hs2.out; have := hs3.out; have := hRw.out; have := ltw.out; have := hs4.out; have := hs5.out; have := hs6.out; have := hs7.out; have := hs8.out; have := hs9.out; have := hs10.out; have := hs11.out; have := hs12.out; have := hs13.out; have := hs14.out; have := hs15.out; omega)))
        have Ogp_16 := Lib.hid o
        have Ogm_16 := Lib.hid o2
        have XA1_16 := Lib.hid (((At5.below XA1_15.out b0).only g1 (fun q => by have hq := Bgp.out _ q.symm; have := hs1.out; have := hs2.out; have := hs3.out; have := hRw.out; have := ltw.out; have := hs4.out; have := hs5.out; have := hs6.out; have := hs7.out; have := hs8.out; have := hs9.out; have := hs10.out; have := hs11.out; have := hs12.out; have := hs13.out; have := hs14.out; have := hs15.out; omega)).only g2 (fun q => by have hq := Bgm.out _ q.symm; have := hs1.out; have := hs2.out; have := hs3.out; have := hRw.out; have := ltw.out; have := hs4.out; have := hs5.out; have := hs6.out; have := hs7.out; have := hs8.out; have := hs9.out; have := hs10.out; have := hs11.out; have := hs12.out; have := hs13.out; have := hs14.out; have := hs15.out; omega))
        have Xw_16 := Lib.hid (((At5.below Xw_15.out b0).only g1 (fun q => by have hq := Bgp.out _ q.symm; have := hs1.out; have := hs2.out; have := hs3.out; have := hRw.out; have := ltw.out; have := hs4.out; have := hs5.out; have := hs6.out; have := hs7.out; have := hs8.out; have := hs9.out; have := hs10.out; have := hs11.out; have := hs12.out; have := hs13.out; have := hs14.out; have := hs15.out; omega)).only g2 (fun q => by have hq := Bgm.out _ q.symm; have := hs1.out; have := hs2.out; have := hs3.out; have := hRw.out; have := ltw.out; have := hs4.out; have := hs5.out; have := hs6.out; have := hs7.out; have := hs8.out; have := hs9.out; have := hs10.out; have := hs11.out; have := hs12.out; have := hs13.out; have := hs14.out; have := hs15.out; omega))
        have Xg_16 := Lib.hid (((At5.below Xg_15.out b0).only g1 (fun q => by have hq := Bgp.out _ q.symm; have := hs1.out; have := hs2.out; have := hs3.out; have := hRw.out; have := ltw.out; have := hs4.out; have := hs5.out; have := hs6.out; have := hs7.out; have := hs8.out; have := hs9.out; have := hs10.out; have := hs11.out; have := hs12.out; have := hs13.out; have := hs14.out; have := hs15.out; omega)).only g2 (fun q => by have hq := Bgm.out _ q.symm; have := hs1.out; have := hs2.out; have := hs3.out; have := hRw.out; have := ltw.out; have := hs4.out; have := hs5.out; have := hs6.out; have := hs7.out; have := hs8.out; have := hs9.out; have := hs10.out; have := hs11.out; have := hs12.out; have := hs13.out; have := hs14.out; have := hs15.out; omega))
        clear o o2 b0 g1 g2
        generalize hk2 : 1 + PU.length + MU.length = K2 at *
        have heK : ((K2 : Int) != (K2 : Int)) = false := by simp
        obtain ⟨⟨qA10, qA11, qA12, qA13, qA14⟩, _⟩ := XA1_16.out
        obtain ⟨⟨qw0, qw1, qw2, qw3, qw4⟩, _⟩ := Xw_16.out
        obtain ⟨⟨qg0, qg1, qg2, qg3, qg4⟩, _⟩ := Xg_16.out
        go_wp2_with fail
        clear qA10 qA11 qA12 qA13 qA14
        clear qw0 qw1 qw2 qw3 qw4
        clear qg0 qg1 qg2 qg3 qg4
        refine (heldrt_any fU bU lU _ _ _ _ PU.length MU.length _ (OwnI_mark Ogp_16.out) (OwnI_mark Ogm_16.out) (by omega) (by omega)).mono ?_
        rintro en w17 ⟨rfl, b⟩
        have HB17 := Lib.hid (HB16.out.trans (b.mono HB16.out.size))
        have hs17 := Lib.hid b.size
        have Owp_17 := Lib.hid (owni_later Owp_16.out b)
        have Owm_17 := Lib.hid (owni_later Owm_16.out b)
        have Ogp_17 := Lib.hid (owni_later Ogp_16.out b)
        have Ogm_17 := Lib.hid (owni_later Ogm_16.out b)
        have XA1_17 := Lib.hid (At5.below XA1_16.out b)
        have Xw_17 := Lib.hid (At5.below Xw_16.out b)
        have Xg_17 := Lib.hid (At5.below Xg_16.out b)
        clear b
        rw [hk2]
        go_upto_region 31 with fail
        go_cut [15, 16] from 17 (fun y one wx => ∃ (Ry : Nat) (ayp : Option Addr) (cyp : Nat) (aym : Option Addr) (cym : Nat), y = .pointer (some ⟨Ry, 0, none⟩) ∧ one = .bool u ∧ Hid (CutY w17 Ry fU bU lU PU MU ayp cyp aym cym wx))
        case first =>
          refine wp_region_held_drew (S := fun W => (W.cell? ⟨w.heap.size, 0, none⟩ = some (.int .i64 f1) ∧ W.cell? ⟨w.heap.size, 1, none⟩ = some (.int .i64 b1) ∧ W.cell? ⟨w.heap.size, 2, none⟩ = some (.slice a1 P1.length c1) ∧ W.cell? ⟨w.heap.size, 3, none⟩ = some (.int .i64 l1) ∧ W.cell? ⟨w.heap.size, 4, none⟩ = some (.slice d1 M1.length e1)) ∧ Hid (Below w17.heap.size w17 W)) (by kernel_rfl) ?_ (fun hHeld => ?_)
          · exact ⟨XA1_17.out.1, Lib.hid (Below.refl _ w17).drew⟩
          refine takeH (i := 0) (v := ?_) rfl rfl (by kernel_rfl) (by kernel_rfl) (by kernel_rfl) (fun _ _ _ h => h) (by rfl) ?_ (by assumption) ?_
          rotate_left 1
          · intro w hSw
            (try dsimp only at hSw)
            go_simp
            try with_reducible rfl
          try simp only [List.setIfInBounds_toArray, List.set_cons_zero, List.set_cons_succ]
          refine takeH (i := 2) (v := ?_) rfl rfl (by kernel_rfl) (by kernel_rfl) (by kernel_rfl) (fun _ _ _ h => h) (by rfl) ?_ (by assumption) ?_
          rotate_left 1
          · intro w hSw
            (try dsimp only at hSw)
            go_simp
            try with_reducible rfl
          try simp only [List.setIfInBounds_toArray, List.set_cons_zero, List.set_cons_succ]
          refine wpAnyH_ready (rs := [1, 8]) (by kernel_rfl) (by simp) ?_
          refine AllReadyH.cons rfl (fun K hK => ?_) (AllReadyH.cons rfl (fun K hK => ?_) (AllReadyH.nil))
          · generalize w17.drew = wz0 at *
            go_simp
            refine (tocls_any L0 a0 cap0 _ _ rfl (HA.out.below (HB17.out.trans (hHeld.2.out.mono HB17.out.size))) hlc).mono ?_
            rintro en wz1 ⟨v, rfl, oc, b⟩
            obtain ⟨at1, ct1, rfl, _, _⟩ := OwnC.tab oc
            have C_1 := Lib.hid (ownc_mono oc hHeld.2.out.size)
            have bq1 := next hHeld.2.out b
            clear oc b
            go_wp2_with fail
            refine hK.out _ _ ?_ (fun hNew => ?_)
            · exact ⟨⟨vcell_far (bq1) XA1_17.out.lt XA1_17.out.1.1, vcell_far (bq1) XA1_17.out.lt XA1_17.out.1.2.1, vcell_far (bq1) XA1_17.out.lt XA1_17.out.1.2.2.1, vcell_far (bq1) XA1_17.out.lt XA1_17.out.1.2.2.2.1, vcell_far (bq1) XA1_17.out.lt XA1_17.out.1.2.2.2.2⟩, Lib.hid (bq1)⟩
            clear hK K hHeld
            have hHeld := hNew
            clear hNew
            try simp only [Act.put, List.setIfInBounds_toArray, List.set_cons_zero, List.set_cons_succ]
            refine wpAnyH_ready (rs := [3, 8]) (by kernel_rfl) (by simp) ?_
            refine AllReadyH.cons rfl (fun K hK => ?_) (AllReadyH.cons rfl (fun K hK => ?_) (AllReadyH.nil))
            · go_simp
              refine (tort_is f1 b1 a1 c1 P1 l1 d1 e1 M1 _ ⟨⟨HM1.out.1.below (HB17.out.trans (hHeld.2.out.mono HB17.out.size)), HM1.out.2.below (HB17.out.trans (hHeld.2.out.mono HB17.out.size))⟩, hcP1, hcM1, by omega, by omega⟩ (by omega) (by omega)).mono ?_
              rintro en wz2 ⟨pv, mv, rfl, S, o, bP, o2, hS, b⟩
              replace o : OwnI wz2 wz1.heap.size pv P1 := o
              replace o2 : OwnI wz2 S mv M1 := o2
              obtain ⟨atp, ctp, rfl, _, _⟩ := OwnI.tab o
              obtain ⟨atm, ctm, rfl, _, _⟩ := OwnI.tab o2
              have C_2 := Lib.hid (ownc_later C_1.out b)
              have TP2 := Lib.hid (owni_mono o hHeld.2.out.size)
              have TM2 := Lib.hid (owni_mono o2 (Nat.le_trans hHeld.2.out.size hS))
              have bq2 := next hHeld.2.out b
              clear o o2 bP hS b
              go_wp2_with fail
              refine hK.out _ _ ?_ (fun hNew => ?_)
              · exact ⟨⟨vcell_far (bq2) XA1_17.out.lt XA1_17.out.1.1, vcell_far (bq2) XA1_17.out.lt XA1_17.out.1.2.1, vcell_far (bq2) XA1_17.out.lt XA1_17.out.1.2.2.1, vcell_far (bq2) XA1_17.out.lt XA1_17.out.1.2.2.2.1, vcell_far (bq2) XA1_17.out.lt XA1_17.out.1.2.2.2.2⟩, Lib.hid (bq2)⟩
              clear hK K hHeld
              have hHeld := hNew
              clear hNew
              try simp only [Act.put, List.setIfInBounds_toArray, List.set_cons_zero, List.set_cons_succ]
              refine wpAnyH_ready (rs := [4, 8]) (by kernel_rfl) (by simp) ?_
              refine AllReadyH.cons rfl (fun K hK => ?_) (AllReadyH.cons rfl (fun K hK => ?_) (AllReadyH.nil))
              · go_simp
                refine (ipoldo_is L0 at1 _ ct1 f1 b1 atp ctp P1 l1 atm ctm M1 HU.out _ p rfl (ownc_cs C_2.out) (by omega) ⟨⟨(OwnI.intA TP2.out).2.2, (OwnI.intA TM2.out).2.2⟩, (OwnI.intA TP2.out).2.1, (OwnI.intA TM2.out).2.1, by omega, by omega⟩ (HE.out.below (HB17.out.trans (hHeld.2.out.mono HB17.out.size)))).mono ?_
                rintro en wz3 ⟨pv, mv, rfl, S, o, bP, o2, hS, b⟩
                replace o : OwnI wz3 wz2.heap.size pv PU := o
                replace o2 : OwnI wz3 S mv MU := o2
                obtain ⟨ayp, cyp, rfl, _, _⟩ := OwnI.tab o
                obtain ⟨aym, cym, rfl, _, _⟩ := OwnI.tab o2
                have Yp3 := Lib.hid (owni_mono o hHeld.2.out.size)
                have Ym3 := Lib.hid (owni_mono o2 (Nat.le_trans hHeld.2.out.size hS))
                have bq3 := next hHeld.2.out b
                clear o o2 bP hS b
                go_wp2_with fail
                refine hK.out _ _ ?_ (fun hNew => ?_)
                · exact ⟨⟨vcell_far (bq3) XA1_17.out.lt XA1_17.out.1.1, vcell_far (bq3) XA1_17.out.lt XA1_17.out.1.2.1, vcell_far (bq3) XA1_17.out.lt XA1_17.out.1.2.2.1, vcell_far (bq3) XA1_17.out.lt XA1_17.out.1.2.2.2.1, vcell_far (bq3) XA1_17.out.lt XA1_17.out.1.2.2.2.2⟩, Lib.hid (bq3)⟩
                clear hK K hHeld
                have hHeld := hNew
                clear hNew
                try simp only [Act.put, List.setIfInBounds_toArray, List.set_cons_zero, List.set_cons_succ]
                refine takeH (i := 5) (v := ?_) rfl rfl (by kernel_rfl) (by kernel_rfl) (by kernel_rfl) (fun _ _ _ h => h) (by rfl) ?_ (by assumption) ?_
                rotate_left 1
                · intro w hSw
                  (try dsimp only at hSw)
                  go_simp
                  try with_reducible rfl
                try simp only [List.setIfInBounds_toArray, List.set_cons_zero, List.set_cons_succ]
                refine takeH (i := 6) (v := ?_) rfl rfl (by kernel_rfl) (by kernel_rfl) (by kernel_rfl) (fun _ _ _ h => h) (by rfl) ?_ (by assumption) ?_
                rotate_left 1
                · intro w hSw
                  (try dsimp only at hSw)
                  go_simp
                  try with_reducible rfl
                try simp only [List.setIfInBounds_toArray, List.set_cons_zero, List.set_cons_succ]
                refine takeH (i := 7) (v := ?_) rfl rfl (by kernel_rfl) (by kernel_rfl) (by kernel_rfl) (fun _ _ _ h => h) (by rfl) ?_ (by assumption) ?_
                rotate_left 1
                · intro w hSw
                  (try dsimp only at hSw)
                  go_simp
                  try with_reducible rfl
                try simp only [List.setIfInBounds_toArray, List.set_cons_zero, List.set_cons_succ]
                refine wpAnyH_ready (rs := [8]) (by kernel_rfl) (by simp) ?_
                refine AllReadyH.cons rfl (fun K hK => ?_) (AllReadyH.nil)
                go_simp
                have be4 : Below wz3.heap.size wz3 (wz3.alloc (.cells #[.int .i64 0, .int .i64 0, .slice none 0 0, .int .i64 0, .slice none 0 0] 32)) := (Below.refl _ _).alloc (Nat.le_refl _) _
                have Yp4 := Lib.hid (owni_later Yp3.out be4)
                have Ym4 := Lib.hid (owni_later Ym3.out be4)
                have Zz4 := Lib.hid (ownw_zero wz3 w17.heap.size hHeld.2.out.size)
                generalize wz3.alloc (.cells #[.int .i64 0, .int .i64 0, .slice none 0 0, .int .i64 0, .slice none 0 0] 32) = wz4 at *
                refine hK.out _ _ ?_ (fun hNew => ?_)
                · exact ⟨⟨vcell_far (next hHeld.2.out be4) XA1_17.out.lt XA1_17.out.1.1, vcell_far (next hHeld.2.out be4) XA1_17.out.lt XA1_17.out.1.2.1, vcell_far (next hHeld.2.out be4) XA1_17.out.lt XA1_17.out.1.2.2.1, vcell_far (next hHeld.2.out be4) XA1_17.out.lt XA1_17.out.1.2.2.2.1, vcell_far (next hHeld.2.out be4) XA1_17.out.lt XA1_17.out.1.2.2.2.2⟩, Lib.hid (next hHeld.2.out be4)⟩
                clear hK K hHeld
                have hHeld := hNew
                clear hNew
                try simp only [Act.put, List.setIfInBounds_toArray, List.set_cons_zero, List.set_cons_succ]
                refine wpAnyH_ready (rs := [9]) (by kernel_rfl) (by simp) ?_
                refine AllReadyH.cons rfl (fun K hK => ?_) (AllReadyH.nil)
                refine wp_stA 32 (.tmp 15) (.tmp 100) rfl (wz3.heap.size) #[.int .i64 fU, .int .i64 bU, .slice ayp PU.length cyp, .int .i64 lU, .slice aym MU.length cym] (by simp [Act.eval]) (by simp [Act.eval]) (one5a _ _ _ _ _ _ _ _ _) infoR5 _ (OwnW.atl Zz4.out) rfl ?_
                intro wz5 aa gg
                have HF : Hid (CutY w17 (wz3.heap.size) fU bU lU PU MU ayp cyp aym cym wz5) := Lib.hid (CutY.mk' hHeld.2.out Zz4.out Yp4.out Ym4.out aa gg)
                clear aa gg
                try simp only [List.getElem_toArray, List.getElem_cons_succ, List.getElem_cons_zero]
                refine hK.out _ _ ?_ (fun hNew => ?_)
                · exact ⟨⟨vcell_far (HF.out.bel) XA1_17.out.lt XA1_17.out.1.1, vcell_far (HF.out.bel) XA1_17.out.lt XA1_17.out.1.2.1, vcell_far (HF.out.bel) XA1_17.out.lt XA1_17.out.1.2.2.1, vcell_far (HF.out.bel) XA1_17.out.lt XA1_17.out.1.2.2.2.1, vcell_far (HF.out.bel) XA1_17.out.lt XA1_17.out.1.2.2.2.2⟩, Lib.hid (HF.out.bel)⟩
                clear hK K hHeld
                have hHeld := hNew
                clear hNew
                try simp only [Act.put, List.setIfInBounds_toArray, List.set_cons_zero, List.set_cons_succ]
                refine takeH (i := 10) (v := ?_) rfl rfl (by kernel_rfl) (by kernel_rfl) (by kernel_rfl) (fun _ _ _ h => h) (by rfl) ?_ (by assumption) ?_
                rotate_left 1
                · intro w hSw
                  (try dsimp only at hSw)
                  go_simp
                  try with_reducible rfl
                try simp only [List.setIfInBounds_toArray, List.set_cons_zero, List.set_cons_succ]
                refine wpAnyH_done (by kernel_rfl) ?_ _
                clear hHeld
                go_wp2_with fail
                go_meet
                exact ⟨_, _, _, _, _, rfl, rfl, HF⟩
              · go_simp
                have be3 : Below wz2.heap.size wz2 (wz2.alloc (.cells #[.int .i64 0, .int .i64 0, .slice none 0 0, .int .i64 0, .slice none 0 0] 32)) := (Below.refl _ _).alloc (Nat.le_refl _) _
                have C_3 := Lib.hid (ownc_later C_2.out be3)
                have TP3 := Lib.hid (owni_later TP2.out be3)
                have TM3 := Lib.hid (owni_later TM2.out be3)
                have Zz3 := Lib.hid (ownw_zero wz2 w17.heap.size hHeld.2.out.size)
                generalize wz2.alloc (.cells #[.int .i64 0, .int .i64 0, .slice none 0 0, .int .i64 0, .slice none 0 0] 32) = wz3 at *
                refine hK.out _ _ ?_ (fun hNew => ?_)
                · exact ⟨⟨vcell_far (next hHeld.2.out be3) XA1_17.out.lt XA1_17.out.1.1, vcell_far (next hHeld.2.out be3) XA1_17.out.lt XA1_17.out.1.2.1, vcell_far (next hHeld.2.out be3) XA1_17.out.lt XA1_17.out.1.2.2.1, vcell_far (next hHeld.2.out be3) XA1_17.out.lt XA1_17.out.1.2.2.2.1, vcell_far (next hHeld.2.out be3) XA1_17.out.lt XA1_17.out.1.2.2.2.2⟩, Lib.hid (next hHeld.2.out be3)⟩
                clear hK K hHeld
                have hHeld := hNew
                clear hNew
                try simp only [Act.put, List.setIfInBounds_toArray, List.set_cons_zero, List.set_cons_succ]
                refine wpAnyH_ready (rs := [4]) (by kernel_rfl) (by simp) ?_
                refine AllReadyH.cons rfl (fun K hK => ?_) (AllReadyH.nil)
                go_simp
                refine (ipoldo_is L0 at1 _ ct1 f1 b1 atp ctp P1 l1 atm ctm M1 HU.out _ p rfl (ownc_cs C_3.out) (by omega) ⟨⟨(OwnI.intA TP3.out).2.2, (OwnI.intA TM3.out).2.2⟩, (OwnI.intA TP3.out).2.1, (OwnI.intA TM3.out).2.1, by omega, by omega⟩ (HE.out.below (HB17.out.trans (hHeld.2.out.mono HB17.out.size)))).mono ?_
                rintro en wz4 ⟨pv, mv, rfl, S, o, bP, o2, hS, b⟩
                replace o : OwnI wz4 wz3.heap.size pv PU := o
                replace o2 : OwnI wz4 S mv MU := o2
                obtain ⟨ayp, cyp, rfl, _, _⟩ := OwnI.tab o
                obtain ⟨aym, cym, rfl, _, _⟩ := OwnI.tab o2
                have Zz4 := Lib.hid (ownw_later Zz3.out b)
                have Yp4 := Lib.hid (owni_mono o hHeld.2.out.size)
                have Ym4 := Lib.hid (owni_mono o2 (Nat.le_trans hHeld.2.out.size hS))
                have bq4 := next hHeld.2.out b
                clear o o2 bP hS b
                go_wp2_with fail
                refine hK.out _ _ ?_ (fun hNew => ?_)
                · exact ⟨⟨vcell_far (bq4) XA1_17.out.lt XA1_17.out.1.1, vcell_far (bq4) XA1_17.out.lt XA1_17.out.1.2.1, vcell_far (bq4) XA1_17.out.lt XA1_17.out.1.2.2.1, vcell_far (bq4) XA1_17.out.lt XA1_17.out.1.2.2.2.1, vcell_far (bq4) XA1_17.out.lt XA1_17.out.1.2.2.2.2⟩, Lib.hid (bq4)⟩
                clear hK K hHeld
                have hHeld := hNew
                clear hNew
                try simp only [Act.put, List.setIfInBounds_toArray, List.set_cons_zero, List.set_cons_succ]
                refine takeH (i := 5) (v := ?_) rfl rfl (by kernel_rfl) (by kernel_rfl) (by kernel_rfl) (fun _ _ _ h => h) (by rfl) ?_ (by assumption) ?_
                rotate_left 1
                · intro w hSw
                  (try dsimp only at hSw)
                  go_simp
                  try with_reducible rfl
                try simp only [List.setIfInBounds_toArray, List.set_cons_zero, List.set_cons_succ]
                refine takeH (i := 6) (v := ?_) rfl rfl (by kernel_rfl) (by kernel_rfl) (by kernel_rfl) (fun _ _ _ h => h) (by rfl) ?_ (by assumption) ?_
                rotate_left 1
                · intro w hSw
                  (try dsimp only at hSw)
                  go_simp
                  try with_reducible rfl
                try simp only [List.setIfInBounds_toArray, List.set_cons_zero, List.set_cons_succ]
                refine takeH (i := 7) (v := ?_) rfl rfl (by kernel_rfl) (by kernel_rfl) (by kernel_rfl) (fun _ _ _ h => h) (by rfl) ?_ (by assumption) ?_
                rotate_left 1
                · intro w hSw
                  (try dsimp only at hSw)
                  go_simp
                  try with_reducible rfl
                try simp only [List.setIfInBounds_toArray, List.set_cons_zero, List.set_cons_succ]
                refine wpAnyH_ready (rs := [9]) (by kernel_rfl) (by simp) ?_
                refine AllReadyH.cons rfl (fun K hK => ?_) (AllReadyH.nil)
                refine wp_stA 32 (.tmp 15) (.tmp 100) rfl (wz2.heap.size) #[.int .i64 fU, .int .i64 bU, .slice ayp PU.length cyp, .int .i64 lU, .slice aym MU.length cym] (by simp [Act.eval]) (by simp [Act.eval]) (one5a _ _ _ _ _ _ _ _ _) infoR5 _ (OwnW.atl Zz4.out) rfl ?_
                intro wz5 aa gg
                have HF : Hid (CutY w17 (wz2.heap.size) fU bU lU PU MU ayp cyp aym cym wz5) := Lib.hid (CutY.mk' hHeld.2.out Zz4.out Yp4.out Ym4.out aa gg)
                clear aa gg
                try simp only [List.getElem_toArray, List.getElem_cons_succ, List.getElem_cons_zero]
                refine hK.out _ _ ?_ (fun hNew => ?_)
                · exact ⟨⟨vcell_far (HF.out.bel) XA1_17.out.lt XA1_17.out.1.1, vcell_far (HF.out.bel) XA1_17.out.lt XA1_17.out.1.2.1, vcell_far (HF.out.bel) XA1_17.out.lt XA1_17.out.1.2.2.1, vcell_far (HF.out.bel) XA1_17.out.lt XA1_17.out.1.2.2.2.1, vcell_far (HF.out.bel) XA1_17.out.lt XA1_17.out.1.2.2.2.2⟩, Lib.hid (HF.out.bel)⟩
                clear hK K hHeld
                have hHeld := hNew
                clear hNew
                try simp only [Act.put, List.setIfInBounds_toArray, List.set_cons_zero, List.set_cons_succ]
                refine takeH (i := 10) (v := ?_) rfl rfl (by kernel_rfl) (by kernel_rfl) (by kernel_rfl) (fun _ _ _ h => h) (by rfl) ?_ (by assumption) ?_
                rotate_left 1
                · intro w hSw
                  (try dsimp only at hSw)
                  go_simp
                  try with_reducible rfl
                try simp only [List.setIfInBounds_toArray, List.set_cons_zero, List.set_cons_succ]
                refine wpAnyH_done (by kernel_rfl) ?_ _
                clear hHeld
                go_wp2_with fail
                go_meet
                exact ⟨_, _, _, _, _, rfl, rfl, HF⟩
            · go_simp
              have be2 : Below wz1.heap.size wz1 (wz1.alloc (.cells #[.int .i64 0, .int .i64 0, .slice none 0 0, .int .i64 0, .slice none 0 0] 32)) := (Below.refl _ _).alloc (Nat.le_refl _) _
              have C_2 := Lib.hid (ownc_later C_1.out be2)
              have Zz2 := Lib.hid (ownw_zero wz1 w17.heap.size hHeld.2.out.size)
              generalize wz1.alloc (.cells #[.int .i64 0, .int .i64 0, .slice none 0 0, .int .i64 0, .slice none 0 0] 32) = wz2 at *
              refine hK.out _ _ ?_ (fun hNew => ?_)
              · exact ⟨⟨vcell_far (next hHeld.2.out be2) XA1_17.out.lt XA1_17.out.1.1, vcell_far (next hHeld.2.out be2) XA1_17.out.lt XA1_17.out.1.2.1, vcell_far (next hHeld.2.out be2) XA1_17.out.lt XA1_17.out.1.2.2.1, vcell_far (next hHeld.2.out be2) XA1_17.out.lt XA1_17.out.1.2.2.2.1, vcell_far (next hHeld.2.out be2) XA1_17.out.lt XA1_17.out.1.2.2.2.2⟩, Lib.hid (next hHeld.2.out be2)⟩
              clear hK K hHeld
              have hHeld := hNew
              clear hNew
              try simp only [Act.put, List.setIfInBounds_toArray, List.set_cons_zero, List.set_cons_succ]
              refine wpAnyH_ready (rs := [3]) (by kernel_rfl) (by simp) ?_
              refine AllReadyH.cons rfl (fun K hK => ?_) (AllReadyH.nil)
              go_simp
              refine (tort_is f1 b1 a1 c1 P1 l1 d1 e1 M1 _ ⟨⟨HM1.out.1.below (HB17.out.trans (hHeld.2.out.mono HB17.out.size)), HM1.out.2.below (HB17.out.trans (hHeld.2.out.mono HB17.out.size))⟩, hcP1, hcM1, by omega, by omega⟩ (by omega) (by omega)).mono ?_
              rintro en wz3 ⟨pv, mv, rfl, S, o, bP, o2, hS, b⟩
              replace o : OwnI wz3 wz2.heap.size pv P1 := o
              replace o2 : OwnI wz3 S mv M1 := o2
              obtain ⟨atp, ctp, rfl, _, _⟩ := OwnI.tab o
              obtain ⟨atm, ctm, rfl, _, _⟩ := OwnI.tab o2
              have Zz3 := Lib.hid (ownw_later Zz2.out b)
              have C_3 := Lib.hid (ownc_later C_2.out b)
              have TP3 := Lib.hid (owni_mono o hHeld.2.out.size)
              have TM3 := Lib.hid (owni_mono o2 (Nat.le_trans hHeld.2.out.size hS))
              have bq3 := next hHeld.2.out b
              clear o o2 bP hS b
              go_wp2_with fail
              refine hK.out _ _ ?_ (fun hNew => ?_)
              · exact ⟨⟨vcell_far (bq3) XA1_17.out.lt XA1_17.out.1.1, vcell_far (bq3) XA1_17.out.lt XA1_17.out.1.2.1, vcell_far (bq3) XA1_17.out.lt XA1_17.out.1.2.2.1, vcell_far (bq3) XA1_17.out.lt XA1_17.out.1.2.2.2.1, vcell_far (bq3) XA1_17.out.lt XA1_17.out.1.2.2.2.2⟩, Lib.hid (bq3)⟩
              clear hK K hHeld
              have hHeld := hNew
              clear hNew
              try simp only [Act.put, List.setIfInBounds_toArray, List.set_cons_zero, List.set_cons_succ]
              refine wpAnyH_ready (rs := [4]) (by kernel_rfl) (by simp) ?_
              refine AllReadyH.cons rfl (fun K hK => ?_) (AllReadyH.nil)
              go_simp
              refine (ipoldo_is L0 at1 _ ct1 f1 b1 atp ctp P1 l1 atm ctm M1 HU.out _ p rfl (ownc_cs C_3.out) (by omega) ⟨⟨(OwnI.intA TP3.out).2.2, (OwnI.intA TM3.out).2.2⟩, (OwnI.intA TP3.out).2.1, (OwnI.intA TM3.out).2.1, by omega, by omega⟩ (HE.out.below (HB17.out.trans (hHeld.2.out.mono HB17.out.size)))).mono ?_
              rintro en wz4 ⟨pv, mv, rfl, S, o, bP, o2, hS, b⟩
              replace o : OwnI wz4 wz3.heap.size pv PU := o
              replace o2 : OwnI wz4 S mv MU := o2
              obtain ⟨ayp, cyp, rfl, _, _⟩ := OwnI.tab o
              obtain ⟨aym, cym, rfl, _, _⟩ := OwnI.tab o2
              have Zz4 := Lib.hid (ownw_later Zz3.out b)
              have Yp4 := Lib.hid (owni_mono o hHeld.2.out.size)
              have Ym4 := Lib.hid (owni_mono o2 (Nat.le_trans hHeld.2.out.size hS))
              have bq4 := next hHeld.2.out b
              clear o o2 bP hS b
              go_wp2_with fail
              refine hK.out _ _ ?_ (fun hNew => ?_)
              · exact ⟨⟨vcell_far (bq4) XA1_17.out.lt XA1_17.out.1.1, vcell_far (bq4) XA1_17.out.lt XA1_17.out.1.2.1, vcell_far (bq4) XA1_17.out.lt XA1_17.out.1.2.2.1, vcell_far (bq4) XA1_17.out.lt XA1_17.out.1.2.2.2.1, vcell_far (bq4) XA1_17.out.lt XA1_17.out.1.2.2.2.2⟩, Lib.hid (bq4)⟩
              clear hK K hHeld
              have hHeld := hNew
              clear hNew
              try simp only [Act.put, List.setIfInBounds_toArray, List.set_cons_zero, List.set_cons_succ]
              refine takeH (i := 5) (v := ?_) rfl rfl (by kernel_rfl) (by kernel_rfl) (by kernel_rfl) (fun _ _ _ h => h) (by rfl) ?_ (by assumption) ?_
              rotate_left 1
              · intro w hSw
                (try dsimp only at hSw)
                go_simp
                try with_reducible rfl
              try simp only [List.setIfInBounds_toArray, List.set_cons_zero, List.set_cons_succ]
              refine takeH (i := 6) (v := ?_) rfl rfl (by kernel_rfl) (by kernel_rfl) (by kernel_rfl) (fun _ _ _ h => h) (by rfl) ?_ (by assumption) ?_
              rotate_left 1
              · intro w hSw
                (try dsimp only at hSw)
                go_simp
                try with_reducible rfl
              try simp only [List.setIfInBounds_toArray, List.set_cons_zero, List.set_cons_succ]
              refine takeH (i := 7) (v := ?_) rfl rfl (by kernel_rfl) (by kernel_rfl) (by kernel_rfl) (fun _ _ _ h => h) (by rfl) ?_ (by assumption) ?_
              rotate_left 1
              · intro w hSw
                (try dsimp only at hSw)
                go_simp
                try with_reducible rfl
              try simp only [List.setIfInBounds_toArray, List.set_cons_zero, List.set_cons_succ]
              refine wpAnyH_ready (rs := [9]) (by kernel_rfl) (by simp) ?_
              refine AllReadyH.cons rfl (fun K hK => ?_) (AllReadyH.nil)
              refine wp_stA 32 (.tmp 15) (.tmp 100) rfl (wz1.heap.size) #[.int .i64 fU, .int .i64 bU, .slice ayp PU.length cyp, .int .i64 lU, .slice aym MU.length cym] (by simp [Act.eval]) (by simp [Act.eval]) (one5a _ _ _ _ _ _ _ _ _) infoR5 _ (OwnW.atl Zz4.out) rfl ?_
              intro wz5 aa gg
              have HF : Hid (CutY w17 (wz1.heap.size) fU bU lU PU MU ayp cyp aym cym wz5) := Lib.hid (CutY.mk' hHeld.2.out Zz4.out Yp4.out Ym4.out aa gg)
              clear aa gg
              try simp only [List.getElem_toArray, List.getElem_cons_succ, List.getElem_cons_zero]
              refine hK.out _ _ ?_ (fun hNew => ?_)
              · exact ⟨⟨vcell_far (HF.out.bel) XA1_17.out.lt XA1_17.out.1.1, vcell_far (HF.out.bel) XA1_17.out.lt XA1_17.out.1.2.1, vcell_far (HF.out.bel) XA1_17.out.lt XA1_17.out.1.2.2.1, vcell_far (HF.out.bel) XA1_17.out.lt XA1_17.out.1.2.2.2.1, vcell_far (HF.out.bel) XA1_17.out.lt XA1_17.out.1.2.2.2.2⟩, Lib.hid (HF.out.bel)⟩
              clear hK K hHeld
              have hHeld := hNew
              clear hNew
              try simp only [Act.put, List.setIfInBounds_toArray, List.set_cons_zero, List.set_cons_succ]
              refine takeH (i := 10) (v := ?_) rfl rfl (by kernel_rfl) (by kernel_rfl) (by kernel_rfl) (fun _ _ _ h => h) (by rfl) ?_ (by assumption) ?_
              rotate_left 1
              · intro w hSw
                (try dsimp only at hSw)
                go_simp
                try with_reducible rfl
              try simp only [List.setIfInBounds_toArray, List.set_cons_zero, List.set_cons_succ]
              refine wpAnyH_done (by kernel_rfl) ?_ _
              clear hHeld
              go_wp2_with fail
              go_meet
              exact ⟨_, _, _, _, _, rfl, rfl, HF⟩
          · generalize w17.drew = wz0 at *
            go_simp
            have be1 : Below wz0.heap.size wz0 (wz0.alloc (.cells #[.int .i64 0, .int .i64 0, .slice none 0 0, .int .i64 0, .slice none 0 0] 32)) := (Below.refl _ _).alloc (Nat.le_refl _) _
            have Zz1 := Lib.hid (ownw_zero wz0 w17.heap.size hHeld.2.out.size)
            generalize wz0.alloc (.cells #[.int .i64 0, .int .i64 0, .slice none 0 0, .int .i64 0, .slice none 0 0] 32) = wz1 at *
            refine hK.out _ _ ?_ (fun hNew => ?_)
            · exact ⟨⟨vcell_far (next hHeld.2.out be1) XA1_17.out.lt XA1_17.out.1.1, vcell_far (next hHeld.2.out be1) XA1_17.out.lt XA1_17.out.1.2.1, vcell_far (next hHeld.2.out be1) XA1_17.out.lt XA1_17.out.1.2.2.1, vcell_far (next hHeld.2.out be1) XA1_17.out.lt XA1_17.out.1.2.2.2.1, vcell_far (next hHeld.2.out be1) XA1_17.out.lt XA1_17.out.1.2.2.2.2⟩, Lib.hid (next hHeld.2.out be1)⟩
            clear hK K hHeld
            have hHeld := hNew
            clear hNew
            try simp only [Act.put, List.setIfInBounds_toArray, List.set_cons_zero, List.set_cons_succ]
            refine wpAnyH_ready (rs := [1]) (by kernel_rfl) (by simp) ?_
            refine AllReadyH.cons rfl (fun K hK => ?_) (AllReadyH.nil)
            go_simp
            refine (tocls_any L0 a0 cap0 _ _ rfl (HA.out.below (HB17.out.trans (hHeld.2.out.mono HB17.out.size))) hlc).mono ?_
            rintro en wz2 ⟨v, rfl, oc, b⟩
            obtain ⟨at1, ct1, rfl, _, _⟩ := OwnC.tab oc
            have Zz2 := Lib.hid (ownw_later Zz1.out b)
            have C_2 := Lib.hid (ownc_mono oc hHeld.2.out.size)
            have bq2 := next hHeld.2.out b
            clear oc b
            go_wp2_with fail
            refine hK.out _ _ ?_ (fun hNew => ?_)
            · exact ⟨⟨vcell_far (bq2) XA1_17.out.lt XA1_17.out.1.1, vcell_far (bq2) XA1_17.out.lt XA1_17.out.1.2.1, vcell_far (bq2) XA1_17.out.lt XA1_17.out.1.2.2.1, vcell_far (bq2) XA1_17.out.lt XA1_17.out.1.2.2.2.1, vcell_far (bq2) XA1_17.out.lt XA1_17.out.1.2.2.2.2⟩, Lib.hid (bq2)⟩
            clear hK K hHeld
            have hHeld := hNew
            clear hNew
            try simp only [Act.put, List.setIfInBounds_toArray, List.set_cons_zero, List.set_cons_succ]
            refine wpAnyH_ready (rs := [3]) (by kernel_rfl) (by simp) ?_
            refine AllReadyH.cons rfl (fun K hK => ?_) (AllReadyH.nil)
            go_simp
            refine (tort_is f1 b1 a1 c1 P1 l1 d1 e1 M1 _ ⟨⟨HM1.out.1.below (HB17.out.trans (hHeld.2.out.mono HB17.out.size)), HM1.out.2.below (HB17.out.trans (hHeld.2.out.mono HB17.out.size))⟩, hcP1, hcM1, by omega, by omega⟩ (by omega) (by omega)).mono ?_
            rintro en wz3 ⟨pv, mv, rfl, S, o, bP, o2, hS, b⟩
            replace o : OwnI wz3 wz2.heap.size pv P1 := o
            replace o2 : OwnI wz3 S mv M1 := o2
            obtain ⟨atp, ctp, rfl, _, _⟩ := OwnI.tab o
            obtain ⟨atm, ctm, rfl, _, _⟩ := OwnI.tab o2
            have Zz3 := Lib.hid (ownw_later Zz2.out b)
            have C_3 := Lib.hid (ownc_later C_2.out b)
            have TP3 := Lib.hid (owni_mono o hHeld.2.out.size)
            have TM3 := Lib.hid (owni_mono o2 (Nat.le_trans hHeld.2.out.size hS))
            have bq3 := next hHeld.2.out b
            clear o o2 bP hS b
            go_wp2_with fail
            refine hK.out _ _ ?_ (fun hNew => ?_)
            · exact ⟨⟨vcell_far (bq3) XA1_17.out.lt XA1_17.out.1.1, vcell_far (bq3) XA1_17.out.lt XA1_17.out.1.2.1, vcell_far (bq3) XA1_17.out.lt XA1_17.out.1.2.2.1, vcell_far (bq3) XA1_17.out.lt XA1_17.out.1.2.2.2.1, vcell_far (bq3) XA1_17.out.lt XA1_17.out.1.2.2.2.2⟩, Lib.hid (bq3)⟩
            clear hK K hHeld
            have hHeld := hNew
            clear hNew
            try simp only [Act.put, List.setIfInBounds_toArray, List.set_cons_zero, List.set_cons_succ]
            refine wpAnyH_ready (rs := [4]) (by kernel_rfl) (by simp) ?_
            refine AllReadyH.cons rfl (fun K hK => ?_) (AllReadyH.nil)
            go_simp
            refine (ipoldo_is L0 at1 _ ct1 f1 b1 atp ctp P1 l1 atm ctm M1 HU.out _ p rfl (ownc_cs C_3.out) (by omega) ⟨⟨(OwnI.intA TP3.out).2.2, (OwnI.intA TM3.out).2.2⟩, (OwnI.intA TP3.out).2.1, (OwnI.intA TM3.out).2.1, by omega, by omega⟩ (HE.out.below (HB17.out.trans (hHeld.2.out.mono HB17.out.size)))).mono ?_
            rintro en wz4 ⟨pv, mv, rfl, S, o, bP, o2, hS, b⟩
            replace o : OwnI wz4 wz3.heap.size pv PU := o
            replace o2 : OwnI wz4 S mv MU := o2
            obtain ⟨ayp, cyp, rfl, _, _⟩ := OwnI.tab o
            obtain ⟨aym, cym, rfl, _, _⟩ := OwnI.tab o2
            have Zz4 := Lib.hid (ownw_later Zz3.out b)
            have Yp4 := Lib.hid (owni_mono o hHeld.2.out.size)
            have Ym4 := Lib.hid (owni_mono o2 (Nat.le_trans hHeld.2.out.size hS))
            have bq4 := next hHeld.2.out b
            clear o o2 bP hS b
            go_wp2_with fail
            refine hK.out _ _ ?_ (fun hNew => ?_)
            · exact ⟨⟨vcell_far (bq4) XA1_17.out.lt XA1_17.out.1.1, vcell_far (bq4) XA1_17.out.lt XA1_17.out.1.2.1, vcell_far (bq4) XA1_17.out.lt XA1_17.out.1.2.2.1, vcell_far (bq4) XA1_17.out.lt XA1_17.out.1.2.2.2.1, vcell_far (bq4) XA1_17.out.lt XA1_17.out.1.2.2.2.2⟩, Lib.hid (bq4)⟩
            clear hK K hHeld
            have hHeld := hNew
            clear hNew
            try simp only [Act.put, List.setIfInBounds_toArray, List.set_cons_zero, List.set_cons_succ]
            refine takeH (i := 5) (v := ?_) rfl rfl (by kernel_rfl) (by kernel_rfl) (by kernel_rfl) (fun _ _ _ h => h) (by rfl) ?_ (by assumption) ?_
            rotate_left 1
            · intro w hSw
              (try dsimp only at hSw)
              go_simp
              try with_reducible rfl
            try simp only [List.setIfInBounds_toArray, List.set_cons_zero, List.set_cons_succ]
            refine takeH (i := 6) (v := ?_) rfl rfl (by kernel_rfl) (by kernel_rfl) (by kernel_rfl) (fun _ _ _ h => h) (by rfl) ?_ (by assumption) ?_
            rotate_left 1
            · intro w hSw
              (try dsimp only at hSw)
              go_simp
              try with_reducible rfl
            try simp only [List.setIfInBounds_toArray, List.set_cons_zero, List.set_cons_succ]
            refine takeH (i := 7) (v := ?_) rfl rfl (by kernel_rfl) (by kernel_rfl) (by kernel_rfl) (fun _ _ _ h => h) (by rfl) ?_ (by assumption) ?_
            rotate_left 1
            · intro w hSw
              (try dsimp only at hSw)
              go_simp
              try with_reducible rfl
            try simp only [List.setIfInBounds_toArray, List.set_cons_zero, List.set_cons_succ]
            refine wpAnyH_ready (rs := [9]) (by kernel_rfl) (by simp) ?_
            refine AllReadyH.cons rfl (fun K hK => ?_) (AllReadyH.nil)
            refine wp_stA 32 (.tmp 15) (.tmp 100) rfl (wz0.heap.size) #[.int .i64 fU, .int .i64 bU, .slice ayp PU.length cyp, .int .i64 lU, .slice aym MU.length cym] (by simp [Act.eval]) (by simp [Act.eval]) (one5a _ _ _ _ _ _ _ _ _) infoR5 _ (OwnW.atl Zz4.out) rfl ?_
            intro wz5 aa gg
            have HF : Hid (CutY w17 (wz0.heap.size) fU bU lU PU MU ayp cyp aym cym wz5) := Lib.hid (CutY.mk' hHeld.2.out Zz4.out Yp4.out Ym4.out aa gg)
            clear aa gg
            try simp only [List.getElem_toArray, List.getElem_cons_succ, List.getElem_cons_zero]
            refine hK.out _ _ ?_ (fun hNew => ?_)
            · exact ⟨⟨vcell_far (HF.out.bel) XA1_17.out.lt XA1_17.out.1.1, vcell_far (HF.out.bel) XA1_17.out.lt XA1_17.out.1.2.1, vcell_far (HF.out.bel) XA1_17.out.lt XA1_17.out.1.2.2.1, vcell_far (HF.out.bel) XA1_17.out.lt XA1_17.out.1.2.2.2.1, vcell_far (HF.out.bel) XA1_17.out.lt XA1_17.out.1.2.2.2.2⟩, Lib.hid (HF.out.bel)⟩
            clear hK K hHeld
            have hHeld := hNew
            clear hNew
            try simp only [Act.put, List.setIfInBounds_toArray, List.set_cons_zero, List.set_cons_succ]
            refine takeH (i := 10) (v := ?_) rfl rfl (by kernel_rfl) (by kernel_rfl) (by kernel_rfl) (fun _ _ _ h => h) (by rfl) ?_ (by assumption) ?_
            rotate_left 1
            · intro w hSw
              (try dsimp only at hSw)
              go_simp
              try with_reducible rfl
            try simp only [List.setIfInBounds_toArray, List.set_cons_zero, List.set_cons_succ]
            refine wpAnyH_done (by kernel_rfl) ?_ _
            clear hHeld
            go_wp2_with fail
            go_meet
            exact ⟨_, _, _, _, _, rfl, rfl, HF⟩
        case rest =>
          obtain ⟨Rh, ahp, chp, ahm, chm, rfl, rfl, HF⟩ := hcut
          have hRh := Lib.hid HF.out.low
          have HB18 := Lib.hid (HB17.out.trans (HF.out.bel.mono HB17.out.size))
          have hs18 := Lib.hid HF.out.bel.size
          have Owp_18 := Lib.hid (owni_later Owp_17.out HF.out.bel)
          have Owm_18 := Lib.hid (owni_later Owm_17.out HF.out.bel)
          have Ogp_18 := Lib.hid (owni_later Ogp_17.out HF.out.bel)
          have Ogm_18 := Lib.hid (owni_later Ogm_17.out HF.out.bel)
          have XA1_18 := Lib.hid (At5.below XA1_17.out HF.out.bel)
          have Xw_18 := Lib.hid (At5.below Xw_17.out HF.out.bel)
          have Xg_18 := Lib.hid (At5.below Xg_17.out HF.out.bel)
          have Ohp_18 := Lib.hid (owni_mono HF.out.p HB17.out.size)
          have Ohm_18 := Lib.hid (owni_mono HF.out.m HB17.out.size)
          have Xh_18 := Lib.hid HF.out.box
          have Bhp := Lib.hid (OwnI.btw HF.out.p)
          have Bhm := Lib.hid (OwnI.btw HF.out.m)
          have lth := Lib.hid (At5.lt Xh_18.out)
          clear HF
          generalize wc = w18 at *
          obtain ⟨⟨qA10, qA11, qA12, qA13, qA14⟩, _⟩ := XA1_18.out
          obtain ⟨⟨qw0, qw1, qw2, qw3, qw4⟩, _⟩ := Xw_18.out
          obtain ⟨⟨qg0, qg1, qg2, qg3, qg4⟩, _⟩ := Xg_18.out
          obtain ⟨⟨qh0, qh1, qh2, qh3, qh4⟩, _⟩ := Xh_18.out
          go_wp2_with fail
          clear qA10 qA11 qA12 qA13 qA14
          clear qw0 qw1 qw2 qw3 qw4
          clear qg0 qg1 qg2 qg3 qg4
          clear qh0 qh1 qh2 qh3 qh4
          refine (eqrt_is fU bU ahp chp (PU) lU ahm chm (MU) fU bU awp cwp (PU) lU awm cwm (MU) (show decide (((fU, bU, PU, lU, MU) : Rt) = ((fU, bU, PU, lU, MU) : Rt)) = true from decide_eq_true rfl) _ ⟨⟨(OwnI.intA Ohp_18.out).2.2, (OwnI.intA Ohm_18.out).2.2⟩, (OwnI.intA Ohp_18.out).2.1, (OwnI.intA Ohm_18.out).2.1, by omega, by omega⟩ ⟨⟨(OwnI.intA Owp_18.out).2.2, (OwnI.intA Owm_18.out).2.2⟩, (OwnI.intA Owp_18.out).2.1, (OwnI.intA Owm_18.out).2.1, by omega, by omega⟩).mono ?_
          rintro en w19 ⟨rfl, b⟩
          have HB19 := Lib.hid (HB18.out.trans (b.mono HB18.out.size))
          have hs19 := Lib.hid b.size
          have Owp_19 := Lib.hid (owni_later Owp_18.out b)
          have Owm_19 := Lib.hid (owni_later Owm_18.out b)
          have Ogp_19 := Lib.hid (owni_later Ogp_18.out b)
          have Ogm_19 := Lib.hid (owni_later Ogm_18.out b)
          have Ohp_19 := Lib.hid (owni_later Ohp_18.out b)
          have Ohm_19 := Lib.hid (owni_later Ohm_18.out b)
          have XA1_19 := Lib.hid (At5.below XA1_18.out b)
          have Xw_19 := Lib.hid (At5.below Xw_18.out b)
          have Xg_19 := Lib.hid (At5.below Xg_18.out b)
          have Xh_19 := Lib.hid (At5.below Xh_18.out b)
          clear b
          have heK : ((K2 : Int) != (K2 : Int)) = false := by simp
          obtain ⟨⟨qA10, qA11, qA12, qA13, qA14⟩, _⟩ := XA1_19.out
          obtain ⟨⟨qg0, qg1, qg2, qg3, qg4⟩, _⟩ := Xg_19.out
          go_wp2_with fail
          clear qA10 qA11 qA12 qA13 qA14
          clear qg0 qg1 qg2 qg3 qg4
          refine (heldrt_any fU bU lU _ _ _ _ PU.length MU.length _ (OwnI_mark Ogp_19.out) (OwnI_mark Ogm_19.out) (by omega) (by omega)).mono ?_
          rintro en w20 ⟨rfl, b⟩
          have HB20 := Lib.hid (HB19.out.trans (b.mono HB19.out.size))
          have hs20 := Lib.hid b.size
          have Ogp_20 := Lib.hid (owni_later Ogp_19.out b)
          have Ogm_20 := Lib.hid (owni_later Ogm_19.out b)
          have XA1_20 := Lib.hid (At5.below XA1_19.out b)
          have Xg_20 := Lib.hid (At5.below Xg_19.out b)
          clear b
          rw [hk2]
          obtain ⟨⟨qA10, qA11, qA12, qA13, qA14⟩, _⟩ := XA1_20.out
          obtain ⟨⟨qg0, qg1, qg2, qg3, qg4⟩, _⟩ := Xg_20.out
          go_wp2_with fail
          clear qA10 qA11 qA12 qA13 qA14
          clear qg0 qg1 qg2 qg3 qg4
          go_ret
          exact ⟨rfl, HB20.out⟩
    · have hy : szR Z1 P1.length M1.length = -1 := szR_neg (by omega)
      obtain ⟨⟨qA10, qA11, qA12, qA13, qA14⟩, _⟩ := XA1_1.out
      go_wp2_with fail
      clear qA10 qA11 qA12 qA13 qA14
      refine (szrt_is f1 b1 l1 a1 d1 _ c1 _ e1 hy (by omega) (by omega) hnl1 hml1 _).mono ?_
      rintro en w2 ⟨rfl, b⟩
      have HB2 := Lib.hid (HB1.out.trans (b.mono HB1.out.size))
      have hs2 := Lib.hid b.size
      have XA1_2 := Lib.hid (At5.below XA1_1.out b)
      clear b
      obtain ⟨⟨qA10, qA11, qA12, qA13, qA14⟩, _⟩ := XA1_2.out
      go_wp2_with fail
      clear qA10 qA11 qA12 qA13 qA14
      go_ret
      exact ⟨rfl, HB2.out⟩
  · go_enter Tryz.func3, Tryz.ntmps3
    have HB1 := Lib.hid (HB0.out.alloc HB0.out.size (.cells #[.int .i64 f1, .int .i64 b1, .slice a1 P1.length c1, .int .i64 l1, .slice d1 M1.length e1] 27))
    have hs1 := Lib.hid (show w.heap.size + 1 = (w.alloc (.cells #[.int .i64 f1, .int .i64 b1, .slice a1 P1.length c1, .int .i64 l1, .slice d1 M1.length e1] 27)).heap.size by simp)
    have XA1_1 := Lib.hid (At5.new w (.int .i64 f1) (.int .i64 b1) (.slice a1 P1.length c1) (.int .i64 l1) (.slice d1 M1.length e1) 27)
    go_wp2_with fail
    generalize w.alloc (.cells #[.int .i64 f1, .int .i64 b1, .slice a1 P1.length c1, .int .i64 l1, .slice d1 M1.length e1] 27) = w1 at *
    have hz : szC 1048576 L0.length = -1 := by rw [szC, if_pos (by omega)]
    refine (szcl_is hz (by omega) (by omega) (by omega) a0 cap0 _).mono ?_
    rintro en w0 ⟨rfl, rfl⟩
    obtain ⟨⟨qA10, qA11, qA12, qA13, qA14⟩, _⟩ := XA1_1.out
    go_wp2_with fail
    clear qA10 qA11 qA12 qA13 qA14
    go_ret
    exact ⟨rfl, HB1.out⟩

end Go.Proofs.YtioppkalehnoaaaGreatDoor
