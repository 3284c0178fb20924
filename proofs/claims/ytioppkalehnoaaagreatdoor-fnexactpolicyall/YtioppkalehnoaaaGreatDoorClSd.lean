/-
  The first clause that fits counts, by the document's model: l11Do, PolicyDo.
-/
import Derived.Test.YtioppkalehnoaaaGreatDoorClAr
namespace Go.Proofs.YtioppkalehnoaaaGreatDoor
open Go.RowKit
set_option linter.unusedSimpArgs false
set_option linter.unusedVariables false

theorem infoS1 : (Tryz.prog.info? 25).map (·.size) = some 1 := by kernel_rfl
set_option maxRecDepth 100000 in
set_option maxHeartbeats 8000000 in
theorem sfirst_is (L : List CL) (a' : Option Addr) (n' cap' : Nat) (f b : Int) (a : Option Addr) (c : Nat) (P : List Int) (l : Int) (d : Option Addr) (e : Nat) (M : List Int) {r : Rt × Bool} (k : firstC L (f, b, P, l, M) = r) (hL : ∀ u ∈ L, clOk u = true) (hr : rtOk (f, b, P, l, M) = true) (w : World) (hn : n' = L.length) (hA : CsA w a' L) (hl : L.length ≤ 2000000) (hm : RtM w a c P d e M) :
    Calls Tryz.prog 30 #[.slice a' n' cap', .agg #[.int .i64 f, .int .i64 b, .slice a P.length c, .int .i64 l, .slice d M.length e]] w (OwnRB w r) := by
  subst hn
  have KX := Lib.hid k
  have HLs := Lib.hid hL
  have HRo := Lib.hid hr
  have HR := Lib.hid ((rtOk_iff _).1 hr)
  have HA := Lib.hid hA
  have H0 := Lib.hid (Br.new f b a c P l d e M hm 32 32)
  have hlP : P.length ≤ 5 := HR.out.path.len
  have hlM : M.length ≤ 9 := HR.out.marks.len
  clear k hL hr hA hm
  go_enter Tryz.func30, Tryz.ntmps30
  go_wp2_with fail
  generalize (w.alloc (.cells #[.int .i64 f, .int .i64 b, .slice a P.length c, .int .i64 l, .slice d M.length e] 32)).alloc (.cells #[.int .i64 0, .int .i64 0, .slice none 0 0, .int .i64 0, .slice none 0 0] 32) = W0 at *
  go_loopw [6, 7] (fun i _ wr => ∃ k : Nat, k ≤ L.length ∧ i = .int .i64 k ∧ Hid (∀ (j : Nat) u, j < k → L[j]? = some u → fitsC u (f, b, P, l, M) = false) ∧ Hid (Br w f b a c P l d e M wr)) (fun i _ _ => L.length - (intOf i).toNat)
  case atStart => exact ⟨0, Nat.zero_le _, rfl, Lib.hid (fun j u hj => by omega), H0⟩
  case round =>
    clear H0
    obtain ⟨k, hk, rfl, HN, HI⟩ := hrel
    by_cases hlt : k < L.length
    · obtain ⟨u, hu⟩ : ∃ u, L[k]? = some u := ⟨_, List.getElem?_eq_getElem hlt⟩
      have HV := Lib.hid hu
      have ho := HLs.out u (List.mem_of_getElem? hu)
      have HG := Lib.hid (clOk_good ho)
      obtain ⟨b', off', rfl, q0, q1, q2, q3, q4, q5, q6, q7⟩ := (HA.out.below HI.out.2.2.2).at hu
      have i0 : (0 : Int) ≤ (k : Int) := by omega
      have i1 : (k : Int) < (L.length : Int) := by omega
      have HI1 := Lib.hid (HI.out.later ((Below.refl _ wr).alloc (Nat.le_refl _) (.cells #[.int .i64 u.i, .int .i64 u.n, .int .i64 u.f, .int .i64 u.b, .bool u.x, .int .i64 u.l, .int .i64 u.m, .int .i64 u.k] 59)))
      have HU0 := Lib.hid (AtL.new wr u 59)
      change Hid (AtL (wr.alloc (.cells #[.int .i64 u.i, .int .i64 u.n, .int .i64 u.f, .int .i64 u.b, .bool u.x, .int .i64 u.l, .int .i64 u.m, .int .i64 u.k] 59)) wr.heap.size 0 u.cells) at HU0
      have hsz : w.heap.size + 1 < wr.heap.size := HI.out.2.1.lt (by show 0 < 5; omega)
      have hlw : w.heap.size < wr.heap.size := by omega
      have hnw : ¬ w.heap.size = wr.heap.size := by omega
      obtain ⟨⟨s0, s1, s2, s3, s4⟩, _⟩ := HI.out.1
      clear hu HI
      go_wp2_with fail
      clear q0 q1 q2 q3 q4 q5 q6 q7 s0 s1 s2 s3 s4
      generalize wr.alloc (.cells #[.int .i64 u.i, .int .i64 u.n, .int .i64 u.f, .int .i64 u.b, .bool u.x, .int .i64 u.l, .int .i64 u.m, .int .i64 u.k] 59) = wq at *
      generalize wr.heap.size = RU at *
      cases hx : fitsC u (f, b, P, l, M) with
      | false =>
        have HN2 : Hid (∀ (j : Nat) v, j < k + 1 → L[j]? = some v → fitsC v (f, b, P, l, M) = false) := Lib.hid (fun j v hj hv => by
          by_cases e : j = k
          · subst e; rw [HV.out] at hv; cases hv; exact hx
          · exact HN.out j v (by omega) hv)
        refine (sfits_is u f b a c P l d e M hx ho HRo.out _ HI1.out.2.2.1).mono ?_
        rintro en w1 ⟨rfl, b1⟩
        have HI2 := Lib.hid (HI1.out.later b1)
        clear b1 HI1 hx
        go_wp2_with fail
        go_roundw
        case rel => exact ⟨k + 1, by omega, by go_num, HN2, HI2⟩
        case measure => simp [intOf]; omega
      | true =>
        have HX := Lib.hid (show applyC u (f, b, P, l, M) = r by rw [← KX.out]; exact (firstC_hit HV.out hx HN.out).symm)
        refine (sfits_is u f b a c P l d e M hx ho HRo.out _ HI1.out.2.2.1).mono ?_
        rintro en w1 ⟨rfl, b1⟩
        have HI2 := Lib.hid (HI1.out.later b1)
        have HU1 := Lib.hid (HU0.out.below b1)
        clear b1 HI1 HU0 hx HN KX
        have k4 := HU1.out.z8.1.2.2.2.2.1
        by_cases hxx : u.x = true
        · have HX2 := Lib.hid (show r = (zRt, false) by rw [← HX.out]; simp [applyC, hxx])
          go_wp2_with (refine wpList_stA rfl 32 (.tmp 4) (.tmp 25) rfl (w.heap.size + 1) #[.int .i64 0, .int .i64 0, .slice none 0 0, .int .i64 0, .slice none 0 0] ?xb ?yb (one5a _ _ _ _ _ _ _ _ _) infoR5 _ HI2.out.2.1 ?lb ?gb)
          try case xb => rfl
          try case yb => rfl
          try case lb => rfl
          intro wF aF gF
          have HF := Lib.hid (below_only HI2.out.2.2.2 gF HI2.out.2.2.2.size (by omega))
          obtain ⟨⟨z0, z1, z2, z3, z4⟩, _⟩ := AtL.to5 aF
          clear aF gF
          go_wp2_with fail
          exact bodyPost_ret (v := .tuple #[rtV zRt (.slice none 0 0) (.slice none 0 0), .bool false]) (by simp [results, Tryz.results30, go_sem, z0, z1, z2, z3, z4, rtV, zRt]) rfl (by rw [HX2.out]; exact ⟨_, _, rfl, OwnRt.zero HF.out⟩)
        have hxf : u.x = false := by simpa using hxx
        have HX2 := Lib.hid (show r = (makeC u (f, b, P, l, M), true) by rw [← HX.out]; simp [applyC, hxf])
        clear hxx HX
        obtain ⟨⟨s0, s1, s2, s3, s4⟩, _⟩ := HI2.out.1
        go_wp2_with fail
        clear s0 s1 s2 s3 s4 k4 hxf
        refine (l4copy_is f b a c P l d e M _ HI2.out.2.2.1).mono ?_
        rintro en w3 ⟨pv, mv, rfl, hO⟩
        obtain ⟨S0, hA⟩ := Ap.start (w := w) (u := u) HU1.out HI2.out.2.1 HI2.out.2.2.2 hO (by omega) (by omega) 32
        obtain ⟨S1, o1, _, o2, _⟩ := hO
        replace o1 : OwnI w3 w1.heap.size pv P := o1
        replace o2 : OwnI w3 S1 mv M := o2
        obtain ⟨pa, pc, rfl, _, _⟩ := OwnI.tab o1
        obtain ⟨ma, mc, rfl, _, _⟩ := OwnI.tab o2
        have D0 : Hid (Ap w u RU (w.heap.size + 1) w3.heap.size (f, b, P, l, M) (.slice pa P.length pc) (.slice ma M.length mc) S0 (w3.alloc (.cells #[.int .i64 f, .int .i64 b, .slice pa P.length pc, .int .i64 l, .slice ma M.length mc] 32))) := Lib.hid hA
        clear hA o1 o2 HI2 HU1
        go_wp2_with (refine wpList_halt 3 (.tmp 28) rfl ?_)
        intro w2 hw2
        rw [← hw2] at D0
        clear hw2
        generalize w3.heap.size = R at *
        have ltR := D0.out.lt
        by_cases hl : 0 ≤ u.l
        · have k5 := D0.out.cl.z8.1.2.2.2.2.2.1
          have EL := Lib.hid (show likeC u l = u.l by rw [likeC, if_neg (by omega)])
          go_wp2_with (refine wpList_st1 rfl 3 (.tmp 33) (.tmp 32) rfl R 3 (.int .i64 u.l) ?x1 ?y1 rfl rfl infoI1 _ D0.out.box (by show 3 < 5; omega) ?g1)
          try case x1 => rfl
          try case y1 => rfl
          intro w4 aa gg
          have D1 : Hid (Ap w u RU (w.heap.size + 1) R (f, b, P, u.l, M) (.slice pa P.length pc) (.slice ma M.length mc) S0 w4) := Lib.hid (D0.out.like aa gg)
          clear aa gg D0 k5 hl
          by_cases hm : 0 < u.m
          · have k6 := D1.out.cl.z8.1.2.2.2.2.2.2.1
            obtain ⟨M2, hM2⟩ : ∃ N, N = mins M u.m := ⟨_, rfl⟩
            have EM := Lib.hid (show markC u M = M2 by rw [hM2, markC, if_neg (by omega)])
            have HK2 : Hid (Marks M2) := Lib.hid (by rw [hM2]; exact (HR.out.marks).mins (by have := HG.out.mark; omega))
            have hl2 : M2.length ≤ 9 := HK2.out.len
            have HM2 := Lib.hid hM2
            clear hM2
            obtain ⟨⟨g0, g1, g2, g3, g4⟩, _⟩ := (AtL.to5 D1.out.box)
            go_wp2_with fail
            clear g0 g1 g2 g3 g4
            clear k6 hm
            refine (l4mark_is (m := u.m) (HR.out.marks.2) hlM ma mc _ _ rfl (OwnI.intA D1.out.oM).2.2).mono ?_
            rintro en v2 ⟨mv2, rfl, o2, bb⟩
            rw [← HM2.out] at o2
            have HO := Lib.hid o2
            obtain ⟨ma2, mc2, rfl, _, _⟩ := OwnI.tab o2
            have HBB := Lib.hid bb
            have DB := Lib.hid (D1.out.later bb)
            clear o2 bb
            go_wp2_with (refine wpList_st1 rfl 25 (.tmp 42) (.tmp 41) rfl R 4 (.slice ma2 M2.length mc2) ?x2 ?y2 rfl rfl infoS1 _ DB.out.box (by show 4 < 5; omega) ?g2)
            try case x2 => rfl
            try case y2 => rfl
            intro y2 aa gg
            obtain ⟨S2, hA2⟩ := D1.out.putM HO.out HBB.out aa gg
            have E2 : Hid (Ap w u RU (w.heap.size + 1) R (f, b, P, u.l, M2) (.slice pa P.length pc) (.slice ma2 M2.length mc2) S2 y2) := Lib.hid hA2
            clear aa gg hA2 HO HBB DB D1
            by_cases hk : 0 < u.k
            · have k7 := E2.out.cl.z8.1.2.2.2.2.2.2.2
              obtain ⟨M3, hM3⟩ : ∃ N, N = mdel M2 u.k := ⟨_, rfl⟩
              have EK := Lib.hid (show clearC u M2 = M3 by rw [hM3, clearC, if_neg (by omega)])
              have HK3 : Hid (Marks M3) := Lib.hid (by rw [hM3]; exact (HK2.out).mdel)
              have hl3 : M3.length ≤ 9 := HK3.out.len
              have HM3 := Lib.hid hM3
              clear hM3
              obtain ⟨⟨g0, g1, g2, g3, g4⟩, _⟩ := (AtL.to5 E2.out.box)
              go_wp2_with fail
              clear g0 g1 g2 g3 g4
              clear k7 hk
              refine (l4clear_is (m := u.k) hl2 ma2 mc2 _ _ rfl (OwnI.intA E2.out.oM).2.2).mono ?_
              rintro en v3 ⟨mv3, rfl, o3, bb⟩
              rw [← HM3.out] at o3
              have HO := Lib.hid o3
              obtain ⟨ma3, mc3, rfl, _, _⟩ := OwnI.tab o3
              have HBB := Lib.hid bb
              have DB := Lib.hid (E2.out.later bb)
              clear o3 bb
              go_wp2_with (refine wpList_st1 rfl 25 (.tmp 51) (.tmp 50) rfl R 4 (.slice ma3 M3.length mc3) ?x3 ?y3 rfl rfl infoS1 _ DB.out.box (by show 4 < 5; omega) ?g3)
              try case x3 => rfl
              try case y3 => rfl
              intro y3 aa gg
              obtain ⟨S3, hA3⟩ := E2.out.putM HO.out HBB.out aa gg
              have E3 : Hid (Ap w u RU (w.heap.size + 1) R (f, b, P, u.l, M3) (.slice pa P.length pc) (.slice ma3 M3.length mc3) S3 y3) := Lib.hid hA3
              clear aa gg hA3 HO HBB DB E2
              obtain ⟨⟨g0, g1, g2, g3, g4⟩, _⟩ := (AtL.to5 E3.out.box)
              go_wp2_with (refine wpList_stA rfl 32 (.tmp 4) (.tmp 52) rfl (w.heap.size + 1) #[.int .i64 f, .int .i64 b, .slice pa P.length pc, .int .i64 (u.l), .slice ma3 (M3).length mc3] ?x4 ?y4 (one5a _ _ _ _ _ _ _ _ _) infoR5 _ E3.out.ans ?l4 ?g4)
              try case x4 => rfl
              try case y4 => rfl
              try case l4 => rfl
              intro wF aF gF
              have HF := Lib.hid (E3.out.done gF)
              obtain ⟨⟨z0, z1, z2, z3, z4⟩, _⟩ := AtL.to5 aF
              clear aF gF
              clear g0 g1 g2 g3 g4
              go_wp2_with fail
              exact bodyPost_ret (v := .tuple #[.agg #[.int .i64 f, .int .i64 b, .slice pa P.length pc, .int .i64 (u.l), .slice ma3 (M3).length mc3], .bool true]) (by simp [results, Tryz.results30, go_sem, z0, z1, z2, z3, z4]) rfl (by rw [HX2.out]; unfold makeC; dsimp only; rw [EL.out, EM.out, EK.out]; exact ⟨_, _, rfl, HF.out⟩)
            · have k7 := E2.out.cl.z8.1.2.2.2.2.2.2.2
              have EK := Lib.hid (show clearC u M2 = M2 by rw [clearC, if_pos (by have := HG.out.clear; omega)])
              obtain ⟨⟨g0, g1, g2, g3, g4⟩, _⟩ := (AtL.to5 E2.out.box)
              go_wp2_with (refine wpList_stA rfl 32 (.tmp 4) (.tmp 52) rfl (w.heap.size + 1) #[.int .i64 f, .int .i64 b, .slice pa P.length pc, .int .i64 (u.l), .slice ma2 (M2).length mc2] ?x5 ?y5 (one5a _ _ _ _ _ _ _ _ _) infoR5 _ E2.out.ans ?l5 ?g5)
              try case x5 => rfl
              try case y5 => rfl
              try case l5 => rfl
              intro wF aF gF
              have HF := Lib.hid (E2.out.done gF)
              obtain ⟨⟨z0, z1, z2, z3, z4⟩, _⟩ := AtL.to5 aF
              clear aF gF
              clear g0 g1 g2 g3 g4
              clear k7 hk
              go_wp2_with fail
              exact bodyPost_ret (v := .tuple #[.agg #[.int .i64 f, .int .i64 b, .slice pa P.length pc, .int .i64 (u.l), .slice ma2 (M2).length mc2], .bool true]) (by simp [results, Tryz.results30, go_sem, z0, z1, z2, z3, z4]) rfl (by rw [HX2.out]; unfold makeC; dsimp only; rw [EL.out, EM.out, EK.out]; exact ⟨_, _, rfl, HF.out⟩)
          · have k6 := D1.out.cl.z8.1.2.2.2.2.2.2.1
            have EM := Lib.hid (show markC u M = M by rw [markC, if_pos (by have := HG.out.mark; omega)])
            by_cases hk : 0 < u.k
            · have k7 := D1.out.cl.z8.1.2.2.2.2.2.2.2
              obtain ⟨M3, hM3⟩ : ∃ N, N = mdel M u.k := ⟨_, rfl⟩
              have EK := Lib.hid (show clearC u M = M3 by rw [hM3, clearC, if_neg (by omega)])
              have HK3 : Hid (Marks M3) := Lib.hid (by rw [hM3]; exact (HR.out.marks).mdel)
              have hl3 : M3.length ≤ 9 := HK3.out.len
              have HM3 := Lib.hid hM3
              clear hM3
              obtain ⟨⟨g0, g1, g2, g3, g4⟩, _⟩ := (AtL.to5 D1.out.box)
              go_wp2_with fail
              clear g0 g1 g2 g3 g4
              clear k6 hm k7 hk
              refine (l4clear_is (m := u.k) hlM ma mc _ _ rfl (OwnI.intA D1.out.oM).2.2).mono ?_
              rintro en v3 ⟨mv3, rfl, o3, bb⟩
              rw [← HM3.out] at o3
              have HO := Lib.hid o3
              obtain ⟨ma3, mc3, rfl, _, _⟩ := OwnI.tab o3
              have HBB := Lib.hid bb
              have DB := Lib.hid (D1.out.later bb)
              clear o3 bb
              go_wp2_with (refine wpList_st1 rfl 25 (.tmp 51) (.tmp 50) rfl R 4 (.slice ma3 M3.length mc3) ?x6 ?y6 rfl rfl infoS1 _ DB.out.box (by show 4 < 5; omega) ?g6)
              try case x6 => rfl
              try case y6 => rfl
              intro y3 aa gg
              obtain ⟨S3, hA3⟩ := D1.out.putM HO.out HBB.out aa gg
              have E3 : Hid (Ap w u RU (w.heap.size + 1) R (f, b, P, u.l, M3) (.slice pa P.length pc) (.slice ma3 M3.length mc3) S3 y3) := Lib.hid hA3
              clear aa gg hA3 HO HBB DB D1
              obtain ⟨⟨g0, g1, g2, g3, g4⟩, _⟩ := (AtL.to5 E3.out.box)
              go_wp2_with (refine wpList_stA rfl 32 (.tmp 4) (.tmp 52) rfl (w.heap.size + 1) #[.int .i64 f, .int .i64 b, .slice pa P.length pc, .int .i64 (u.l), .slice ma3 (M3).length mc3] ?x7 ?y7 (one5a _ _ _ _ _ _ _ _ _) infoR5 _ E3.out.ans ?l7 ?g7)
              try case x7 => rfl
              try case y7 => rfl
              try case l7 => rfl
              intro wF aF gF
              have HF := Lib.hid (E3.out.done gF)
              obtain ⟨⟨z0, z1, z2, z3, z4⟩, _⟩ := AtL.to5 aF
              clear aF gF
              clear g0 g1 g2 g3 g4
              go_wp2_with fail
              exact bodyPost_ret (v := .tuple #[.agg #[.int .i64 f, .int .i64 b, .slice pa P.length pc, .int .i64 (u.l), .slice ma3 (M3).length mc3], .bool true]) (by simp [results, Tryz.results30, go_sem, z0, z1, z2, z3, z4]) rfl (by rw [HX2.out]; unfold makeC; dsimp only; rw [EL.out, EM.out, EK.out]; exact ⟨_, _, rfl, HF.out⟩)
            · have k7 := D1.out.cl.z8.1.2.2.2.2.2.2.2
              have EK := Lib.hid (show clearC u M = M by rw [clearC, if_pos (by have := HG.out.clear; omega)])
              obtain ⟨⟨g0, g1, g2, g3, g4⟩, _⟩ := (AtL.to5 D1.out.box)
              go_wp2_with (refine wpList_stA rfl 32 (.tmp 4) (.tmp 52) rfl (w.heap.size + 1) #[.int .i64 f, .int .i64 b, .slice pa P.length pc, .int .i64 (u.l), .slice ma (M).length mc] ?x8 ?y8 (one5a _ _ _ _ _ _ _ _ _) infoR5 _ D1.out.ans ?l8 ?g8)
              try case x8 => rfl
              try case y8 => rfl
              try case l8 => rfl
              intro wF aF gF
              have HF := Lib.hid (D1.out.done gF)
              obtain ⟨⟨z0, z1, z2, z3, z4⟩, _⟩ := AtL.to5 aF
              clear aF gF
              clear g0 g1 g2 g3 g4
              clear k6 hm k7 hk
              go_wp2_with fail
              exact bodyPost_ret (v := .tuple #[.agg #[.int .i64 f, .int .i64 b, .slice pa P.length pc, .int .i64 (u.l), .slice ma (M).length mc], .bool true]) (by simp [results, Tryz.results30, go_sem, z0, z1, z2, z3, z4]) rfl (by rw [HX2.out]; unfold makeC; dsimp only; rw [EL.out, EM.out, EK.out]; exact ⟨_, _, rfl, HF.out⟩)
        · have k5 := D0.out.cl.z8.1.2.2.2.2.2.1
          have EL := Lib.hid (show likeC u l = l by rw [likeC, if_pos (by have := HG.out.like; omega)])
          by_cases hm : 0 < u.m
          · have k6 := D0.out.cl.z8.1.2.2.2.2.2.2.1
            obtain ⟨M2, hM2⟩ : ∃ N, N = mins M u.m := ⟨_, rfl⟩
            have EM := Lib.hid (show markC u M = M2 by rw [hM2, markC, if_neg (by omega)])
            have HK2 : Hid (Marks M2) := Lib.hid (by rw [hM2]; exact (HR.out.marks).mins (by have := HG.out.mark; omega))
            have hl2 : M2.length ≤ 9 := HK2.out.len
            have HM2 := Lib.hid hM2
            clear hM2
            obtain ⟨⟨g0, g1, g2, g3, g4⟩, _⟩ := (AtL.to5 D0.out.box)
            go_wp2_with fail
            clear g0 g1 g2 g3 g4
            clear k5 hl k6 hm
            refine (l4mark_is (m := u.m) (HR.out.marks.2) hlM ma mc _ _ rfl (OwnI.intA D0.out.oM).2.2).mono ?_
            rintro en v2 ⟨mv2, rfl, o2, bb⟩
            rw [← HM2.out] at o2
            have HO := Lib.hid o2
            obtain ⟨ma2, mc2, rfl, _, _⟩ := OwnI.tab o2
            have HBB := Lib.hid bb
            have DB := Lib.hid (D0.out.later bb)
            clear o2 bb
            go_wp2_with (refine wpList_st1 rfl 25 (.tmp 42) (.tmp 41) rfl R 4 (.slice ma2 M2.length mc2) ?x9 ?y9 rfl rfl infoS1 _ DB.out.box (by show 4 < 5; omega) ?g9)
            try case x9 => rfl
            try case y9 => rfl
            intro y2 aa gg
            obtain ⟨S2, hA2⟩ := D0.out.putM HO.out HBB.out aa gg
            have E2 : Hid (Ap w u RU (w.heap.size + 1) R (f, b, P, l, M2) (.slice pa P.length pc) (.slice ma2 M2.length mc2) S2 y2) := Lib.hid hA2
            clear aa gg hA2 HO HBB DB D0
            by_cases hk : 0 < u.k
            · have k7 := E2.out.cl.z8.1.2.2.2.2.2.2.2
              obtain ⟨M3, hM3⟩ : ∃ N, N = mdel M2 u.k := ⟨_, rfl⟩
              have EK := Lib.hid (show clearC u M2 = M3 by rw [hM3, clearC, if_neg (by omega)])
              have HK3 : Hid (Marks M3) := Lib.hid (by rw [hM3]; exact (HK2.out).mdel)
              have hl3 : M3.length ≤ 9 := HK3.out.len
              have HM3 := Lib.hid hM3
              clear hM3
              obtain ⟨⟨g0, g1, g2, g3, g4⟩, _⟩ := (AtL.to5 E2.out.box)
              go_wp2_with fail
              clear g0 g1 g2 g3 g4
              clear k7 hk
              refine (l4clear_is (m := u.k) hl2 ma2 mc2 _ _ rfl (OwnI.intA E2.out.oM).2.2).mono ?_
              rintro en v3 ⟨mv3, rfl, o3, bb⟩
              rw [← HM3.out] at o3
              have HO := Lib.hid o3
              obtain ⟨ma3, mc3, rfl, _, _⟩ := OwnI.tab o3
              have HBB := Lib.hid bb
              have DB := Lib.hid (E2.out.later bb)
              clear o3 bb
              go_wp2_with (refine wpList_st1 rfl 25 (.tmp 51) (.tmp 50) rfl R 4 (.slice ma3 M3.length mc3) ?x10 ?y10 rfl rfl infoS1 _ DB.out.box (by show 4 < 5; omega) ?g10)
              try case x10 => rfl
              try case y10 => rfl
              intro y3 aa gg
              obtain ⟨S3, hA3⟩ := E2.out.putM HO.out HBB.out aa gg
              have E3 : Hid (Ap w u RU (w.heap.size + 1) R (f, b, P, l, M3) (.slice pa P.length pc) (.slice ma3 M3.length mc3) S3 y3) := Lib.hid hA3
              clear aa gg hA3 HO HBB DB E2
              obtain ⟨⟨g0, g1, g2, g3, g4⟩, _⟩ := (AtL.to5 E3.out.box)
              go_wp2_with (refine wpList_stA rfl 32 (.tmp 4) (.tmp 52) rfl (w.heap.size + 1) #[.int .i64 f, .int .i64 b, .slice pa P.length pc, .int .i64 (l), .slice ma3 (M3).length mc3] ?x11 ?y11 (one5a _ _ _ _ _ _ _ _ _) infoR5 _ E3.out.ans ?l11 ?g11)
              try case x11 => rfl
              try case y11 => rfl
              try case l11 => rfl
              intro wF aF gF
              have HF := Lib.hid (E3.out.done gF)
              obtain ⟨⟨z0, z1, z2, z3, z4⟩, _⟩ := AtL.to5 aF
              clear aF gF
              clear g0 g1 g2 g3 g4
              go_wp2_with fail
              exact bodyPost_ret (v := .tuple #[.agg #[.int .i64 f, .int .i64 b, .slice pa P.length pc, .int .i64 (l), .slice ma3 (M3).length mc3], .bool true]) (by simp [results, Tryz.results30, go_sem, z0, z1, z2, z3, z4]) rfl (by rw [HX2.out]; unfold makeC; dsimp only; rw [EL.out, EM.out, EK.out]; exact ⟨_, _, rfl, HF.out⟩)
            · have k7 := E2.out.cl.z8.1.2.2.2.2.2.2.2
              have EK := Lib.hid (show clearC u M2 = M2 by rw [clearC, if_pos (by have := HG.out.clear; omega)])
              obtain ⟨⟨g0, g1, g2, g3, g4⟩, _⟩ := (AtL.to5 E2.out.box)
              go_wp2_with (refine wpList_stA rfl 32 (.tmp 4) (.tmp 52) rfl (w.heap.size + 1) #[.int .i64 f, .int .i64 b, .slice pa P.length pc, .int .i64 (l), .slice ma2 (M2).length mc2] ?x12 ?y12 (one5a _ _ _ _ _ _ _ _ _) infoR5 _ E2.out.ans ?l12 ?g12)
              try case x12 => rfl
              try case y12 => rfl
              try case l12 => rfl
              intro wF aF gF
              have HF := Lib.hid (E2.out.done gF)
              obtain ⟨⟨z0, z1, z2, z3, z4⟩, _⟩ := AtL.to5 aF
              clear aF gF
              clear g0 g1 g2 g3 g4
              clear k7 hk
              go_wp2_with fail
              exact bodyPost_ret (v := .tuple #[.agg #[.int .i64 f, .int .i64 b, .slice pa P.length pc, .int .i64 (l), .slice ma2 (M2).length mc2], .bool true]) (by simp [results, Tryz.results30, go_sem, z0, z1, z2, z3, z4]) rfl (by rw [HX2.out]; unfold makeC; dsimp only; rw [EL.out, EM.out, EK.out]; exact ⟨_, _, rfl, HF.out⟩)
          · have k6 := D0.out.cl.z8.1.2.2.2.2.2.2.1
            have EM := Lib.hid (show markC u M = M by rw [markC, if_pos (by have := HG.out.mark; omega)])
            by_cases hk : 0 < u.k
            · have k7 := D0.out.cl.z8.1.2.2.2.2.2.2.2
              obtain ⟨M3, hM3⟩ : ∃ N, N = mdel M u.k := ⟨_, rfl⟩
              have EK := Lib.hid (show clearC u M = M3 by rw [hM3, clearC, if_neg (by omega)])
              have HK3 : Hid (Marks M3) := Lib.hid (by rw [hM3]; exact (HR.out.marks).mdel)
              have hl3 : M3.length ≤ 9 := HK3.out.len
              have HM3 := Lib.hid hM3
              clear hM3
              obtain ⟨⟨g0, g1, g2, g3, g4⟩, _⟩ := (AtL.to5 D0.out.box)
              go_wp2_with fail
              clear g0 g1 g2 g3 g4
              clear k5 hl k6 hm k7 hk
              refine (l4clear_is (m := u.k) hlM ma mc _ _ rfl (OwnI.intA D0.out.oM).2.2).mono ?_
              rintro en v3 ⟨mv3, rfl, o3, bb⟩
              rw [← HM3.out] at o3
              have HO := Lib.hid o3
              obtain ⟨ma3, mc3, rfl, _, _⟩ := OwnI.tab o3
              have HBB := Lib.hid bb
              have DB := Lib.hid (D0.out.later bb)
              clear o3 bb
              go_wp2_with (refine wpList_st1 rfl 25 (.tmp 51) (.tmp 50) rfl R 4 (.slice ma3 M3.length mc3) ?x13 ?y13 rfl rfl infoS1 _ DB.out.box (by show 4 < 5; omega) ?g13)
              try case x13 => rfl
              try case y13 => rfl
              intro y3 aa gg
              obtain ⟨S3, hA3⟩ := D0.out.putM HO.out HBB.out aa gg
              have E3 : Hid (Ap w u RU (w.heap.size + 1) R (f, b, P, l, M3) (.slice pa P.length pc) (.slice ma3 M3.length mc3) S3 y3) := Lib.hid hA3
              clear aa gg hA3 HO HBB DB D0
              obtain ⟨⟨g0, g1, g2, g3, g4⟩, _⟩ := (AtL.to5 E3.out.box)
              go_wp2_with (refine wpList_stA rfl 32 (.tmp 4) (.tmp 52) rfl (w.heap.size + 1) #[.int .i64 f, .int .i64 b, .slice pa P.length pc, .int .i64 (l), .slice ma3 (M3).length mc3] ?x14 ?y14 (one5a _ _ _ _ _ _ _ _ _) infoR5 _ E3.out.ans ?l14 ?g14)
              try case x14 => rfl
              try case y14 => rfl
              try case l14 => rfl
              intro wF aF gF
              have HF := Lib.hid (E3.out.done gF)
              obtain ⟨⟨z0, z1, z2, z3, z4⟩, _⟩ := AtL.to5 aF
              clear aF gF
              clear g0 g1 g2 g3 g4
              go_wp2_with fail
              exact bodyPost_ret (v := .tuple #[.agg #[.int .i64 f, .int .i64 b, .slice pa P.length pc, .int .i64 (l), .slice ma3 (M3).length mc3], .bool true]) (by simp [results, Tryz.results30, go_sem, z0, z1, z2, z3, z4]) rfl (by rw [HX2.out]; unfold makeC; dsimp only; rw [EL.out, EM.out, EK.out]; exact ⟨_, _, rfl, HF.out⟩)
            · have k7 := D0.out.cl.z8.1.2.2.2.2.2.2.2
              have EK := Lib.hid (show clearC u M = M by rw [clearC, if_pos (by have := HG.out.clear; omega)])
              obtain ⟨⟨g0, g1, g2, g3, g4⟩, _⟩ := (AtL.to5 D0.out.box)
              go_wp2_with (refine wpList_stA rfl 32 (.tmp 4) (.tmp 52) rfl (w.heap.size + 1) #[.int .i64 f, .int .i64 b, .slice pa P.length pc, .int .i64 (l), .slice ma (M).length mc] ?x15 ?y15 (one5a _ _ _ _ _ _ _ _ _) infoR5 _ D0.out.ans ?l15 ?g15)
              try case x15 => rfl
              try case y15 => rfl
              try case l15 => rfl
              intro wF aF gF
              have HF := Lib.hid (D0.out.done gF)
              obtain ⟨⟨z0, z1, z2, z3, z4⟩, _⟩ := AtL.to5 aF
              clear aF gF
              clear g0 g1 g2 g3 g4
              clear k5 hl k6 hm k7 hk
              go_wp2_with fail
              exact bodyPost_ret (v := .tuple #[.agg #[.int .i64 f, .int .i64 b, .slice pa P.length pc, .int .i64 (l), .slice ma (M).length mc], .bool true]) (by simp [results, Tryz.results30, go_sem, z0, z1, z2, z3, z4]) rfl (by rw [HX2.out]; unfold makeC; dsimp only; rw [EL.out, EM.out, EK.out]; exact ⟨_, _, rfl, HF.out⟩)
    · obtain rfl : k = L.length := by omega
      have HX := Lib.hid (show r = (zRt, false) by
        rw [← KX.out]
        exact firstC_miss (fun j u hu => HN.out j u (List.getElem?_eq_some_iff.1 hu).1 hu))
      go_wp2_with (refine wpList_stA rfl 32 (.tmp 4) (.tmp 53) rfl (w.heap.size + 1) #[.int .i64 0, .int .i64 0, .slice none 0 0, .int .i64 0, .slice none 0 0] ?xc ?yc (one5a _ _ _ _ _ _ _ _ _) infoR5 _ HI.out.2.1 ?lc ?gc)
      try case xc => rfl
      try case yc => rfl
      try case lc => rfl
      intro wF aF gF
      have HF := Lib.hid (below_only HI.out.2.2.2 gF HI.out.2.2.2.size (by omega))
      obtain ⟨⟨z0, z1, z2, z3, z4⟩, _⟩ := AtL.to5 aF
      clear aF gF
      go_wp2_with fail
      exact bodyPost_ret (v := .tuple #[rtV zRt (.slice none 0 0) (.slice none 0 0), .bool false]) (by simp [results, Tryz.results30, go_sem, z0, z1, z2, z3, z4, rtV, zRt]) rfl (by rw [HX.out]; exact ⟨_, _, rfl, OwnRt.zero HF.out⟩)

set_option maxRecDepth 100000 in
set_option maxHeartbeats 2000000 in
theorem spoldo_is (L : List CL) (a' : Option Addr) (n' cap' : Nat) (f b : Int) (a : Option Addr) (c : Nat) (P : List Int) (l : Int) (d : Option Addr) (e : Nat) (M : List Int) {r : Rt × Bool} (k : polDo L (f, b, P, l, M) = r) (w : World) (hn : n' = L.length) (hA : CsA w a' L) (hl : L.length ≤ 2000000) (hm : RtM w a c P d e M) :
    Calls Tryz.prog 8 #[.slice a' n' cap', .agg #[.int .i64 f, .int .i64 b, .slice a P.length c, .int .i64 l, .slice d M.length e]] w (OwnRB w r) := by
  subst hn
  have KX := Lib.hid k
  have HA := Lib.hid hA
  have H0 := Lib.hid (Br.new f b a c P l d e M hm 32 32)
  clear k hA hm
  go_enter Tryz.func8, Tryz.ntmps8
  go_wp2_with fail
  generalize (w.alloc (.cells #[.int .i64 f, .int .i64 b, .slice a P.length c, .int .i64 l, .slice d M.length e] 32)).alloc (.cells #[.int .i64 0, .int .i64 0, .slice none 0 0, .int .i64 0, .slice none 0 0] 32) = W0 at *
  cases ho : polOk L with
  | false =>
    have HX := Lib.hid (show r = (zRt, false) by rw [← KX.out, polDo_no1 ho])
    refine (spolok_is L ho a' cap' _ _ rfl (HA.out.below H0.out.2.2.2) hl).mono ?_
    rintro en w1 ⟨rfl, b1⟩
    have H1 := Lib.hid (H0.out.later b1)
    clear b1 H0
    go_wp2_with (refine wpList_stA rfl 32 (.tmp 4) (.tmp 14) rfl (w.heap.size + 1) #[.int .i64 0, .int .i64 0, .slice none 0 0, .int .i64 0, .slice none 0 0] ?xp ?yp (one5a _ _ _ _ _ _ _ _ _) infoR5 _ H1.out.2.1 ?lp ?gp)
    try case xp => rfl
    try case yp => rfl
    try case lp => rfl
    intro wF aF gF
    have HF := Lib.hid (below_only H1.out.2.2.2 gF H1.out.2.2.2.size (by omega))
    obtain ⟨⟨z0, z1, z2, z3, z4⟩, _⟩ := AtL.to5 aF
    clear aF gF
    go_wp2_with fail
    exact bodyPost_ret (v := .tuple #[rtV zRt (.slice none 0 0) (.slice none 0 0), .bool false]) (by simp [results, Tryz.results8, go_sem, z0, z1, z2, z3, z4, rtV, zRt]) rfl (by rw [HX.out]; exact ⟨_, _, rfl, OwnRt.zero HF.out⟩)
  | true =>
    refine (spolok_is L ho a' cap' _ _ rfl (HA.out.below H0.out.2.2.2) hl).mono ?_
    rintro en w1 ⟨rfl, b1⟩
    have H1 := Lib.hid (H0.out.later b1)
    clear b1 H0
    obtain ⟨⟨q0, q1, q2, q3, q4⟩, _⟩ := H1.out.1
    go_wp2_with fail
    clear q0 q1 q2 q3 q4
    cases hr : rtOk (f, b, P, l, M) with
    | false =>
      have HX := Lib.hid (show r = (zRt, false) by rw [← KX.out, polDo_no2 hr])
      refine (srok_is f b a c P l d e M hr _ H1.out.2.2.1).mono ?_
      rintro en w2 ⟨rfl, b2⟩
      have H2 := Lib.hid (H1.out.later b2)
      clear b2 H1
      go_wp2_with (refine wpList_stA rfl 32 (.tmp 4) (.tmp 14) rfl (w.heap.size + 1) #[.int .i64 0, .int .i64 0, .slice none 0 0, .int .i64 0, .slice none 0 0] ?xq ?yq (one5a _ _ _ _ _ _ _ _ _) infoR5 _ H2.out.2.1 ?lq ?gq)
      try case xq => rfl
      try case yq => rfl
      try case lq => rfl
      intro wF aF gF
      have HF := Lib.hid (below_only H2.out.2.2.2 gF H2.out.2.2.2.size (by omega))
      obtain ⟨⟨z0, z1, z2, z3, z4⟩, _⟩ := AtL.to5 aF
      clear aF gF
      go_wp2_with fail
      exact bodyPost_ret (v := .tuple #[rtV zRt (.slice none 0 0) (.slice none 0 0), .bool false]) (by simp [results, Tryz.results8, go_sem, z0, z1, z2, z3, z4, rtV, zRt]) rfl (by rw [HX.out]; exact ⟨_, _, rfl, OwnRt.zero HF.out⟩)
    | true =>
      refine (srok_is f b a c P l d e M hr _ H1.out.2.2.1).mono ?_
      rintro en w2 ⟨rfl, b2⟩
      have H2 := Lib.hid (H1.out.later b2)
      clear b2 H1
      obtain ⟨⟨⟨fU, bU, PU, lU, MU⟩, x⟩, hU⟩ : ∃ s, firstC L (f, b, P, l, M) = s := ⟨_, rfl⟩
      have HU := Lib.hid hU
      have HX := Lib.hid (show r = ((fU, bU, PU, lU, MU), x) by rw [← KX.out, polDo_yes ho hr]; exact hU)
      clear hU
      obtain ⟨⟨q0, q1, q2, q3, q4⟩, _⟩ := H2.out.1
      go_wp2_with fail
      clear q0 q1 q2 q3 q4
      refine (sfirst_is L a' _ cap' f b a c P l d e M HU.out ((polOk_iff L).1 ho).2 hr _ rfl (HA.out.below H2.out.2.2.2) hl H2.out.2.2.1).mono ?_
      rintro en w5 ⟨pv, mv, rfl, hO⟩
      have HO := Lib.hid hO
      obtain ⟨T5, o1, _, o2, _, b5⟩ := hO
      replace o1 : OwnI w5 w2.heap.size pv PU := o1
      replace o2 : OwnI w5 T5 mv MU := o2
      obtain ⟨pa, pc, rfl, _, _⟩ := OwnI.tab o1
      obtain ⟨ma, mc, rfl, _, _⟩ := OwnI.tab o2
      have HA5 := Lib.hid (H2.out.2.1.below b5)
      have hsz5 : w.heap.size + 1 < w2.heap.size := H2.out.2.1.lt (by show 0 < 5; omega)
      clear o1 o2 b5
      go_wp2_with (refine wpList_stA rfl 32 (.tmp 4) (.tmp 18) rfl (w.heap.size + 1) #[.int .i64 fU, .int .i64 bU, .slice pa PU.length pc, .int .i64 lU, .slice ma MU.length mc] ?xa ?ya (one5a _ _ _ _ _ _ _ _ _) infoR5 _ HA5.out ?la ?ga)
      try case xa => rfl
      try case ya => rfl
      try case la => rfl
      intro wF aF gF
      have HF := Lib.hid (HO.out.stored H2.out.2.2.2 gF hsz5 (by omega))
      obtain ⟨⟨z0, z1, z2, z3, z4⟩, _⟩ := AtL.to5 aF
      clear aF gF HO HA5
      go_wp2_with fail
      exact bodyPost_ret (v := .tuple #[.agg #[.int .i64 fU, .int .i64 bU, .slice pa PU.length pc, .int .i64 lU, .slice ma MU.length mc], .bool x]) (by simp [results, Tryz.results8, go_sem, z0, z1, z2, z3, z4]) rfl (by rw [HX.out]; exact ⟨_, _, rfl, HF.out⟩)
end Go.Proofs.YtioppkalehnoaaaGreatDoor
