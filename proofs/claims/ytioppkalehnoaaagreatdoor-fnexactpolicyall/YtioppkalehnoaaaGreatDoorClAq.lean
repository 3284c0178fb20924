/-
  A clause is done to a route, by the program.
-/
import Derived.Test.YtioppkalehnoaaaGreatDoorClAp
namespace Go.Proofs.YtioppkalehnoaaaGreatDoor
open Go.RowKit
set_option linter.unusedSimpArgs false
set_option linter.unusedVariables false

set_option maxRecDepth 100000 in
set_option maxHeartbeats 8000000 in
theorem iapply_is (u : CL) (f b : Int) (a : Option Addr) (c : Nat) (P : List Int) (l : Int) (d : Option Addr) (e : Nat) (M : List Int) {r : Rt × Bool} (k : applyC u (f, b, P, l, M) = r) (hu : clOk u = true) (hr : rtOk (f, b, P, l, M) = true) (w : World) (p : Addr) (hm : RtM w a c P d e M) (hE : EV w p) :
    Calls Tryz.prog 64 #[clV u, .agg #[.int .i64 f, .int .i64 b, .slice a P.length c, .int .i64 l, .slice d M.length e]] w (OwnRB w r) := by
  have KX := Lib.hid k
  have HG := Lib.hid (clOk_good hu)
  have HR := Lib.hid ((rtOk_iff _).1 hr)
  obtain ⟨hc0, hr0, hm0, hb0⟩ := Bc.new u f b a c P l d e M hm 59 32
  have hz := At5.new ((w.alloc (.cells (clA u) 59)).alloc (.cells #[.int .i64 f, .int .i64 b, .slice a P.length c, .int .i64 l, .slice d M.length e] 32)) (.int .i64 0) (.int .i64 0) (.slice none 0 0) (.int .i64 0) (.slice none 0 0) 32
  simp only [World.size_alloc] at hz
  have H0 := Lib.hid (And.intro (hc0.alloc (.cells #[.int .i64 0, .int .i64 0, .slice none 0 0, .int .i64 0, .slice none 0 0] 32)) (And.intro (hr0.alloc (.cells #[.int .i64 0, .int .i64 0, .slice none 0 0, .int .i64 0, .slice none 0 0] 32)) (And.intro hz.toL (And.intro (hm0.alloc (.cells #[.int .i64 0, .int .i64 0, .slice none 0 0, .int .i64 0, .slice none 0 0] 32)) (hb0.alloc hb0.size (.cells #[.int .i64 0, .int .i64 0, .slice none 0 0, .int .i64 0, .slice none 0 0] 32))))))
  have hlP : P.length ≤ 5 := HR.out.path.len
  have hlM : M.length ≤ 9 := HR.out.marks.len
  have HE := Lib.hid hE
  clear k hu hr hm hE hc0 hr0 hm0 hb0 hz
  have hw2 : w.heap.size + 1 + 1 = w.heap.size + 2 := rfl
  rw [hw2] at H0
  clear hw2
  by_cases hx : u.x = true
  · have HX := Lib.hid (show r = (zRt, false) by rw [← KX.out]; simp [applyC, hx])
    simp only [clA, hx] at H0
    go_enter Tryz.func64, Tryz.ntmps64
    go_wp2_with fail
    have HB := H0.out.2.2.2.2
    refine bodyPost_ret (v := .tuple #[rtV zRt (.slice none 0 0) (.slice none 0 0), .bool false]) (by simp [results, Tryz.results64, go_sem, rtV, zRt]) rfl (by rw [HX.out]; exact ⟨_, _, rfl, OwnRt.zero HB⟩)
  have hx' : u.x = false := by simpa using hx
  have HX := Lib.hid (show r = (makeC u (f, b, P, l, M), true) by rw [← KX.out]; simp [applyC, hx'])
  simp only [clA, hx'] at H0
  clear hx KX
  go_enter Tryz.func64, Tryz.ntmps64
  go_wp2_with fail
  generalize ((w.alloc (.cells #[.int .i64 u.i, .int .i64 u.n, .int .i64 u.f, .int .i64 u.b, .bool false, .int .i64 u.l, .int .i64 u.m, .int .i64 u.k] 59)).alloc (.cells #[.int .i64 f, .int .i64 b, .slice a P.length c, .int .i64 l, .slice d M.length e] 32)).alloc (.cells #[.int .i64 0, .int .i64 0, .slice none 0 0, .int .i64 0, .slice none 0 0] 32) = W at *
  refine (copied_is f b a c P l d e M _ H0.out.2.2.2.1).mono ?_
  rintro en w1 ⟨pv, mv, rfl, ho⟩
  obtain ⟨S0, hA⟩ := Ap.start (w := w) (u := u) H0.out.1 H0.out.2.2.1 H0.out.2.2.2.2 ho (by omega) (by omega) 32
  obtain ⟨S1, o1, _, o2, _⟩ := ho
  replace o1 : OwnI w1 W.heap.size pv P := o1
  replace o2 : OwnI w1 S1 mv M := o2
  obtain ⟨pa, pc, rfl, _, _⟩ := OwnI.tab o1
  obtain ⟨ma, mc, rfl, _, _⟩ := OwnI.tab o2
  have D0 : Hid (Ap w u w.heap.size (w.heap.size + 2) w1.heap.size (f, b, P, l, M) (.slice pa P.length pc) (.slice ma M.length mc) S0 (w1.alloc (.cells #[.int .i64 f, .int .i64 b, .slice pa P.length pc, .int .i64 l, .slice ma M.length mc] 32))) := Lib.hid hA
  clear hA o1 o2 H0
  go_wp2_with (refine wpList_halt 3 (.tmp 13) rfl ?_)
  intro w2 hw2
  rw [← hw2] at D0
  clear hw2
  generalize w1.heap.size = R at *
  have ltR := D0.out.lt
  by_cases hl : u.l = -1
  · have k5 := D0.out.cl.z8.1.2.2.2.2.2.1
    have el : (u.l != -1) = false := by simp [hl]
    have EL := Lib.hid (show likeC u l = l by simp [likeC, hl])
    clear hl
    by_cases hm : u.m = 0
    · have k6 := D0.out.cl.z8.1.2.2.2.2.2.2.1
      have em : (u.m != 0) = false := by simp [hm]
      have EM := Lib.hid (show markC u M = M by simp [markC, hm])
      clear hm
      by_cases hk : u.k = 0
      · have k7 := D0.out.cl.z8.1.2.2.2.2.2.2.2
        have ek : (u.k != 0) = false := by simp [hk]
        have EK := Lib.hid (show clearC u M = M by simp [clearC, hk])
        clear hk
        obtain ⟨⟨g0, g1, g2, g3, g4⟩, _⟩ := (AtL.to5 D0.out.box)
        go_wp2_with (refine wpList_stA rfl 32 (.tmp 4) (.tmp 42) rfl (w.heap.size + 2) #[.int .i64 f, .int .i64 b, .slice pa P.length pc, .int .i64 (l), .slice ma (M).length mc] ?x1 ?y1 (one5a _ _ _ _ _ _ _ _ _) infoR5 _ D0.out.ans ?l1 ?g1)
        try case x1 => rfl
        try case y1 => rfl
        try case l1 => rfl
        intro wF aF gF
        have HF := Lib.hid (D0.out.done gF)
        obtain ⟨⟨z0, z1, z2, z3, z4⟩, _⟩ := AtL.to5 aF
        clear aF gF
        clear g0 g1 g2 g3 g4
        clear k5 k6 k7
        go_wp2_with fail
        exact bodyPost_ret (v := .tuple #[.agg #[.int .i64 f, .int .i64 b, .slice pa P.length pc, .int .i64 (l), .slice ma (M).length mc], .bool true]) (by simp [results, Tryz.results64, go_sem, z0, z1, z2, z3, z4]) rfl (by rw [HX.out]; unfold makeC; dsimp only; rw [EL.out, EM.out, EK.out]; exact ⟨_, _, rfl, HF.out⟩)
      · have k7 := D0.out.cl.z8.1.2.2.2.2.2.2.2
        have ek : (u.k != 0) = true := by simp [hk]
        obtain ⟨M3, hM3⟩ : ∃ M3, M3 = mdel M u.k := ⟨_, rfl⟩
        have EK := Lib.hid (show clearC u M = M3 by rw [hM3]; simp [clearC, hk])
        have hkr : 1 ≤ u.k ∧ u.k ≤ 9 := by have := HG.out.clear; omega
        have HK3 : Hid (Marks M3) := Lib.hid (by rw [hM3]; exact (HR.out.marks).mdel)
        have hl3 : M3.length ≤ 9 := HK3.out.len
        have HU3 : Hid (rtClear ((f, b, P, l, M) : Rt) u.k = ((f, b, P, l, M3), true)) := Lib.hid (by rw [hM3]; exact rtClear_yes ((rtOk_iff _).2 ⟨HR.out.ran, HR.out.path, HR.out.some, HR.out.like, HR.out.marks⟩) ((isM_iff _).2 hkr))
        clear hM3 hk hkr
        obtain ⟨⟨g0, g1, g2, g3, g4⟩, _⟩ := (AtL.to5 D0.out.box)
        go_wp2_with fail
        clear g0 g1 g2 g3 g4
        clear k5 k6 k7
        refine (irtclear_is f b pa pc P (l) ma mc (M) HU3.out _ p (D0.out.m (by omega) (by omega)) (HE.out.below D0.out.bel)).mono ?_
        rintro en v3 ⟨pv3, mv3, rfl, ho⟩
        have HO := Lib.hid ho
        obtain ⟨T3, o1, _, o2, _, bb⟩ := ho
        replace o1 : OwnI v3 w2.heap.size pv3 P := o1
        replace o2 : OwnI v3 T3 mv3 M3 := o2
        obtain ⟨pa3, pc3, rfl, _, _⟩ := OwnI.tab o1
        obtain ⟨ma3, mc3, rfl, _, _⟩ := OwnI.tab o2
        have DB := Lib.hid (D0.out.later bb)
        clear o1 o2 bb
        go_wp2_with (refine wpList_stA rfl 32 (.tmp 6) (.tmp 40) rfl (R) #[.int .i64 f, .int .i64 b, .slice pa3 P.length pc3, .int .i64 (l), .slice ma3 (M3).length mc3] ?x2 ?y2 (one5a _ _ _ _ _ _ _ _ _) infoR5 _ DB.out.box ?l2 ?g2)
        try case x2 => rfl
        try case y2 => rfl
        try case l2 => rfl
        intro y3 aa gg
        obtain ⟨S3, hA3⟩ := D0.out.put HO.out aa gg
        have E3 : Hid (Ap w u w.heap.size (w.heap.size + 2) R (f, b, P, l, M3) (.slice pa3 P.length pc3) (.slice ma3 M3.length mc3) S3 y3) := Lib.hid hA3
        clear aa gg hA3 HO DB D0
        obtain ⟨⟨g0, g1, g2, g3, g4⟩, _⟩ := (AtL.to5 E3.out.box)
        go_wp2_with (refine wpList_stA rfl 32 (.tmp 4) (.tmp 42) rfl (w.heap.size + 2) #[.int .i64 f, .int .i64 b, .slice pa3 P.length pc3, .int .i64 (l), .slice ma3 (M3).length mc3] ?x3 ?y3 (one5a _ _ _ _ _ _ _ _ _) infoR5 _ E3.out.ans ?l3 ?g3)
        try case x3 => rfl
        try case y3 => rfl
        try case l3 => rfl
        intro wF aF gF
        have HF := Lib.hid (E3.out.done gF)
        obtain ⟨⟨z0, z1, z2, z3, z4⟩, _⟩ := AtL.to5 aF
        clear aF gF
        clear g0 g1 g2 g3 g4
        go_wp2_with fail
        exact bodyPost_ret (v := .tuple #[.agg #[.int .i64 f, .int .i64 b, .slice pa3 P.length pc3, .int .i64 (l), .slice ma3 (M3).length mc3], .bool true]) (by simp [results, Tryz.results64, go_sem, z0, z1, z2, z3, z4]) rfl (by rw [HX.out]; unfold makeC; dsimp only; rw [EL.out, EM.out, EK.out]; exact ⟨_, _, rfl, HF.out⟩)
    · have k6 := D0.out.cl.z8.1.2.2.2.2.2.2.1
      have em : (u.m != 0) = true := by simp [hm]
      obtain ⟨M2, hM2⟩ : ∃ M2, M2 = mins M u.m := ⟨_, rfl⟩
      have EM := Lib.hid (show markC u M = M2 by rw [hM2]; simp [markC, hm])
      have hmr : 1 ≤ u.m ∧ u.m ≤ 9 := by have := HG.out.mark; omega
      have HK2 : Hid (Marks M2) := Lib.hid (by rw [hM2]; exact HR.out.marks.mins hmr)
      have hl2 : M2.length ≤ 9 := HK2.out.len
      have HU2 : Hid (rtMark ((f, b, P, l, M) : Rt) u.m = ((f, b, P, l, M2), true)) := Lib.hid (by rw [hM2]; exact rtMark_yes ((rtOk_iff _).2 ⟨HR.out.ran, HR.out.path, HR.out.some, HR.out.like, HR.out.marks⟩) ((isM_iff _).2 hmr))
      clear hM2 hm hmr
      obtain ⟨⟨g0, g1, g2, g3, g4⟩, _⟩ := (AtL.to5 D0.out.box)
      go_wp2_with fail
      clear g0 g1 g2 g3 g4
      clear k5 k6
      refine (irtmark_is f b pa pc P (l) ma mc (M) HU2.out _ p (D0.out.m (by omega) (by omega)) (HE.out.below D0.out.bel)).mono ?_
      rintro en v2 ⟨pv2, mv2, rfl, ho⟩
      have HO := Lib.hid ho
      obtain ⟨T2, o1, _, o2, _, bb⟩ := ho
      replace o1 : OwnI v2 w2.heap.size pv2 P := o1
      replace o2 : OwnI v2 T2 mv2 M2 := o2
      obtain ⟨pa2, pc2, rfl, _, _⟩ := OwnI.tab o1
      obtain ⟨ma2, mc2, rfl, _, _⟩ := OwnI.tab o2
      have DB := Lib.hid (D0.out.later bb)
      clear o1 o2 bb
      go_wp2_with (refine wpList_stA rfl 32 (.tmp 6) (.tmp 27) rfl (R) #[.int .i64 f, .int .i64 b, .slice pa2 P.length pc2, .int .i64 (l), .slice ma2 (M2).length mc2] ?x4 ?y4 (one5a _ _ _ _ _ _ _ _ _) infoR5 _ DB.out.box ?l4 ?g4)
      try case x4 => rfl
      try case y4 => rfl
      try case l4 => rfl
      intro y2 aa gg
      obtain ⟨S2, hA2⟩ := D0.out.put HO.out aa gg
      have E2 : Hid (Ap w u w.heap.size (w.heap.size + 2) R (f, b, P, l, M2) (.slice pa2 P.length pc2) (.slice ma2 M2.length mc2) S2 y2) := Lib.hid hA2
      clear aa gg hA2 HO DB D0
      by_cases hk : u.k = 0
      · have k7 := E2.out.cl.z8.1.2.2.2.2.2.2.2
        have ek : (u.k != 0) = false := by simp [hk]
        have EK := Lib.hid (show clearC u M2 = M2 by simp [clearC, hk])
        clear hk
        obtain ⟨⟨g0, g1, g2, g3, g4⟩, _⟩ := (AtL.to5 E2.out.box)
        go_wp2_with (refine wpList_stA rfl 32 (.tmp 4) (.tmp 42) rfl (w.heap.size + 2) #[.int .i64 f, .int .i64 b, .slice pa2 P.length pc2, .int .i64 (l), .slice ma2 (M2).length mc2] ?x5 ?y5 (one5a _ _ _ _ _ _ _ _ _) infoR5 _ E2.out.ans ?l5 ?g5)
        try case x5 => rfl
        try case y5 => rfl
        try case l5 => rfl
        intro wF aF gF
        have HF := Lib.hid (E2.out.done gF)
        obtain ⟨⟨z0, z1, z2, z3, z4⟩, _⟩ := AtL.to5 aF
        clear aF gF
        clear g0 g1 g2 g3 g4
        clear k7
        go_wp2_with fail
        exact bodyPost_ret (v := .tuple #[.agg #[.int .i64 f, .int .i64 b, .slice pa2 P.length pc2, .int .i64 (l), .slice ma2 (M2).length mc2], .bool true]) (by simp [results, Tryz.results64, go_sem, z0, z1, z2, z3, z4]) rfl (by rw [HX.out]; unfold makeC; dsimp only; rw [EL.out, EM.out, EK.out]; exact ⟨_, _, rfl, HF.out⟩)
      · have k7 := E2.out.cl.z8.1.2.2.2.2.2.2.2
        have ek : (u.k != 0) = true := by simp [hk]
        obtain ⟨M3, hM3⟩ : ∃ M3, M3 = mdel M2 u.k := ⟨_, rfl⟩
        have EK := Lib.hid (show clearC u M2 = M3 by rw [hM3]; simp [clearC, hk])
        have hkr : 1 ≤ u.k ∧ u.k ≤ 9 := by have := HG.out.clear; omega
        have HK3 : Hid (Marks M3) := Lib.hid (by rw [hM3]; exact (HK2.out).mdel)
        have hl3 : M3.length ≤ 9 := HK3.out.len
        have HU3 : Hid (rtClear ((f, b, P, l, M2) : Rt) u.k = ((f, b, P, l, M3), true)) := Lib.hid (by rw [hM3]; exact rtClear_yes ((rtOk_iff _).2 ⟨HR.out.ran, HR.out.path, HR.out.some, HR.out.like, HK2.out⟩) ((isM_iff _).2 hkr))
        clear hM3 hk hkr
        obtain ⟨⟨g0, g1, g2, g3, g4⟩, _⟩ := (AtL.to5 E2.out.box)
        go_wp2_with fail
        clear g0 g1 g2 g3 g4
        clear k7
        refine (irtclear_is f b pa2 pc2 P (l) ma2 mc2 (M2) HU3.out _ p (E2.out.m (by omega) (by omega)) (HE.out.below E2.out.bel)).mono ?_
        rintro en v3 ⟨pv3, mv3, rfl, ho⟩
        have HO := Lib.hid ho
        obtain ⟨T3, o1, _, o2, _, bb⟩ := ho
        replace o1 : OwnI v3 y2.heap.size pv3 P := o1
        replace o2 : OwnI v3 T3 mv3 M3 := o2
        obtain ⟨pa3, pc3, rfl, _, _⟩ := OwnI.tab o1
        obtain ⟨ma3, mc3, rfl, _, _⟩ := OwnI.tab o2
        have DB := Lib.hid (E2.out.later bb)
        clear o1 o2 bb
        go_wp2_with (refine wpList_stA rfl 32 (.tmp 6) (.tmp 40) rfl (R) #[.int .i64 f, .int .i64 b, .slice pa3 P.length pc3, .int .i64 (l), .slice ma3 (M3).length mc3] ?x6 ?y6 (one5a _ _ _ _ _ _ _ _ _) infoR5 _ DB.out.box ?l6 ?g6)
        try case x6 => rfl
        try case y6 => rfl
        try case l6 => rfl
        intro y3 aa gg
        obtain ⟨S3, hA3⟩ := E2.out.put HO.out aa gg
        have E3 : Hid (Ap w u w.heap.size (w.heap.size + 2) R (f, b, P, l, M3) (.slice pa3 P.length pc3) (.slice ma3 M3.length mc3) S3 y3) := Lib.hid hA3
        clear aa gg hA3 HO DB E2
        obtain ⟨⟨g0, g1, g2, g3, g4⟩, _⟩ := (AtL.to5 E3.out.box)
        go_wp2_with (refine wpList_stA rfl 32 (.tmp 4) (.tmp 42) rfl (w.heap.size + 2) #[.int .i64 f, .int .i64 b, .slice pa3 P.length pc3, .int .i64 (l), .slice ma3 (M3).length mc3] ?x7 ?y7 (one5a _ _ _ _ _ _ _ _ _) infoR5 _ E3.out.ans ?l7 ?g7)
        try case x7 => rfl
        try case y7 => rfl
        try case l7 => rfl
        intro wF aF gF
        have HF := Lib.hid (E3.out.done gF)
        obtain ⟨⟨z0, z1, z2, z3, z4⟩, _⟩ := AtL.to5 aF
        clear aF gF
        clear g0 g1 g2 g3 g4
        go_wp2_with fail
        exact bodyPost_ret (v := .tuple #[.agg #[.int .i64 f, .int .i64 b, .slice pa3 P.length pc3, .int .i64 (l), .slice ma3 (M3).length mc3], .bool true]) (by simp [results, Tryz.results64, go_sem, z0, z1, z2, z3, z4]) rfl (by rw [HX.out]; unfold makeC; dsimp only; rw [EL.out, EM.out, EK.out]; exact ⟨_, _, rfl, HF.out⟩)
  · have k5 := D0.out.cl.z8.1.2.2.2.2.2.1
    have el : (u.l != -1) = true := by simp [hl]
    have EL := Lib.hid (show likeC u l = u.l by simp [likeC, hl])
    have hlr : 0 ≤ u.l ∧ u.l ≤ 9 := by have := HG.out.like; omega
    clear hl
    go_wp2_with (refine wpList_st1 rfl 3 (.tmp 18) (.tmp 17) rfl R 3 (.int .i64 u.l) ?x8 ?y8 rfl rfl infoI1 _ D0.out.box (by show 3 < 5; omega) ?g8)
    try case x8 => rfl
    try case y8 => rfl
    intro w3 aa gg
    have D1 : Hid (Ap w u w.heap.size (w.heap.size + 2) R (f, b, P, u.l, M) (.slice pa P.length pc) (.slice ma M.length mc) S0 w3) := Lib.hid (D0.out.like aa gg)
    clear aa gg D0 k5
    by_cases hm : u.m = 0
    · have k6 := D1.out.cl.z8.1.2.2.2.2.2.2.1
      have em : (u.m != 0) = false := by simp [hm]
      have EM := Lib.hid (show markC u M = M by simp [markC, hm])
      clear hm
      by_cases hk : u.k = 0
      · have k7 := D1.out.cl.z8.1.2.2.2.2.2.2.2
        have ek : (u.k != 0) = false := by simp [hk]
        have EK := Lib.hid (show clearC u M = M by simp [clearC, hk])
        clear hk
        obtain ⟨⟨g0, g1, g2, g3, g4⟩, _⟩ := (AtL.to5 D1.out.box)
        go_wp2_with (refine wpList_stA rfl 32 (.tmp 4) (.tmp 42) rfl (w.heap.size + 2) #[.int .i64 f, .int .i64 b, .slice pa P.length pc, .int .i64 (u.l), .slice ma (M).length mc] ?x9 ?y9 (one5a _ _ _ _ _ _ _ _ _) infoR5 _ D1.out.ans ?l9 ?g9)
        try case x9 => rfl
        try case y9 => rfl
        try case l9 => rfl
        intro wF aF gF
        have HF := Lib.hid (D1.out.done gF)
        obtain ⟨⟨z0, z1, z2, z3, z4⟩, _⟩ := AtL.to5 aF
        clear aF gF
        clear g0 g1 g2 g3 g4
        clear k6 k7
        go_wp2_with fail
        exact bodyPost_ret (v := .tuple #[.agg #[.int .i64 f, .int .i64 b, .slice pa P.length pc, .int .i64 (u.l), .slice ma (M).length mc], .bool true]) (by simp [results, Tryz.results64, go_sem, z0, z1, z2, z3, z4]) rfl (by rw [HX.out]; unfold makeC; dsimp only; rw [EL.out, EM.out, EK.out]; exact ⟨_, _, rfl, HF.out⟩)
      · have k7 := D1.out.cl.z8.1.2.2.2.2.2.2.2
        have ek : (u.k != 0) = true := by simp [hk]
        obtain ⟨M3, hM3⟩ : ∃ M3, M3 = mdel M u.k := ⟨_, rfl⟩
        have EK := Lib.hid (show clearC u M = M3 by rw [hM3]; simp [clearC, hk])
        have hkr : 1 ≤ u.k ∧ u.k ≤ 9 := by have := HG.out.clear; omega
        have HK3 : Hid (Marks M3) := Lib.hid (by rw [hM3]; exact (HR.out.marks).mdel)
        have hl3 : M3.length ≤ 9 := HK3.out.len
        have HU3 : Hid (rtClear ((f, b, P, u.l, M) : Rt) u.k = ((f, b, P, u.l, M3), true)) := Lib.hid (by rw [hM3]; exact rtClear_yes ((rtOk_iff _).2 ⟨HR.out.ran, HR.out.path, HR.out.some, hlr, HR.out.marks⟩) ((isM_iff _).2 hkr))
        clear hM3 hk hkr
        obtain ⟨⟨g0, g1, g2, g3, g4⟩, _⟩ := (AtL.to5 D1.out.box)
        go_wp2_with fail
        clear g0 g1 g2 g3 g4
        clear k6 k7
        refine (irtclear_is f b pa pc P (u.l) ma mc (M) HU3.out _ p (D1.out.m (by omega) (by omega)) (HE.out.below D1.out.bel)).mono ?_
        rintro en v3 ⟨pv3, mv3, rfl, ho⟩
        have HO := Lib.hid ho
        obtain ⟨T3, o1, _, o2, _, bb⟩ := ho
        replace o1 : OwnI v3 w3.heap.size pv3 P := o1
        replace o2 : OwnI v3 T3 mv3 M3 := o2
        obtain ⟨pa3, pc3, rfl, _, _⟩ := OwnI.tab o1
        obtain ⟨ma3, mc3, rfl, _, _⟩ := OwnI.tab o2
        have DB := Lib.hid (D1.out.later bb)
        clear o1 o2 bb
        go_wp2_with (refine wpList_stA rfl 32 (.tmp 6) (.tmp 40) rfl (R) #[.int .i64 f, .int .i64 b, .slice pa3 P.length pc3, .int .i64 (u.l), .slice ma3 (M3).length mc3] ?x10 ?y10 (one5a _ _ _ _ _ _ _ _ _) infoR5 _ DB.out.box ?l10 ?g10)
        try case x10 => rfl
        try case y10 => rfl
        try case l10 => rfl
        intro y3 aa gg
        obtain ⟨S3, hA3⟩ := D1.out.put HO.out aa gg
        have E3 : Hid (Ap w u w.heap.size (w.heap.size + 2) R (f, b, P, u.l, M3) (.slice pa3 P.length pc3) (.slice ma3 M3.length mc3) S3 y3) := Lib.hid hA3
        clear aa gg hA3 HO DB D1
        obtain ⟨⟨g0, g1, g2, g3, g4⟩, _⟩ := (AtL.to5 E3.out.box)
        go_wp2_with (refine wpList_stA rfl 32 (.tmp 4) (.tmp 42) rfl (w.heap.size + 2) #[.int .i64 f, .int .i64 b, .slice pa3 P.length pc3, .int .i64 (u.l), .slice ma3 (M3).length mc3] ?x11 ?y11 (one5a _ _ _ _ _ _ _ _ _) infoR5 _ E3.out.ans ?l11 ?g11)
        try case x11 => rfl
        try case y11 => rfl
        try case l11 => rfl
        intro wF aF gF
        have HF := Lib.hid (E3.out.done gF)
        obtain ⟨⟨z0, z1, z2, z3, z4⟩, _⟩ := AtL.to5 aF
        clear aF gF
        clear g0 g1 g2 g3 g4
        go_wp2_with fail
        exact bodyPost_ret (v := .tuple #[.agg #[.int .i64 f, .int .i64 b, .slice pa3 P.length pc3, .int .i64 (u.l), .slice ma3 (M3).length mc3], .bool true]) (by simp [results, Tryz.results64, go_sem, z0, z1, z2, z3, z4]) rfl (by rw [HX.out]; unfold makeC; dsimp only; rw [EL.out, EM.out, EK.out]; exact ⟨_, _, rfl, HF.out⟩)
    · have k6 := D1.out.cl.z8.1.2.2.2.2.2.2.1
      have em : (u.m != 0) = true := by simp [hm]
      obtain ⟨M2, hM2⟩ : ∃ M2, M2 = mins M u.m := ⟨_, rfl⟩
      have EM := Lib.hid (show markC u M = M2 by rw [hM2]; simp [markC, hm])
      have hmr : 1 ≤ u.m ∧ u.m ≤ 9 := by have := HG.out.mark; omega
      have HK2 : Hid (Marks M2) := Lib.hid (by rw [hM2]; exact HR.out.marks.mins hmr)
      have hl2 : M2.length ≤ 9 := HK2.out.len
      have HU2 : Hid (rtMark ((f, b, P, u.l, M) : Rt) u.m = ((f, b, P, u.l, M2), true)) := Lib.hid (by rw [hM2]; exact rtMark_yes ((rtOk_iff _).2 ⟨HR.out.ran, HR.out.path, HR.out.some, hlr, HR.out.marks⟩) ((isM_iff _).2 hmr))
      clear hM2 hm hmr
      obtain ⟨⟨g0, g1, g2, g3, g4⟩, _⟩ := (AtL.to5 D1.out.box)
      go_wp2_with fail
      clear g0 g1 g2 g3 g4
      clear k6
      refine (irtmark_is f b pa pc P (u.l) ma mc (M) HU2.out _ p (D1.out.m (by omega) (by omega)) (HE.out.below D1.out.bel)).mono ?_
      rintro en v2 ⟨pv2, mv2, rfl, ho⟩
      have HO := Lib.hid ho
      obtain ⟨T2, o1, _, o2, _, bb⟩ := ho
      replace o1 : OwnI v2 w3.heap.size pv2 P := o1
      replace o2 : OwnI v2 T2 mv2 M2 := o2
      obtain ⟨pa2, pc2, rfl, _, _⟩ := OwnI.tab o1
      obtain ⟨ma2, mc2, rfl, _, _⟩ := OwnI.tab o2
      have DB := Lib.hid (D1.out.later bb)
      clear o1 o2 bb
      go_wp2_with (refine wpList_stA rfl 32 (.tmp 6) (.tmp 27) rfl (R) #[.int .i64 f, .int .i64 b, .slice pa2 P.length pc2, .int .i64 (u.l), .slice ma2 (M2).length mc2] ?x12 ?y12 (one5a _ _ _ _ _ _ _ _ _) infoR5 _ DB.out.box ?l12 ?g12)
      try case x12 => rfl
      try case y12 => rfl
      try case l12 => rfl
      intro y2 aa gg
      obtain ⟨S2, hA2⟩ := D1.out.put HO.out aa gg
      have E2 : Hid (Ap w u w.heap.size (w.heap.size + 2) R (f, b, P, u.l, M2) (.slice pa2 P.length pc2) (.slice ma2 M2.length mc2) S2 y2) := Lib.hid hA2
      clear aa gg hA2 HO DB D1
      by_cases hk : u.k = 0
      · have k7 := E2.out.cl.z8.1.2.2.2.2.2.2.2
        have ek : (u.k != 0) = false := by simp [hk]
        have EK := Lib.hid (show clearC u M2 = M2 by simp [clearC, hk])
        clear hk
        obtain ⟨⟨g0, g1, g2, g3, g4⟩, _⟩ := (AtL.to5 E2.out.box)
        go_wp2_with (refine wpList_stA rfl 32 (.tmp 4) (.tmp 42) rfl (w.heap.size + 2) #[.int .i64 f, .int .i64 b, .slice pa2 P.length pc2, .int .i64 (u.l), .slice ma2 (M2).length mc2] ?x13 ?y13 (one5a _ _ _ _ _ _ _ _ _) infoR5 _ E2.out.ans ?l13 ?g13)
        try case x13 => rfl
        try case y13 => rfl
        try case l13 => rfl
        intro wF aF gF
        have HF := Lib.hid (E2.out.done gF)
        obtain ⟨⟨z0, z1, z2, z3, z4⟩, _⟩ := AtL.to5 aF
        clear aF gF
        clear g0 g1 g2 g3 g4
        clear k7
        go_wp2_with fail
        exact bodyPost_ret (v := .tuple #[.agg #[.int .i64 f, .int .i64 b, .slice pa2 P.length pc2, .int .i64 (u.l), .slice ma2 (M2).length mc2], .bool true]) (by simp [results, Tryz.results64, go_sem, z0, z1, z2, z3, z4]) rfl (by rw [HX.out]; unfold makeC; dsimp only; rw [EL.out, EM.out, EK.out]; exact ⟨_, _, rfl, HF.out⟩)
      · have k7 := E2.out.cl.z8.1.2.2.2.2.2.2.2
        have ek : (u.k != 0) = true := by simp [hk]
        obtain ⟨M3, hM3⟩ : ∃ M3, M3 = mdel M2 u.k := ⟨_, rfl⟩
        have EK := Lib.hid (show clearC u M2 = M3 by rw [hM3]; simp [clearC, hk])
        have hkr : 1 ≤ u.k ∧ u.k ≤ 9 := by have := HG.out.clear; omega
        have HK3 : Hid (Marks M3) := Lib.hid (by rw [hM3]; exact (HK2.out).mdel)
        have hl3 : M3.length ≤ 9 := HK3.out.len
        have HU3 : Hid (rtClear ((f, b, P, u.l, M2) : Rt) u.k = ((f, b, P, u.l, M3), true)) := Lib.hid (by rw [hM3]; exact rtClear_yes ((rtOk_iff _).2 ⟨HR.out.ran, HR.out.path, HR.out.some, hlr, HK2.out⟩) ((isM_iff _).2 hkr))
        clear hM3 hk hkr
        obtain ⟨⟨g0, g1, g2, g3, g4⟩, _⟩ := (AtL.to5 E2.out.box)
        go_wp2_with fail
        clear g0 g1 g2 g3 g4
        clear k7
        refine (irtclear_is f b pa2 pc2 P (u.l) ma2 mc2 (M2) HU3.out _ p (E2.out.m (by omega) (by omega)) (HE.out.below E2.out.bel)).mono ?_
        rintro en v3 ⟨pv3, mv3, rfl, ho⟩
        have HO := Lib.hid ho
        obtain ⟨T3, o1, _, o2, _, bb⟩ := ho
        replace o1 : OwnI v3 y2.heap.size pv3 P := o1
        replace o2 : OwnI v3 T3 mv3 M3 := o2
        obtain ⟨pa3, pc3, rfl, _, _⟩ := OwnI.tab o1
        obtain ⟨ma3, mc3, rfl, _, _⟩ := OwnI.tab o2
        have DB := Lib.hid (E2.out.later bb)
        clear o1 o2 bb
        go_wp2_with (refine wpList_stA rfl 32 (.tmp 6) (.tmp 40) rfl (R) #[.int .i64 f, .int .i64 b, .slice pa3 P.length pc3, .int .i64 (u.l), .slice ma3 (M3).length mc3] ?x14 ?y14 (one5a _ _ _ _ _ _ _ _ _) infoR5 _ DB.out.box ?l14 ?g14)
        try case x14 => rfl
        try case y14 => rfl
        try case l14 => rfl
        intro y3 aa gg
        obtain ⟨S3, hA3⟩ := E2.out.put HO.out aa gg
        have E3 : Hid (Ap w u w.heap.size (w.heap.size + 2) R (f, b, P, u.l, M3) (.slice pa3 P.length pc3) (.slice ma3 M3.length mc3) S3 y3) := Lib.hid hA3
        clear aa gg hA3 HO DB E2
        obtain ⟨⟨g0, g1, g2, g3, g4⟩, _⟩ := (AtL.to5 E3.out.box)
        go_wp2_with (refine wpList_stA rfl 32 (.tmp 4) (.tmp 42) rfl (w.heap.size + 2) #[.int .i64 f, .int .i64 b, .slice pa3 P.length pc3, .int .i64 (u.l), .slice ma3 (M3).length mc3] ?x15 ?y15 (one5a _ _ _ _ _ _ _ _ _) infoR5 _ E3.out.ans ?l15 ?g15)
        try case x15 => rfl
        try case y15 => rfl
        try case l15 => rfl
        intro wF aF gF
        have HF := Lib.hid (E3.out.done gF)
        obtain ⟨⟨z0, z1, z2, z3, z4⟩, _⟩ := AtL.to5 aF
        clear aF gF
        clear g0 g1 g2 g3 g4
        go_wp2_with fail
        exact bodyPost_ret (v := .tuple #[.agg #[.int .i64 f, .int .i64 b, .slice pa3 P.length pc3, .int .i64 (u.l), .slice ma3 (M3).length mc3], .bool true]) (by simp [results, Tryz.results64, go_sem, z0, z1, z2, z3, z4]) rfl (by rw [HX.out]; unfold makeC; dsimp only; rw [EL.out, EM.out, EK.out]; exact ⟨_, _, rfl, HF.out⟩)
end Go.Proofs.YtioppkalehnoaaaGreatDoor
