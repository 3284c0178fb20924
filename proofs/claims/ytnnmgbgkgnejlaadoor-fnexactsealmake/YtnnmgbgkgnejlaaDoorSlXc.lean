/-
  The exact laws of SealLacks and SealOk: the walks.
-/
import Derived.Test.YtnnmgbgkgnejlaaDoorSlXb
namespace Go.Proofs.YtnnmgbgkgnejlaaDoor
open Go.RowKit
set_option linter.unusedSimpArgs false
set_option linter.unusedVariables false

theorem firstLack_congr {L M : List SV} (h : sealsP L = sealsP M) : ∀ Q, firstLack L Q = firstLack M Q
  | [] => rfl
  | s :: Q => by rw [firstLack, firstLack, hasS_congr h s, firstLack_congr h Q]
theorem lackM_congr {L N : List SV} (h : sealsP L = sealsP N) (H : List HV) (f b : Int) (P : List Int) (l : Int) (M : List Int) (t : Int) : lackM H L f b P l M t = lackM H N f b P l M t := by
  unfold lackM; rw [firstLack_congr h]
theorem trt_at (f b : Int) (a : Option Addr) (c : Nat) (P : List Int) (l : Int) (d : Option Addr) (e : Nat) (M : List Int) (w : World) (hm : RtM w a c P d e M) (hl1 : P.length ≤ 1048576) (hl2 : M.length ≤ 1048576) :
    Calls Tryd.prog 37 #[.agg #[.int .i64 f, .int .i64 b, .slice a P.length c, .int .i64 l, .slice d M.length e]] w fun en w' => ∃ (a' : Option Addr) (c' : Nat) (d' : Option Addr) (e' : Nat), en = .returned (.agg #[.int .i64 f, .int .i64 b, .slice a' P.length c', .int .i64 l, .slice d' M.length e']) ∧ RtM w' a' c' P d' e' M ∧ Below w.heap.size w w' := by
  refine (tort_is f b a c P l d e M _ hm hl1 hl2).mono ?_
  rintro en w2 ⟨pv, mv, rfl, S, o1, bP, o2, hS, b2⟩
  replace o1 : OwnI w2 w.heap.size pv P := o1
  replace o2 : OwnI w2 S mv M := o2
  obtain ⟨a2, c2, rfl, _, _⟩ := OwnI.tab o1
  obtain ⟨d2, e2, rfl, _, _⟩ := OwnI.tab o2
  exact ⟨a2, c2, d2, e2, rfl, rtm_own o1 o2 (by omega) (by omega), b2⟩
set_option maxRecDepth 100000 in
set_option maxHeartbeats 8000000 in
theorem exactSealLacks_walk (a0 : Option Addr) (n0 cap0 : Nat) (L0 : List HV) (a1 : Option Addr) (n1 cap1 : Nat) (L1 : List SV) (f b : Int) (a : Option Addr) (n c : Nat) (P : List Int) (l : Int) (d : Option Addr) (m e : Nat) (M : List Int) (tt : Int) (w : World) (hn0 : n0 = L0.length) (hA0 : HvA w a0 L0) (hl0 : n0 ≤ 9223372036854775807) (hn1 : n1 = L1.length) (hA1 : SlB w a1 L1) (hl1 : n1 ≤ 9223372036854775807)
    (hP : IntA w a P) (hM : IntA w d M) (hn : n = P.length) (hm : m = M.length) (hcP : n ≤ c) (hcM : m ≤ e) (hnl : n ≤ 9223372036854775807) (hml : m ≤ 9223372036854775807) (_ : (Lit.int .i64 tt).wf = true) (p : Addr) (hE : EV w p) (hT : PowS w) :
    Calls Tryd.prog 14 #[.slice a0 n0 cap0, .slice a1 n1 cap1, .agg #[.int .i64 f, .int .i64 b, .slice a n c, .int .i64 l, .slice d m e], .int .i64 tt] w fun e w' => e = .returned (.bool true) ∧ Below w.heap.size w w' := by
  subst hn0 hn1 hn hm
  obtain ⟨W, hW⟩ : ∃ W, w.alloc (.cells #[.int .i64 f, .int .i64 b, .slice a P.length c, .int .i64 l, .slice d M.length e] 58) = W := ⟨_, rfl⟩
  have hb : Below w.heap.size w W := by rw [← hW]; exact (Below.refl _ _).alloc (Nat.le_refl _) _
  have HB0 := Lib.hid hb
  have HA := Lib.hid (hA0.below hb)
  have HS := Lib.hid (hA1.below hb)
  have HPM := Lib.hid (And.intro (hP.below hb) (hM.below hb))
  have HT := Lib.hid (hT.next hb)
  have HE := Lib.hid (hE.below hb)
  have HX := Lib.hid (show AtY W w.heap.size [.int .i64 f, .int .i64 b, .slice a P.length c, .int .i64 l, .slice d M.length e] by rw [← hW]; exact AtY.new5 w _ _ _ _ _ _)
  clear hA0 hA1 hb hP hM hT hE
  obtain ⟨q0, q1, q2, q3, q4⟩ := HX.out.five
  by_cases hlc : L0.length ≤ 1048576
  case neg =>
    go_enter Tryd.func14, Tryd.ntmps14
    have hz : szN 1048576 L0.length = -1 := by rw [szN, if_pos (by omega)]
    go_wp2_with fail
    refine (szhv_is hz (by omega) (by omega) (by omega) a0 cap0 _).mono ?_
    rintro en w0 ⟨rfl, rfl⟩
    go_wp2_with fail
    go_ret
    exact ⟨rfl, HB0.out⟩
  go_enter Tryd.func14, Tryd.ntmps14
  have hz : szN 1048576 L0.length = 1048576 - (L0.length : Int) := by rw [szN, if_neg (by omega)]
  have hz0 : ¬ (1048576 : Int) - (L0.length : Int) < 0 := by omega
  obtain ⟨Z1, hZ1⟩ : ∃ Z1, (1048576 : Int) - (L0.length : Int) = Z1 := ⟨_, rfl⟩
  rw [hZ1] at hz hz0
  have hZ1b : Z1 ≤ 1048576 := by omega
  clear hZ1
  go_wp2_with fail
  refine (szhv_is hz (by omega) (by omega) (by omega) a0 cap0 _).mono ?_
  rintro en w0 ⟨rfl, rfl⟩
  go_wp2_with fail
  refine (szsls_any Z1 (by omega) (by omega) L1 a1 cap1 _ _ rfl HS.out hl1).mono ?_
  rintro en w1 ⟨Z2, rfl, hz2, b1⟩
  have H1 := Lib.hid b1
  have X1 := Lib.hid (HX.out.below b1)
  clear b1 q0 q1 q2 q3 q4
  by_cases hneg : Z2 < 0
  · go_wp2_with fail
    go_ret
    exact ⟨rfl, next HB0.out H1.out⟩
  obtain ⟨hZ2, hls, hss⟩ := hz2 (by omega)
  have HSS := Lib.hid hss
  clear hz2 hss
  obtain ⟨q0, q1, q2, q3, q4⟩ := X1.out.five
  by_cases hfit : (P.length : Int) + M.length ≤ Z2
  case neg =>
    have hz3 := szR_neg (left := Z2) (n := P.length) (m := M.length) (by omega)
    go_wp2_with fail
    refine (szrt_is f b l a d _ c _ e hz3 (by omega) (by omega) hnl hml _).mono ?_
    rintro en w2 ⟨rfl, b2⟩
    have H2 := Lib.hid (next H1.out b2)
    clear b2
    go_wp2_with fail
    go_ret
    exact ⟨rfl, next HB0.out H2.out⟩
  have hz3 := szR_pos hfit
  obtain ⟨Z3, hZ3⟩ : ∃ Z3, Z2 - (P.length : Int) - (M.length : Int) = Z3 := ⟨_, rfl⟩
  rw [hZ3] at hz3
  have hn3 : ¬ Z3 < 0 := by omega
  have hlP : P.length ≤ 1048576 := by omega
  have hlM : M.length ≤ 1048576 := by omega
  clear hZ3 hfit
  go_wp2_with fail
  refine (szrt_is f b l a d _ c _ e hz3 (by omega) (by omega) hnl hml _).mono ?_
  rintro en w2 ⟨rfl, b2⟩
  have H3 := Lib.hid (next H1.out b2)
  have X3 := Lib.hid (X1.out.below b2)
  have HR := Lib.hid (show RtM W a c P d e M from ⟨HPM.out, hcP, hcM, by omega, by omega⟩)
  clear b2 q0 q1 q2 q3 q4
  obtain ⟨z, hzz⟩ : ∃ z, lackM L0 L1 f b P l M tt = z := ⟨_, rfl⟩
  have HZ := Lib.hid hzz
  have hne : (z != z) = false := by simp
  clear hzz hz hz3
  go_upto_region 11 with fail
  go_cut [10] from 30 (fun v wx => v = .int .i64 z ∧ Hid (Below W.heap.size W wx))
  case first =>
    refine wp_region_held_drew (S := fun Wx => (Wx.cell? ⟨w.heap.size, 0, none⟩ = some (.int .i64 f) ∧ Wx.cell? ⟨w.heap.size, 1, none⟩ = some (.int .i64 b) ∧ Wx.cell? ⟨w.heap.size, 2, none⟩ = some (.slice a P.length c) ∧ Wx.cell? ⟨w.heap.size, 3, none⟩ = some (.int .i64 l) ∧ Wx.cell? ⟨w.heap.size, 4, none⟩ = some (.slice d M.length e)) ∧ Hid (Below W.heap.size W Wx)) (by kernel_rfl) ?_ (fun hHeld => ?_)
    · exact ⟨X3.out.five, Lib.hid H3.out.drew⟩
    refine takeH (i := 0) (v := ?_) rfl rfl (by kernel_rfl) (by kernel_rfl) (by kernel_rfl) (fun _ _ _ h => h) (by rfl) ?_ (by assumption) ?_
    rotate_left 1
    · intro w hSw
      (try dsimp only at hSw)
      go_simp
      try with_reducible rfl
    try simp only [List.setIfInBounds_toArray, List.set_cons_zero, List.set_cons_succ]
    refine takeH (i := 2) (v := ?_) rfl rfl (by kernel_rfl) (by kernel_rfl) (by kernel_rfl) (fun _ _ _ h => h) (by rfl) ?_ (by assumption) ?_
    rotate_left 1
    · intro w hSw
      (try dsimp only at hSw)
      go_simp
      try with_reducible rfl
    try simp only [List.setIfInBounds_toArray, List.set_cons_zero, List.set_cons_succ]
    refine takeH (i := 4) (v := ?_) rfl rfl (by kernel_rfl) (by kernel_rfl) (by kernel_rfl) (fun _ _ _ h => h) (by rfl) ?_ (by assumption) ?_
    rotate_left 1
    · intro w hSw
      (try dsimp only at hSw)
      go_simp
      try with_reducible rfl
    try simp only [List.setIfInBounds_toArray, List.set_cons_zero, List.set_cons_succ]
    refine takeH (i := 6) (v := ?_) rfl rfl (by kernel_rfl) (by kernel_rfl) (by kernel_rfl) (fun _ _ _ h => h) (by rfl) ?_ (by assumption) ?_
    rotate_left 1
    · intro w hSw
      (try dsimp only at hSw)
      go_simp
      try with_reducible rfl
    try simp only [List.setIfInBounds_toArray, List.set_cons_zero, List.set_cons_succ]
    refine wpAnyH_ready (rs := [1]) (by kernel_rfl) (by simp) ?_
    refine AllReadyH.cons rfl (fun K hK => ?_) (AllReadyH.nil)
    go_simp
    refine (thvs_own L0 a0 cap0 _ _ rfl (HA.out.below hHeld.2.out) hlc).mono ?_
    rintro en wc ⟨rfl, oH, bc⟩
    have TH0 := Lib.hid (OwnHv.hva oH)
    clear oH
    go_wp2_with fail
    refine hK.out _ _ ?_ (fun hNew => ?_)
    · exact ⟨⟨cell_later bc hHeld.1.1, cell_later bc hHeld.1.2.1, cell_later bc hHeld.1.2.2.1, cell_later bc hHeld.1.2.2.2.1, cell_later bc hHeld.1.2.2.2.2⟩, Lib.hid (next hHeld.2.out bc)⟩
    clear hK K hHeld
    have hHeld := hNew
    clear hNew
    try simp only [Act.put, List.setIfInBounds_toArray, List.set_cons_zero, List.set_cons_succ]
    refine wpAnyH_ready (rs := [3]) (by kernel_rfl) (by simp) ?_
    refine AllReadyH.cons rfl (fun K hK => ?_) (AllReadyH.nil)
    go_simp
    refine (tsls_own L1 a1 cap1 _ _ rfl (HS.out.below hHeld.2.out) hls HSS.out).mono ?_
    rintro en wc ⟨LB, rfl, hlB, _, hq, hA, bc⟩
    have TH1 := Lib.hid (HvA.below TH0.out bc)
    have TS1 := Lib.hid hA
    have TQ := Lib.hid (And.intro hq hlB)
    clear hA hq hlB
    go_wp2_with fail
    refine hK.out _ _ ?_ (fun hNew => ?_)
    · exact ⟨⟨cell_later bc hHeld.1.1, cell_later bc hHeld.1.2.1, cell_later bc hHeld.1.2.2.1, cell_later bc hHeld.1.2.2.2.1, cell_later bc hHeld.1.2.2.2.2⟩, Lib.hid (next hHeld.2.out bc)⟩
    clear hK K hHeld
    have hHeld := hNew
    clear hNew
    try simp only [Act.put, List.setIfInBounds_toArray, List.set_cons_zero, List.set_cons_succ]
    refine wpAnyH_ready (rs := [5]) (by kernel_rfl) (by simp) ?_
    refine AllReadyH.cons rfl (fun K hK => ?_) (AllReadyH.nil)
    go_simp
    refine (trt_at f b a c P l d e M _ (HR.out.below hHeld.2.out) hlP hlM).mono ?_
    rintro en wc ⟨ra, rc, rd, re, rfl, hR, bc⟩
    have TH2 := Lib.hid (HvA.below TH1.out bc)
    have TS2 := Lib.hid (SlA.below TS1.out bc)
    have TR2 := Lib.hid hR
    clear hR
    go_wp2_with fail
    refine hK.out _ _ ?_ (fun hNew => ?_)
    · exact ⟨⟨cell_later bc hHeld.1.1, cell_later bc hHeld.1.2.1, cell_later bc hHeld.1.2.2.1, cell_later bc hHeld.1.2.2.2.1, cell_later bc hHeld.1.2.2.2.2⟩, Lib.hid (next hHeld.2.out bc)⟩
    clear hK K hHeld
    have hHeld := hNew
    clear hNew
    try simp only [Act.put, List.setIfInBounds_toArray, List.set_cons_zero, List.set_cons_succ]
    refine wpAnyH_ready (rs := [7]) (by kernel_rfl) (by simp) ?_
    refine AllReadyH.cons rfl (fun K hK => ?_) (AllReadyH.nil)
    go_simp
    refine (slacks_is L0 LB _ _ _ _ f b _ _ P l _ _ M tt (z := z) (by rw [lackM_congr TQ.out.1]; exact HZ.out) _ TH2.out (by omega) TS2.out (by have := TQ.out.2; omega) TR2.out).mono ?_
    rintro en wc ⟨rfl, bc⟩
    go_wp2_with fail
    refine hK.out _ _ ?_ (fun hNew => ?_)
    · exact ⟨⟨cell_later bc hHeld.1.1, cell_later bc hHeld.1.2.1, cell_later bc hHeld.1.2.2.1, cell_later bc hHeld.1.2.2.2.1, cell_later bc hHeld.1.2.2.2.2⟩, Lib.hid (next hHeld.2.out bc)⟩
    clear hK K hHeld
    have hHeld := hNew
    clear hNew
    try simp only [Act.put, List.setIfInBounds_toArray, List.set_cons_zero, List.set_cons_succ]
    refine takeH (i := 8) (v := ?_) rfl rfl (by kernel_rfl) (by kernel_rfl) (by kernel_rfl) (fun _ _ _ h => h) (by rfl) ?_ (by assumption) ?_
    rotate_left 1
    · intro w hSw
      (try dsimp only at hSw)
      go_simp
      try with_reducible rfl
    try simp only [List.setIfInBounds_toArray, List.set_cons_zero, List.set_cons_succ]
    refine wpAnyH_done (by kernel_rfl) ?_ _
    have HF := Lib.hid hHeld.2.out
    clear hHeld
    go_wp2_with fail
    go_meet
    exact ⟨rfl, HF⟩
  case rest =>
    obtain ⟨rfl, HC⟩ := hcut
    obtain ⟨w3, hw3⟩ : ∃ W, W = wc := ⟨_, rfl⟩
    subst hw3
    go_wp2_with fail
    refine (thvs_own L0 a0 cap0 _ _ rfl (HA.out.below HC.out) hlc).mono ?_
    rintro en w4 ⟨rfl, oH, b4⟩
    have H4 := Lib.hid (next HC.out b4)
    have V4 := Lib.hid (OwnHv.hva oH)
    clear oH b4
    go_wp2_with fail
    refine (tsls_own L1 a1 cap1 _ _ rfl (HS.out.below H4.out) hls HSS.out).mono ?_
    rintro en w5 ⟨LB, rfl, hlB, _, hq, hA, b5⟩
    have H5 := Lib.hid (next H4.out b5)
    have V5 := Lib.hid (V4.out.below b5)
    have T5 := Lib.hid hA
    have TQ := Lib.hid (And.intro hq hlB)
    have WB := Lib.hid (spw_of hq (slb_w HS.out))
    have X5 := Lib.hid (HX.out.below H5.out)
    clear hA hq hlB b5
    obtain ⟨q0, q1, q2, q3, q4⟩ := X5.out.five
    go_wp2_with fail
    refine (trt_at f b a c P l d e M _ (HR.out.below H5.out) hlP hlM).mono ?_
    rintro en w6 ⟨ra, rc, rd, re, rfl, hR, b6⟩
    have H6 := Lib.hid (next H5.out b6)
    have V6 := Lib.hid (V5.out.below b6)
    have T6 := Lib.hid (SlA.below T5.out b6)
    have R6 := Lib.hid hR
    clear hR b6 q0 q1 q2 q3 q4
    obtain ⟨w7, hw7⟩ : ∃ W, w6.alloc (.cells #[.int .i64 f, .int .i64 b, .slice ra P.length rc, .int .i64 l, .slice rd M.length re] 27) = W := ⟨_, rfl⟩
    have b7 : Below w6.heap.size w6 w7 := by rw [← hw7]; exact (Below.refl _ _).alloc (Nat.le_refl _) _
    have Y7 := Lib.hid (show AtY w7 w6.heap.size [.int .i64 f, .int .i64 b, .slice ra P.length rc, .int .i64 l, .slice rd M.length re] by rw [← hw7]; exact AtY.new5 w6 _ _ _ _ _ _)
    have H7 := Lib.hid (next H6.out b7)
    have V7 := Lib.hid (V6.out.below b7)
    have T7 := Lib.hid (SlA.below T6.out b7)
    have R7 := Lib.hid (R6.out.below b7)
    clear b7
    obtain ⟨q0, q1, q2, q3, q4⟩ := Y7.out.five
    go_wp2_with fail
    refine (islacks_is L0 LB WB.out _ _ _ _ f b _ _ P l _ _ M tt (z := z) (by rw [lackM_congr TQ.out.1]; exact HZ.out) _ p V7.out (by omega) T7.out (by have := TQ.out.2; omega) R7.out (HE.out.below H7.out) (HT.out.next H7.out)).mono ?_
    rintro en w8 ⟨rfl, b8⟩
    have H8 := Lib.hid (next H7.out b8)
    have V8 := Lib.hid (V7.out.below b8)
    have T8 := Lib.hid (SlA.below T7.out b8)
    have R8 := Lib.hid (R7.out.below b8)
    have Y8 := Lib.hid (Y7.out.below b8)
    clear b8 q0 q1 q2 q3 q4
    go_wp2_with fail
    refine (thvs_own L0 a0 cap0 _ _ rfl (HA.out.below H8.out) hlc).mono ?_
    rintro en w9 ⟨rfl, oH, b9⟩
    have H9 := Lib.hid (next H8.out b9)
    have V9 := Lib.hid (V8.out.below b9)
    have U9 := Lib.hid (OwnHv.hva oH)
    have T9 := Lib.hid (SlA.below T8.out b9)
    have R9 := Lib.hid (R8.out.below b9)
    have Y9 := Lib.hid (Y8.out.below b9)
    clear oH b9
    go_wp2_with fail
    refine (eqhvs_is L0 _ _ _ _ _ _ _ rfl rfl V9.out U9.out (by omega)).mono ?_
    rintro en wA ⟨rfl, bA⟩
    have HA1 := Lib.hid (next H9.out bA)
    have TA := Lib.hid (SlA.below T9.out bA)
    have RA := Lib.hid (R9.out.below bA)
    have YA := Lib.hid (Y9.out.below bA)
    clear bA
    go_wp2_with fail
    refine (tsls_own L1 a1 cap1 _ _ rfl (HS.out.below HA1.out) hls HSS.out).mono ?_
    rintro en wB ⟨LC, rfl, hlC, _, hq, hA, bB⟩
    have HB1 := Lib.hid (next HA1.out bB)
    have TB := Lib.hid (SlA.below TA.out bB)
    have UB := Lib.hid hA
    have QB := Lib.hid (TQ.out.1.trans hq.symm)
    have RB := Lib.hid (RA.out.below bB)
    have YB := Lib.hid (YA.out.below bB)
    clear hA hq hlC bB
    go_wp2_with fail
    refine (eqsls_is LB LC _ _ _ _ _ _ _ rfl rfl TB.out UB.out QB.out (by have := TQ.out.2; omega)).mono ?_
    rintro en wC ⟨rfl, bC⟩
    have HC1 := Lib.hid (next HB1.out bC)
    have RC := Lib.hid (RB.out.below bC)
    have YC := Lib.hid (YB.out.below bC)
    have XC := Lib.hid (HX.out.below HC1.out)
    clear bC
    go_upto_region 22 with fail
    refine wp_region_held_drew (S := fun Wx => ((Wx.cell? ⟨w.heap.size, 0, none⟩ = some (.int .i64 f) ∧ Wx.cell? ⟨w.heap.size, 1, none⟩ = some (.int .i64 b) ∧ Wx.cell? ⟨w.heap.size, 2, none⟩ = some (.slice a P.length c) ∧ Wx.cell? ⟨w.heap.size, 3, none⟩ = some (.int .i64 l) ∧ Wx.cell? ⟨w.heap.size, 4, none⟩ = some (.slice d M.length e)) ∧ Wx.cell? ⟨w6.heap.size, 0, none⟩ = some (.int .i64 f) ∧ Wx.cell? ⟨w6.heap.size, 1, none⟩ = some (.int .i64 b) ∧ Wx.cell? ⟨w6.heap.size, 2, none⟩ = some (.slice ra P.length rc) ∧ Wx.cell? ⟨w6.heap.size, 3, none⟩ = some (.int .i64 l) ∧ Wx.cell? ⟨w6.heap.size, 4, none⟩ = some (.slice rd M.length re)) ∧ Hid (Below W.heap.size W Wx ∧ Below wC.heap.size wC Wx)) (by kernel_rfl) ?_ (fun hHeld => ?_)
    · exact ⟨⟨XC.out.five, YC.out.five⟩, Lib.hid ⟨HC1.out.drew, (Below.refl _ wC).drew⟩⟩
    refine takeH (i := 0) (v := ?_) rfl rfl (by kernel_rfl) (by kernel_rfl) (by kernel_rfl) (fun _ _ _ h => h) (by rfl) ?_ (by assumption) ?_
    rotate_left 1
    · intro w hSw
      (try dsimp only at hSw)
      go_simp
      try with_reducible rfl
    try simp only [List.setIfInBounds_toArray, List.set_cons_zero, List.set_cons_succ]
    refine takeH (i := 1) (v := ?_) rfl rfl (by kernel_rfl) (by kernel_rfl) (by kernel_rfl) (fun _ _ _ h => h) (by rfl) ?_ (by assumption) ?_
    rotate_left 1
    · intro w hSw
      (try dsimp only at hSw)
      go_simp
      try with_reducible rfl
    try simp only [List.setIfInBounds_toArray, List.set_cons_zero, List.set_cons_succ]
    refine wpAnyH_ready (rs := [2]) (by kernel_rfl) (by simp) ?_
    refine AllReadyH.cons rfl (fun K hK => ?_) (AllReadyH.nil)
    go_simp
    refine (trt_at f b a c P l d e M _ (HR.out.below hHeld.2.out.1) hlP hlM).mono ?_
    rintro en wc ⟨sa, sc, sd, se, rfl, hR, bc⟩
    have T3 := Lib.hid (And.intro hR (RC.out.below (next hHeld.2.out.2 bc)))
    clear hR
    go_wp2_with fail
    refine hK.out _ _ ?_ (fun hNew => ?_)
    · exact ⟨⟨⟨cell_later bc hHeld.1.1.1, cell_later bc hHeld.1.1.2.1, cell_later bc hHeld.1.1.2.2.1, cell_later bc hHeld.1.1.2.2.2.1, cell_later bc hHeld.1.1.2.2.2.2⟩, cell_later bc hHeld.1.2.1, cell_later bc hHeld.1.2.2.1, cell_later bc hHeld.1.2.2.2.1, cell_later bc hHeld.1.2.2.2.2.1, cell_later bc hHeld.1.2.2.2.2.2⟩, Lib.hid ⟨next hHeld.2.out.1 bc, next hHeld.2.out.2 bc⟩⟩
    clear hK K hHeld
    have hHeld := hNew
    clear hNew
    try simp only [Act.put, List.setIfInBounds_toArray, List.set_cons_zero, List.set_cons_succ]
    refine wpAnyH_ready (rs := [3]) (by kernel_rfl) (by simp) ?_
    refine AllReadyH.cons rfl (fun K hK => ?_) (AllReadyH.nil)
    go_simp
    refine (eqrt_is f b _ _ P l _ _ M f b _ _ P l _ _ M (x := true) (by simp) _ T3.out.2 T3.out.1).mono ?_
    rintro en wc ⟨rfl, bc⟩
    go_wp2_with fail
    refine hK.out _ _ ?_ (fun hNew => ?_)
    · exact ⟨⟨⟨cell_later bc hHeld.1.1.1, cell_later bc hHeld.1.1.2.1, cell_later bc hHeld.1.1.2.2.1, cell_later bc hHeld.1.1.2.2.2.1, cell_later bc hHeld.1.1.2.2.2.2⟩, cell_later bc hHeld.1.2.1, cell_later bc hHeld.1.2.2.1, cell_later bc hHeld.1.2.2.2.1, cell_later bc hHeld.1.2.2.2.2.1, cell_later bc hHeld.1.2.2.2.2.2⟩, Lib.hid ⟨next hHeld.2.out.1 bc, next hHeld.2.out.2 bc⟩⟩
    clear hK K hHeld
    have hHeld := hNew
    clear hNew
    try simp only [Act.put, List.setIfInBounds_toArray, List.set_cons_zero, List.set_cons_succ]
    refine takeH (i := 4) (v := ?_) rfl rfl (by kernel_rfl) (by kernel_rfl) (by kernel_rfl) (fun _ _ _ h => h) (by rfl) ?_ (by assumption) ?_
    rotate_left 1
    · intro w hSw
      (try dsimp only at hSw)
      go_simp
      try with_reducible rfl
    try simp only [List.setIfInBounds_toArray, List.set_cons_zero, List.set_cons_succ]
    refine wpAnyH_done (by kernel_rfl) ?_ _
    have HF := Lib.hid (next HB0.out hHeld.2.out.1)
    clear hHeld
    go_wp2_with fail
    go_ret
    exact ⟨rfl, HF.out⟩
set_option maxRecDepth 100000 in
set_option maxHeartbeats 8000000 in
theorem exactSealOk_walk (a0 : Option Addr) (n0 cap0 : Nat) (L0 : List HV) (a1 : Option Addr) (n1 cap1 : Nat) (L1 : List SV) (f b : Int) (a : Option Addr) (n c : Nat) (P : List Int) (l : Int) (d : Option Addr) (m e : Nat) (M : List Int) (tt : Int) (w : World) (hn0 : n0 = L0.length) (hA0 : HvA w a0 L0) (hl0 : n0 ≤ 9223372036854775807) (hn1 : n1 = L1.length) (hA1 : SlB w a1 L1) (hl1 : n1 ≤ 9223372036854775807)
    (hP : IntA w a P) (hM : IntA w d M) (hn : n = P.length) (hm : m = M.length) (hcP : n ≤ c) (hcM : m ≤ e) (hnl : n ≤ 9223372036854775807) (hml : m ≤ 9223372036854775807) (_ : (Lit.int .i64 tt).wf = true) (p : Addr) (hE : EV w p) (hT : PowS w) :
    Calls Tryd.prog 15 #[.slice a0 n0 cap0, .slice a1 n1 cap1, .agg #[.int .i64 f, .int .i64 b, .slice a n c, .int .i64 l, .slice d m e], .int .i64 tt] w fun e w' => e = .returned (.bool true) ∧ Below w.heap.size w w' := by
  subst hn0 hn1 hn hm
  obtain ⟨W, hW⟩ : ∃ W, w.alloc (.cells #[.int .i64 f, .int .i64 b, .slice a P.length c, .int .i64 l, .slice d M.length e] 58) = W := ⟨_, rfl⟩
  have hb : Below w.heap.size w W := by rw [← hW]; exact (Below.refl _ _).alloc (Nat.le_refl _) _
  have HB0 := Lib.hid hb
  have HA := Lib.hid (hA0.below hb)
  have HS := Lib.hid (hA1.below hb)
  have HPM := Lib.hid (And.intro (hP.below hb) (hM.below hb))
  have HT := Lib.hid (hT.next hb)
  have HE := Lib.hid (hE.below hb)
  have HX := Lib.hid (show AtY W w.heap.size [.int .i64 f, .int .i64 b, .slice a P.length c, .int .i64 l, .slice d M.length e] by rw [← hW]; exact AtY.new5 w _ _ _ _ _ _)
  clear hA0 hA1 hb hP hM hT hE
  obtain ⟨q0, q1, q2, q3, q4⟩ := HX.out.five
  by_cases hlc : L0.length ≤ 1048576
  case neg =>
    go_enter Tryd.func15, Tryd.ntmps15
    have hz : szN 1048576 L0.length = -1 := by rw [szN, if_pos (by omega)]
    go_wp2_with fail
    refine (szhv_is hz (by omega) (by omega) (by omega) a0 cap0 _).mono ?_
    rintro en w0 ⟨rfl, rfl⟩
    go_wp2_with fail
    go_ret
    exact ⟨rfl, HB0.out⟩
  go_enter Tryd.func15, Tryd.ntmps15
  have hz : szN 1048576 L0.length = 1048576 - (L0.length : Int) := by rw [szN, if_neg (by omega)]
  have hz0 : ¬ (1048576 : Int) - (L0.length : Int) < 0 := by omega
  obtain ⟨Z1, hZ1⟩ : ∃ Z1, (1048576 : Int) - (L0.length : Int) = Z1 := ⟨_, rfl⟩
  rw [hZ1] at hz hz0
  have hZ1b : Z1 ≤ 1048576 := by omega
  clear hZ1
  go_wp2_with fail
  refine (szhv_is hz (by omega) (by omega) (by omega) a0 cap0 _).mono ?_
  rintro en w0 ⟨rfl, rfl⟩
  go_wp2_with fail
  refine (szsls_any Z1 (by omega) (by omega) L1 a1 cap1 _ _ rfl HS.out hl1).mono ?_
  rintro en w1 ⟨Z2, rfl, hz2, b1⟩
  have H1 := Lib.hid b1
  have X1 := Lib.hid (HX.out.below b1)
  clear b1 q0 q1 q2 q3 q4
  by_cases hneg : Z2 < 0
  · go_wp2_with fail
    go_ret
    exact ⟨rfl, next HB0.out H1.out⟩
  obtain ⟨hZ2, hls, hss⟩ := hz2 (by omega)
  have HSS := Lib.hid hss
  clear hz2 hss
  obtain ⟨q0, q1, q2, q3, q4⟩ := X1.out.five
  by_cases hfit : (P.length : Int) + M.length ≤ Z2
  case neg =>
    have hz3 := szR_neg (left := Z2) (n := P.length) (m := M.length) (by omega)
    go_wp2_with fail
    refine (szrt_is f b l a d _ c _ e hz3 (by omega) (by omega) hnl hml _).mono ?_
    rintro en w2 ⟨rfl, b2⟩
    have H2 := Lib.hid (next H1.out b2)
    clear b2
    go_wp2_with fail
    go_ret
    exact ⟨rfl, next HB0.out H2.out⟩
  have hz3 := szR_pos hfit
  obtain ⟨Z3, hZ3⟩ : ∃ Z3, Z2 - (P.length : Int) - (M.length : Int) = Z3 := ⟨_, rfl⟩
  rw [hZ3] at hz3
  have hn3 : ¬ Z3 < 0 := by omega
  have hlP : P.length ≤ 1048576 := by omega
  have hlM : M.length ≤ 1048576 := by omega
  clear hZ3 hfit
  go_wp2_with fail
  refine (szrt_is f b l a d _ c _ e hz3 (by omega) (by omega) hnl hml _).mono ?_
  rintro en w2 ⟨rfl, b2⟩
  have H3 := Lib.hid (next H1.out b2)
  have X3 := Lib.hid (X1.out.below b2)
  have HR := Lib.hid (show RtM W a c P d e M from ⟨HPM.out, hcP, hcM, by omega, by omega⟩)
  clear b2 q0 q1 q2 q3 q4
  obtain ⟨z, hzz⟩ : ∃ z, decide (lackM L0 L1 f b P l M tt = 0) = z := ⟨_, rfl⟩
  have HZ := Lib.hid hzz
  have hne : (z != z) = false := by simp
  clear hzz hz hz3
  go_upto_region 11 with fail
  go_cut [10] from 30 (fun v wx => v = .bool z ∧ Hid (Below W.heap.size W wx))
  case first =>
    refine wp_region_held_drew (S := fun Wx => (Wx.cell? ⟨w.heap.size, 0, none⟩ = some (.int .i64 f) ∧ Wx.cell? ⟨w.heap.size, 1, none⟩ = some (.int .i64 b) ∧ Wx.cell? ⟨w.heap.size, 2, none⟩ = some (.slice a P.length c) ∧ Wx.cell? ⟨w.heap.size, 3, none⟩ = some (.int .i64 l) ∧ Wx.cell? ⟨w.heap.size, 4, none⟩ = some (.slice d M.length e)) ∧ Hid (Below W.heap.size W Wx)) (by kernel_rfl) ?_ (fun hHeld => ?_)
    · exact ⟨X3.out.five, Lib.hid H3.out.drew⟩
    refine takeH (i := 0) (v := ?_) rfl rfl (by kernel_rfl) (by kernel_rfl) (by kernel_rfl) (fun _ _ _ h => h) (by rfl) ?_ (by assumption) ?_
    rotate_left 1
    · intro w hSw
      (try dsimp only at hSw)
      go_simp
      try with_reducible rfl
    try simp only [List.setIfInBounds_toArray, List.set_cons_zero, List.set_cons_succ]
    refine takeH (i := 2) (v := ?_) rfl rfl (by kernel_rfl) (by kernel_rfl) (by kernel_rfl) (fun _ _ _ h => h) (by rfl) ?_ (by assumption) ?_
    rotate_left 1
    · intro w hSw
      (try dsimp only at hSw)
      go_simp
      try with_reducible rfl
    try simp only [List.setIfInBounds_toArray, List.set_cons_zero, List.set_cons_succ]
    refine takeH (i := 4) (v := ?_) rfl rfl (by kernel_rfl) (by kernel_rfl) (by kernel_rfl) (fun _ _ _ h => h) (by rfl) ?_ (by assumption) ?_
    rotate_left 1
    · intro w hSw
      (try dsimp only at hSw)
      go_simp
      try with_reducible rfl
    try simp only [List.setIfInBounds_toArray, List.set_cons_zero, List.set_cons_succ]
    refine takeH (i := 6) (v := ?_) rfl rfl (by kernel_rfl) (by kernel_rfl) (by kernel_rfl) (fun _ _ _ h => h) (by rfl) ?_ (by assumption) ?_
    rotate_left 1
    · intro w hSw
      (try dsimp only at hSw)
      go_simp
      try with_reducible rfl
    try simp only [List.setIfInBounds_toArray, List.set_cons_zero, List.set_cons_succ]
    refine wpAnyH_ready (rs := [1]) (by kernel_rfl) (by simp) ?_
    refine AllReadyH.cons rfl (fun K hK => ?_) (AllReadyH.nil)
    go_simp
    refine (thvs_own L0 a0 cap0 _ _ rfl (HA.out.below hHeld.2.out) hlc).mono ?_
    rintro en wc ⟨rfl, oH, bc⟩
    have TH0 := Lib.hid (OwnHv.hva oH)
    clear oH
    go_wp2_with fail
    refine hK.out _ _ ?_ (fun hNew => ?_)
    · exact ⟨⟨cell_later bc hHeld.1.1, cell_later bc hHeld.1.2.1, cell_later bc hHeld.1.2.2.1, cell_later bc hHeld.1.2.2.2.1, cell_later bc hHeld.1.2.2.2.2⟩, Lib.hid (next hHeld.2.out bc)⟩
    clear hK K hHeld
    have hHeld := hNew
    clear hNew
    try simp only [Act.put, List.setIfInBounds_toArray, List.set_cons_zero, List.set_cons_succ]
    refine wpAnyH_ready (rs := [3]) (by kernel_rfl) (by simp) ?_
    refine AllReadyH.cons rfl (fun K hK => ?_) (AllReadyH.nil)
    go_simp
    refine (tsls_own L1 a1 cap1 _ _ rfl (HS.out.below hHeld.2.out) hls HSS.out).mono ?_
    rintro en wc ⟨LB, rfl, hlB, _, hq, hA, bc⟩
    have TH1 := Lib.hid (HvA.below TH0.out bc)
    have TS1 := Lib.hid hA
    have TQ := Lib.hid (And.intro hq hlB)
    clear hA hq hlB
    go_wp2_with fail
    refine hK.out _ _ ?_ (fun hNew => ?_)
    · exact ⟨⟨cell_later bc hHeld.1.1, cell_later bc hHeld.1.2.1, cell_later bc hHeld.1.2.2.1, cell_later bc hHeld.1.2.2.2.1, cell_later bc hHeld.1.2.2.2.2⟩, Lib.hid (next hHeld.2.out bc)⟩
    clear hK K hHeld
    have hHeld := hNew
    clear hNew
    try simp only [Act.put, List.setIfInBounds_toArray, List.set_cons_zero, List.set_cons_succ]
    refine wpAnyH_ready (rs := [5]) (by kernel_rfl) (by simp) ?_
    refine AllReadyH.cons rfl (fun K hK => ?_) (AllReadyH.nil)
    go_simp
    refine (trt_at f b a c P l d e M _ (HR.out.below hHeld.2.out) hlP hlM).mono ?_
    rintro en wc ⟨ra, rc, rd, re, rfl, hR, bc⟩
    have TH2 := Lib.hid (HvA.below TH1.out bc)
    have TS2 := Lib.hid (SlA.below TS1.out bc)
    have TR2 := Lib.hid hR
    clear hR
    go_wp2_with fail
    refine hK.out _ _ ?_ (fun hNew => ?_)
    · exact ⟨⟨cell_later bc hHeld.1.1, cell_later bc hHeld.1.2.1, cell_later bc hHeld.1.2.2.1, cell_later bc hHeld.1.2.2.2.1, cell_later bc hHeld.1.2.2.2.2⟩, Lib.hid (next hHeld.2.out bc)⟩
    clear hK K hHeld
    have hHeld := hNew
    clear hNew
    try simp only [Act.put, List.setIfInBounds_toArray, List.set_cons_zero, List.set_cons_succ]
    refine wpAnyH_ready (rs := [7]) (by kernel_rfl) (by simp) ?_
    refine AllReadyH.cons rfl (fun K hK => ?_) (AllReadyH.nil)
    go_simp
    refine (sealok_is L0 LB _ _ _ _ f b _ _ P l _ _ M tt (z := z) (by rw [lackM_congr TQ.out.1]; exact HZ.out) _ TH2.out (by omega) TS2.out (by have := TQ.out.2; omega) TR2.out).mono ?_
    rintro en wc ⟨rfl, bc⟩
    go_wp2_with fail
    refine hK.out _ _ ?_ (fun hNew => ?_)
    · exact ⟨⟨cell_later bc hHeld.1.1, cell_later bc hHeld.1.2.1, cell_later bc hHeld.1.2.2.1, cell_later bc hHeld.1.2.2.2.1, cell_later bc hHeld.1.2.2.2.2⟩, Lib.hid (next hHeld.2.out bc)⟩
    clear hK K hHeld
    have hHeld := hNew
    clear hNew
    try simp only [Act.put, List.setIfInBounds_toArray, List.set_cons_zero, List.set_cons_succ]
    refine takeH (i := 8) (v := ?_) rfl rfl (by kernel_rfl) (by kernel_rfl) (by kernel_rfl) (fun _ _ _ h => h) (by rfl) ?_ (by assumption) ?_
    rotate_left 1
    · intro w hSw
      (try dsimp only at hSw)
      go_simp
      try with_reducible rfl
    try simp only [List.setIfInBounds_toArray, List.set_cons_zero, List.set_cons_succ]
    refine wpAnyH_done (by kernel_rfl) ?_ _
    have HF := Lib.hid hHeld.2.out
    clear hHeld
    go_wp2_with fail
    go_meet
    exact ⟨rfl, HF⟩
  case rest =>
    obtain ⟨rfl, HC⟩ := hcut
    obtain ⟨w3, hw3⟩ : ∃ W, W = wc := ⟨_, rfl⟩
    subst hw3
    go_wp2_with fail
    refine (thvs_own L0 a0 cap0 _ _ rfl (HA.out.below HC.out) hlc).mono ?_
    rintro en w4 ⟨rfl, oH, b4⟩
    have H4 := Lib.hid (next HC.out b4)
    have V4 := Lib.hid (OwnHv.hva oH)
    clear oH b4
    go_wp2_with fail
    refine (tsls_own L1 a1 cap1 _ _ rfl (HS.out.below H4.out) hls HSS.out).mono ?_
    rintro en w5 ⟨LB, rfl, hlB, _, hq, hA, b5⟩
    have H5 := Lib.hid (next H4.out b5)
    have V5 := Lib.hid (V4.out.below b5)
    have T5 := Lib.hid hA
    have TQ := Lib.hid (And.intro hq hlB)
    have WB := Lib.hid (spw_of hq (slb_w HS.out))
    have X5 := Lib.hid (HX.out.below H5.out)
    clear hA hq hlB b5
    obtain ⟨q0, q1, q2, q3, q4⟩ := X5.out.five
    go_wp2_with fail
    refine (trt_at f b a c P l d e M _ (HR.out.below H5.out) hlP hlM).mono ?_
    rintro en w6 ⟨ra, rc, rd, re, rfl, hR, b6⟩
    have H6 := Lib.hid (next H5.out b6)
    have V6 := Lib.hid (V5.out.below b6)
    have T6 := Lib.hid (SlA.below T5.out b6)
    have R6 := Lib.hid hR
    clear hR b6 q0 q1 q2 q3 q4
    obtain ⟨w7, hw7⟩ : ∃ W, w6.alloc (.cells #[.int .i64 f, .int .i64 b, .slice ra P.length rc, .int .i64 l, .slice rd M.length re] 27) = W := ⟨_, rfl⟩
    have b7 : Below w6.heap.size w6 w7 := by rw [← hw7]; exact (Below.refl _ _).alloc (Nat.le_refl _) _
    have Y7 := Lib.hid (show AtY w7 w6.heap.size [.int .i64 f, .int .i64 b, .slice ra P.length rc, .int .i64 l, .slice rd M.length re] by rw [← hw7]; exact AtY.new5 w6 _ _ _ _ _ _)
    have H7 := Lib.hid (next H6.out b7)
    have V7 := Lib.hid (V6.out.below b7)
    have T7 := Lib.hid (SlA.below T6.out b7)
    have R7 := Lib.hid (R6.out.below b7)
    clear b7
    obtain ⟨q0, q1, q2, q3, q4⟩ := Y7.out.five
    go_wp2_with fail
    refine (isealok_is L0 LB WB.out _ _ _ _ f b _ _ P l _ _ M tt (z := z) (by rw [lackM_congr TQ.out.1]; exact HZ.out) _ p V7.out (by omega) T7.out (by have := TQ.out.2; omega) R7.out (HE.out.below H7.out) (HT.out.next H7.out)).mono ?_
    rintro en w8 ⟨rfl, b8⟩
    have H8 := Lib.hid (next H7.out b8)
    have V8 := Lib.hid (V7.out.below b8)
    have T8 := Lib.hid (SlA.below T7.out b8)
    have R8 := Lib.hid (R7.out.below b8)
    have Y8 := Lib.hid (Y7.out.below b8)
    clear b8 q0 q1 q2 q3 q4
    go_wp2_with fail
    refine (thvs_own L0 a0 cap0 _ _ rfl (HA.out.below H8.out) hlc).mono ?_
    rintro en w9 ⟨rfl, oH, b9⟩
    have H9 := Lib.hid (next H8.out b9)
    have V9 := Lib.hid (V8.out.below b9)
    have U9 := Lib.hid (OwnHv.hva oH)
    have T9 := Lib.hid (SlA.below T8.out b9)
    have R9 := Lib.hid (R8.out.below b9)
    have Y9 := Lib.hid (Y8.out.below b9)
    clear oH b9
    go_wp2_with fail
    refine (eqhvs_is L0 _ _ _ _ _ _ _ rfl rfl V9.out U9.out (by omega)).mono ?_
    rintro en wA ⟨rfl, bA⟩
    have HA1 := Lib.hid (next H9.out bA)
    have TA := Lib.hid (SlA.below T9.out bA)
    have RA := Lib.hid (R9.out.below bA)
    have YA := Lib.hid (Y9.out.below bA)
    clear bA
    go_wp2_with fail
    refine (tsls_own L1 a1 cap1 _ _ rfl (HS.out.below HA1.out) hls HSS.out).mono ?_
    rintro en wB ⟨LC, rfl, hlC, _, hq, hA, bB⟩
    have HB1 := Lib.hid (next HA1.out bB)
    have TB := Lib.hid (SlA.below TA.out bB)
    have UB := Lib.hid hA
    have QB := Lib.hid (TQ.out.1.trans hq.symm)
    have RB := Lib.hid (RA.out.below bB)
    have YB := Lib.hid (YA.out.below bB)
    clear hA hq hlC bB
    go_wp2_with fail
    refine (eqsls_is LB LC _ _ _ _ _ _ _ rfl rfl TB.out UB.out QB.out (by have := TQ.out.2; omega)).mono ?_
    rintro en wC ⟨rfl, bC⟩
    have HC1 := Lib.hid (next HB1.out bC)
    have RC := Lib.hid (RB.out.below bC)
    have YC := Lib.hid (YB.out.below bC)
    have XC := Lib.hid (HX.out.below HC1.out)
    clear bC
    go_upto_region 22 with fail
    refine wp_region_held_drew (S := fun Wx => ((Wx.cell? ⟨w.heap.size, 0, none⟩ = some (.int .i64 f) ∧ Wx.cell? ⟨w.heap.size, 1, none⟩ = some (.int .i64 b) ∧ Wx.cell? ⟨w.heap.size, 2, none⟩ = some (.slice a P.length c) ∧ Wx.cell? ⟨w.heap.size, 3, none⟩ = some (.int .i64 l) ∧ Wx.cell? ⟨w.heap.size, 4, none⟩ = some (.slice d M.length e)) ∧ Wx.cell? ⟨w6.heap.size, 0, none⟩ = some (.int .i64 f) ∧ Wx.cell? ⟨w6.heap.size, 1, none⟩ = some (.int .i64 b) ∧ Wx.cell? ⟨w6.heap.size, 2, none⟩ = some (.slice ra P.length rc) ∧ Wx.cell? ⟨w6.heap.size, 3, none⟩ = some (.int .i64 l) ∧ Wx.cell? ⟨w6.heap.size, 4, none⟩ = some (.slice rd M.length re)) ∧ Hid (Below W.heap.size W Wx ∧ Below wC.heap.size wC Wx)) (by kernel_rfl) ?_ (fun hHeld => ?_)
    · exact ⟨⟨XC.out.five, YC.out.five⟩, Lib.hid ⟨HC1.out.drew, (Below.refl _ wC).drew⟩⟩
    refine takeH (i := 0) (v := ?_) rfl rfl (by kernel_rfl) (by kernel_rfl) (by kernel_rfl) (fun _ _ _ h => h) (by rfl) ?_ (by assumption) ?_
    rotate_left 1
    · intro w hSw
      (try dsimp only at hSw)
      go_simp
      try with_reducible rfl
    try simp only [List.setIfInBounds_toArray, List.set_cons_zero, List.set_cons_succ]
    refine takeH (i := 1) (v := ?_) rfl rfl (by kernel_rfl) (by kernel_rfl) (by kernel_rfl) (fun _ _ _ h => h) (by rfl) ?_ (by assumption) ?_
    rotate_left 1
    · intro w hSw
      (try dsimp only at hSw)
      go_simp
      try with_reducible rfl
    try simp only [List.setIfInBounds_toArray, List.set_cons_zero, List.set_cons_succ]
    refine wpAnyH_ready (rs := [2]) (by kernel_rfl) (by simp) ?_
    refine AllReadyH.cons rfl (fun K hK => ?_) (AllReadyH.nil)
    go_simp
    refine (trt_at f b a c P l d e M _ (HR.out.below hHeld.2.out.1) hlP hlM).mono ?_
    rintro en wc ⟨sa, sc, sd, se, rfl, hR, bc⟩
    have T3 := Lib.hid (And.intro hR (RC.out.below (next hHeld.2.out.2 bc)))
    clear hR
    go_wp2_with fail
    refine hK.out _ _ ?_ (fun hNew => ?_)
    · exact ⟨⟨⟨cell_later bc hHeld.1.1.1, cell_later bc hHeld.1.1.2.1, cell_later bc hHeld.1.1.2.2.1, cell_later bc hHeld.1.1.2.2.2.1, cell_later bc hHeld.1.1.2.2.2.2⟩, cell_later bc hHeld.1.2.1, cell_later bc hHeld.1.2.2.1, cell_later bc hHeld.1.2.2.2.1, cell_later bc hHeld.1.2.2.2.2.1, cell_later bc hHeld.1.2.2.2.2.2⟩, Lib.hid ⟨next hHeld.2.out.1 bc, next hHeld.2.out.2 bc⟩⟩
    clear hK K hHeld
    have hHeld := hNew
    clear hNew
    try simp only [Act.put, List.setIfInBounds_toArray, List.set_cons_zero, List.set_cons_succ]
    refine wpAnyH_ready (rs := [3]) (by kernel_rfl) (by simp) ?_
    refine AllReadyH.cons rfl (fun K hK => ?_) (AllReadyH.nil)
    go_simp
    refine (eqrt_is f b _ _ P l _ _ M f b _ _ P l _ _ M (x := true) (by simp) _ T3.out.2 T3.out.1).mono ?_
    rintro en wc ⟨rfl, bc⟩
    go_wp2_with fail
    refine hK.out _ _ ?_ (fun hNew => ?_)
    · exact ⟨⟨⟨cell_later bc hHeld.1.1.1, cell_later bc hHeld.1.1.2.1, cell_later bc hHeld.1.1.2.2.1, cell_later bc hHeld.1.1.2.2.2.1, cell_later bc hHeld.1.1.2.2.2.2⟩, cell_later bc hHeld.1.2.1, cell_later bc hHeld.1.2.2.1, cell_later bc hHeld.1.2.2.2.1, cell_later bc hHeld.1.2.2.2.2.1, cell_later bc hHeld.1.2.2.2.2.2⟩, Lib.hid ⟨next hHeld.2.out.1 bc, next hHeld.2.out.2 bc⟩⟩
    clear hK K hHeld
    have hHeld := hNew
    clear hNew
    try simp only [Act.put, List.setIfInBounds_toArray, List.set_cons_zero, List.set_cons_succ]
    refine takeH (i := 4) (v := ?_) rfl rfl (by kernel_rfl) (by kernel_rfl) (by kernel_rfl) (fun _ _ _ h => h) (by rfl) ?_ (by assumption) ?_
    rotate_left 1
    · intro w hSw
      (try dsimp only at hSw)
      go_simp
      try with_reducible rfl
    try simp only [List.setIfInBounds_toArray, List.set_cons_zero, List.set_cons_succ]
    refine wpAnyH_done (by kernel_rfl) ?_ _
    have HF := Lib.hid (next HB0.out hHeld.2.out.1)
    clear hHeld
    go_wp2_with fail
    go_ret
    exact ⟨rfl, HF.out⟩
end Go.Proofs.YtnnmgbgkgnejlaaDoor
