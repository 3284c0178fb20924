/-
  The exact law of SealHas: the walk.
-/
import Derived.Test.YtnnmgbgkgnejlaaDoorSlEb
import Derived.Deep.CutBlock
namespace Go.Proofs.YtnnmgbgkgnejlaaDoor
open Go.RowKit
set_option linter.unusedSimpArgs false
set_option linter.unusedVariables false

theorem hasS_congr {L M : List SV} (h : sealsP L = sealsP M) (s : SP) : hasS L s = hasS M s := by rw [hasS_mem, hasS_mem, h]
theorem spw_of {L M : List SV} (h : sealsP L = sealsP M) (hM : ∀ x ∈ M, SpW x.p) : ∀ x ∈ L, SpW x.p := fun x hx => by
  have h1 : x.p ∈ sealsP M := by rw [← h]; exact List.mem_map_of_mem hx
  obtain ⟨u, hu, e⟩ := List.mem_map.1 h1
  rw [← e]; exact hM u hu
theorem slb_w {w : World} {a : Option Addr} {L : List SV} (h : SlB w a L) : ∀ x ∈ L, SpW x.p := fun x hx => (h.2 x hx).2.2
set_option maxRecDepth 100000 in
set_option maxHeartbeats 4000000 in
theorem exactSealHas_walk (a0 : Option Addr) (n0 cap0 : Nat) (L0 : List SV) (S1 : SV) (w : World) (hn0 : n0 = L0.length) (hA0 : SlB w a0 L0) (hl0 : n0 ≤ 9223372036854775807) (hm1 : IntA w S1.a S1.P ∧ S1.P.length ≤ S1.c) (hx1 : S1.P.length ≤ 9223372036854775807) (hw1 : SpW S1.p) (hT : PowS w) :
    Calls Tryd.prog 13 #[.slice a0 n0 cap0, slV S1] w fun e w' => e = .returned (.bool true) ∧ Below w.heap.size w w' := by
  subst hn0
  obtain ⟨vy, vt, vf, vb, va, vc, vP⟩ := S1
  dsimp only at hm1 hx1 hw1
  obtain ⟨W, hW⟩ : ∃ W, w.alloc (.cells #[.int .i64 vy, .int .i64 vt, .int .i64 vf, .int .i64 vb, .slice va vP.length vc] 67) = W := ⟨_, rfl⟩
  have hb : Below w.heap.size w W := by rw [← hW]; exact (Below.refl _ _).alloc (Nat.le_refl _) _
  have HB0 := Lib.hid hb
  have HA := Lib.hid (hA0.below hb)
  have HI := Lib.hid (hm1.1.below hb)
  have HT := Lib.hid (hT.next hb)
  have HW1 := Lib.hid hw1
  have HX := Lib.hid (show AtY W w.heap.size [.int .i64 vy, .int .i64 vt, .int .i64 vf, .int .i64 vb, .slice va vP.length vc] by rw [← hW]; exact AtY.new5 w _ _ _ _ _ _)
  have hvc := hm1.2
  clear hA0 hb hm1 hT hw1
  obtain ⟨q0, q1, q2, q3, q4⟩ := HX.out.five
  go_enter Tryd.func13, Tryd.ntmps13
  go_wp2_with fail
  refine (szsls_any 1048576 (by omega) (by omega) L0 a0 cap0 _ _ rfl HA.out hl0).mono ?_
  rintro en w1 ⟨Z, rfl, hz, b1⟩
  have H1 := Lib.hid b1
  have X1 := Lib.hid (HX.out.below b1)
  clear b1 q0 q1 q2 q3 q4
  by_cases hneg : Z < 0
  · go_wp2_with fail
    go_ret
    exact ⟨rfl, next HB0.out H1.out⟩
  obtain ⟨hZ1, hlc, hs⟩ := hz (by omega)
  have HS := Lib.hid hs
  clear hz hs
  obtain ⟨q0, q1, q2, q3, q4⟩ := X1.out.five
  by_cases hfit : Z < (vP.length : Int)
  · have hz1 : szI Z vP.length = -1 := by unfold szI; rw [if_pos hfit]
    go_wp2_with fail
    refine (szsl_is ⟨vy, vt, vf, vb, va, vc, vP⟩ hz1 (by omega) (by omega) hx1 _).mono ?_
    rintro en w2 ⟨rfl, b2⟩
    have H2 := Lib.hid (next H1.out b2)
    clear b2
    go_wp2_with fail
    go_ret
    exact ⟨rfl, next HB0.out H2.out⟩
  have hz1 : szI Z vP.length = Z - (vP.length : Int) := by unfold szI; rw [if_neg hfit]
  obtain ⟨Z2, hZ2⟩ : ∃ Z2, Z - (vP.length : Int) = Z2 := ⟨_, rfl⟩
  rw [hZ2] at hz1
  have hn2 : ¬ Z2 < 0 := by omega
  have hvl : vP.length ≤ 1048576 := by omega
  clear hZ2 hfit
  go_wp2_with fail
  refine (szsl_is ⟨vy, vt, vf, vb, va, vc, vP⟩ hz1 (by omega) (by omega) hx1 _).mono ?_
  rintro en w2 ⟨rfl, b2⟩
  have H2 := Lib.hid (next H1.out b2)
  have X2 := Lib.hid (X1.out.below b2)
  clear b2 q0 q1 q2 q3 q4
  obtain ⟨z, hzz⟩ : ∃ z, hasS L0 ⟨vy, vt, vf, vb, vP⟩ = z := ⟨_, rfl⟩
  have HZ := Lib.hid hzz
  have hne : (z != z) = false := by simp
  clear hzz
  go_upto_region 8 with fail
  go_cut [6] from 20 (fun v wx => v = .bool z ∧ Hid (Below W.heap.size W wx))
  case first =>
    refine wp_region_held_drew (S := fun Wx => (Wx.cell? ⟨w.heap.size, 0, none⟩ = some (.int .i64 vy) ∧ Wx.cell? ⟨w.heap.size, 1, none⟩ = some (.int .i64 vt) ∧ Wx.cell? ⟨w.heap.size, 2, none⟩ = some (.int .i64 vf) ∧ Wx.cell? ⟨w.heap.size, 3, none⟩ = some (.int .i64 vb) ∧ Wx.cell? ⟨w.heap.size, 4, none⟩ = some (.slice va vP.length vc)) ∧ Hid (Below W.heap.size W Wx)) (by kernel_rfl) ?_ (fun hHeld => ?_)
    · exact ⟨X2.out.five, Lib.hid H2.out.drew⟩
    refine takeH (i := 0) (v := ?_) rfl rfl (by kernel_rfl) (by kernel_rfl) (by kernel_rfl) (fun _ _ _ h => h) (by rfl) ?_ (by assumption) ?_
    rotate_left 1
    · intro w hSw
      (try dsimp only at hSw)
      go_simp
      try with_reducible rfl
    try simp only [List.setIfInBounds_toArray, List.set_cons_zero, List.set_cons_succ]
    refine takeH (i := 2) (v := ?_) rfl rfl (by kernel_rfl) (by kernel_rfl) (by kernel_rfl) (fun _ _ _ h => h) (by rfl) ?_ (by assumption) ?_
    rotate_left 1
    · intro w hSw
      (try dsimp only at hSw)
      go_simp
      try with_reducible rfl
    try simp only [List.setIfInBounds_toArray, List.set_cons_zero, List.set_cons_succ]
    refine wpAnyH_ready (rs := [1]) (by kernel_rfl) (by simp) ?_
    refine AllReadyH.cons rfl (fun K hK => ?_) (AllReadyH.nil)
    go_simp
    refine (tsls_own L0 a0 cap0 _ _ rfl (HA.out.below hHeld.2.out) hlc HS.out).mono ?_
    rintro en wc ⟨LB, rfl, hlB, _, hq, hA, bc⟩
    have T1 := Lib.hid (And.intro hA hq)
    have HLB := Lib.hid hlB
    clear hA hq hlB
    go_wp2_with fail
    refine hK.out _ _ ?_ (fun hNew => ?_)
    · exact ⟨⟨cell_later bc hHeld.1.1, cell_later bc hHeld.1.2.1, cell_later bc hHeld.1.2.2.1, cell_later bc hHeld.1.2.2.2.1, cell_later bc hHeld.1.2.2.2.2⟩, Lib.hid (next hHeld.2.out bc)⟩
    clear hK K hHeld
    have hHeld := hNew
    clear hNew
    try simp only [Act.put, List.setIfInBounds_toArray, List.set_cons_zero, List.set_cons_succ]
    refine wpAnyH_ready (rs := [3]) (by kernel_rfl) (by simp) ?_
    refine AllReadyH.cons rfl (fun K hK => ?_) (AllReadyH.nil)
    go_simp
    refine (tsl_at vy vt vf vb va vc vP _ (HI.out.below hHeld.2.out) hvl).mono ?_
    rintro en wc ⟨a2, c2, rfl, o2, bc⟩
    have T2 := Lib.hid (And.intro (SlA.below T1.out.1 bc) (And.intro T1.out.2 (OwnI.intA o2)))
    clear o2
    go_wp2_with fail
    refine hK.out _ _ ?_ (fun hNew => ?_)
    · exact ⟨⟨cell_later bc hHeld.1.1, cell_later bc hHeld.1.2.1, cell_later bc hHeld.1.2.2.1, cell_later bc hHeld.1.2.2.2.1, cell_later bc hHeld.1.2.2.2.2⟩, Lib.hid (next hHeld.2.out bc)⟩
    clear hK K hHeld
    have hHeld := hNew
    clear hNew
    try simp only [Act.put, List.setIfInBounds_toArray, List.set_cons_zero, List.set_cons_succ]
    refine wpAnyH_ready (rs := [4]) (by kernel_rfl) (by simp) ?_
    refine AllReadyH.cons rfl (fun K hK => ?_) (AllReadyH.nil)
    go_simp
    refine (ssealhas_is LB ⟨vy, vt, vf, vb, a2, c2, vP⟩ (z := z) (by rw [hasS_congr T2.out.2.1]; exact HZ.out) _ _ _ _ rfl T2.out.1 ⟨T2.out.2.2.2.2, T2.out.2.2.2.1, by show vP.length ≤ 2000000; omega⟩ (by have := HLB.out; omega)).mono ?_
    rintro en wc ⟨rfl, bc⟩
    go_wp2_with fail
    refine hK.out _ _ ?_ (fun hNew => ?_)
    · exact ⟨⟨cell_later bc hHeld.1.1, cell_later bc hHeld.1.2.1, cell_later bc hHeld.1.2.2.1, cell_later bc hHeld.1.2.2.2.1, cell_later bc hHeld.1.2.2.2.2⟩, Lib.hid (next hHeld.2.out bc)⟩
    clear hK K hHeld
    have hHeld := hNew
    clear hNew
    try simp only [Act.put, List.setIfInBounds_toArray, List.set_cons_zero, List.set_cons_succ]
    refine takeH (i := 5) (v := ?_) rfl rfl (by kernel_rfl) (by kernel_rfl) (by kernel_rfl) (fun _ _ _ h => h) (by rfl) ?_ (by assumption) ?_
    rotate_left 1
    · intro w hSw
      (try dsimp only at hSw)
      go_simp
      try with_reducible rfl
    try simp only [List.setIfInBounds_toArray, List.set_cons_zero, List.set_cons_succ]
    refine wpAnyH_done (by kernel_rfl) ?_ _
    have HF := Lib.hid hHeld.2.out
    clear hHeld
    go_wp2_with fail
    go_meet
    exact ⟨rfl, HF⟩
  case rest =>
    obtain ⟨rfl, HC⟩ := hcut
    obtain ⟨w3, hw3⟩ : ∃ W, W = wc := ⟨_, rfl⟩
    subst hw3
    go_wp2_with fail
    refine (tsls_own L0 a0 cap0 _ _ rfl (HA.out.below HC.out) hlc HS.out).mono ?_
    rintro en w4 ⟨LB, rfl, hlB, _, hq, hA, b4⟩
    have H4 := Lib.hid (next HC.out b4)
    have T4 := Lib.hid hA
    have Q4 := Lib.hid hq
    have WB := Lib.hid (spw_of hq (slb_w HA.out))
    have HLB := Lib.hid hlB
    clear hlB
    have X4 := Lib.hid (HX.out.below H4.out)
    clear hA hq b4
    obtain ⟨q0, q1, q2, q3, q4⟩ := X4.out.five
    go_wp2_with fail
    refine (tsl_at vy vt vf vb va vc vP _ (HI.out.below H4.out) hvl).mono ?_
    rintro en w5 ⟨a2, c2, rfl, o2, b5⟩
    have H5 := Lib.hid (next H4.out b5)
    have T5 := Lib.hid (SlA.below T4.out b5)
    have I5 := Lib.hid (OwnI.intA o2)
    clear b5 o2 q0 q1 q2 q3 q4
    obtain ⟨w6, hw6⟩ : ∃ W, w5.alloc (.cells #[.int .i64 vy, .int .i64 vt, .int .i64 vf, .int .i64 vb, .slice a2 vP.length c2] 34) = W := ⟨_, rfl⟩
    have b6 : Below w5.heap.size w5 w6 := by rw [← hw6]; exact (Below.refl _ _).alloc (Nat.le_refl _) _
    have Y6 := Lib.hid (show AtY w6 w5.heap.size [.int .i64 vy, .int .i64 vt, .int .i64 vf, .int .i64 vb, .slice a2 vP.length c2] by rw [← hw6]; exact AtY.new5 w5 _ _ _ _ _ _)
    have H6 := Lib.hid (next H5.out b6)
    have T6 := Lib.hid (SlA.below T5.out b6)
    have I6 := Lib.hid (IntA.below I5.out.2.2 b6)
    clear b6
    obtain ⟨q0, q1, q2, q3, q4⟩ := Y6.out.five
    go_wp2_with fail
    refine (isealhas_is LB WB.out ⟨vy, vt, vf, vb, a2, c2, vP⟩ HW1.out (z := z) (by rw [hasS_congr Q4.out]; exact HZ.out) _ _ _ _ rfl T6.out ⟨I6.out, I5.out.2.1, by show vP.length ≤ 2000000; omega⟩ (by have := HLB.out; omega) (HT.out.next H6.out)).mono ?_
    rintro en w7 ⟨rfl, b7⟩
    have H7 := Lib.hid (next H6.out b7)
    have T7 := Lib.hid (SlA.below T6.out b7)
    have Y7 := Lib.hid (Y6.out.below b7)
    have I7 := Lib.hid (IntA.below I6.out b7)
    clear b7 q0 q1 q2 q3 q4
    go_wp2_with fail
    refine (tsls_own L0 a0 cap0 _ _ rfl (HA.out.below H7.out) hlc HS.out).mono ?_
    rintro en w8 ⟨LC, rfl, hlC, _, hq, hA, b8⟩
    have H8 := Lib.hid (next H7.out b8)
    have T8 := Lib.hid (SlA.below T7.out b8)
    have U8 := Lib.hid hA
    have Q8 := Lib.hid (Q4.out.trans hq.symm)
    clear hlC
    have Y8 := Lib.hid (Y7.out.below b8)
    have I8 := Lib.hid (IntA.below I7.out b8)
    clear hA hq b8
    go_wp2_with fail
    refine (eqsls_is LB LC _ _ _ _ _ _ _ rfl rfl T8.out U8.out Q8.out (by have := HLB.out; omega)).mono ?_
    rintro en w9 ⟨rfl, b9⟩
    have H9 := Lib.hid (next H8.out b9)
    have Y9 := Lib.hid (Y8.out.below b9)
    have I9 := Lib.hid (IntA.below I8.out b9)
    have X9 := Lib.hid (HX.out.below H9.out)
    clear b9
    go_upto_region 16 with fail
    refine wp_region_held_drew (S := fun Wx => ((Wx.cell? ⟨w.heap.size, 0, none⟩ = some (.int .i64 vy) ∧ Wx.cell? ⟨w.heap.size, 1, none⟩ = some (.int .i64 vt) ∧ Wx.cell? ⟨w.heap.size, 2, none⟩ = some (.int .i64 vf) ∧ Wx.cell? ⟨w.heap.size, 3, none⟩ = some (.int .i64 vb) ∧ Wx.cell? ⟨w.heap.size, 4, none⟩ = some (.slice va vP.length vc)) ∧ Wx.cell? ⟨w5.heap.size, 0, none⟩ = some (.int .i64 vy) ∧ Wx.cell? ⟨w5.heap.size, 1, none⟩ = some (.int .i64 vt) ∧ Wx.cell? ⟨w5.heap.size, 2, none⟩ = some (.int .i64 vf) ∧ Wx.cell? ⟨w5.heap.size, 3, none⟩ = some (.int .i64 vb) ∧ Wx.cell? ⟨w5.heap.size, 4, none⟩ = some (.slice a2 vP.length c2)) ∧ Hid (Below W.heap.size W Wx ∧ Below w9.heap.size w9 Wx)) (by kernel_rfl) ?_ (fun hHeld => ?_)
    · exact ⟨⟨X9.out.five, Y9.out.five⟩, Lib.hid ⟨H9.out.drew, (Below.refl _ w9).drew⟩⟩
    refine takeH (i := 0) (v := ?_) rfl rfl (by kernel_rfl) (by kernel_rfl) (by kernel_rfl) (fun _ _ _ h => h) (by rfl) ?_ (by assumption) ?_
    rotate_left 1
    · intro w hSw
      (try dsimp only at hSw)
      go_simp
      try with_reducible rfl
    try simp only [List.setIfInBounds_toArray, List.set_cons_zero, List.set_cons_succ]
    refine takeH (i := 1) (v := ?_) rfl rfl (by kernel_rfl) (by kernel_rfl) (by kernel_rfl) (fun _ _ _ h => h) (by rfl) ?_ (by assumption) ?_
    rotate_left 1
    · intro w hSw
      (try dsimp only at hSw)
      go_simp
      try with_reducible rfl
    try simp only [List.setIfInBounds_toArray, List.set_cons_zero, List.set_cons_succ]
    refine wpAnyH_ready (rs := [2]) (by kernel_rfl) (by simp) ?_
    refine AllReadyH.cons rfl (fun K hK => ?_) (AllReadyH.nil)
    go_simp
    refine (tsl_at vy vt vf vb va vc vP _ (HI.out.below hHeld.2.out.1) hvl).mono ?_
    rintro en wc ⟨a3, c3, rfl, o3, bc⟩
    have T3 := Lib.hid (And.intro (OwnI.intA o3).2.2 (IntA.below I9.out (next hHeld.2.out.2 bc)))
    clear o3
    go_wp2_with fail
    refine hK.out _ _ ?_ (fun hNew => ?_)
    · exact ⟨⟨⟨cell_later bc hHeld.1.1.1, cell_later bc hHeld.1.1.2.1, cell_later bc hHeld.1.1.2.2.1, cell_later bc hHeld.1.1.2.2.2.1, cell_later bc hHeld.1.1.2.2.2.2⟩, cell_later bc hHeld.1.2.1, cell_later bc hHeld.1.2.2.1, cell_later bc hHeld.1.2.2.2.1, cell_later bc hHeld.1.2.2.2.2.1, cell_later bc hHeld.1.2.2.2.2.2⟩, Lib.hid ⟨next hHeld.2.out.1 bc, next hHeld.2.out.2 bc⟩⟩
    clear hK K hHeld
    have hHeld := hNew
    clear hNew
    try simp only [Act.put, List.setIfInBounds_toArray, List.set_cons_zero, List.set_cons_succ]
    refine wpAnyH_ready (rs := [3]) (by kernel_rfl) (by simp) ?_
    refine AllReadyH.cons rfl (fun K hK => ?_) (AllReadyH.nil)
    go_simp
    refine (eqsl_at vy vt vf vb _ _ _ _ vP _ T3.out.2 T3.out.1 (by omega)).mono ?_
    rintro en wc ⟨rfl, bc⟩
    go_wp2_with fail
    refine hK.out _ _ ?_ (fun hNew => ?_)
    · exact ⟨⟨⟨cell_later bc hHeld.1.1.1, cell_later bc hHeld.1.1.2.1, cell_later bc hHeld.1.1.2.2.1, cell_later bc hHeld.1.1.2.2.2.1, cell_later bc hHeld.1.1.2.2.2.2⟩, cell_later bc hHeld.1.2.1, cell_later bc hHeld.1.2.2.1, cell_later bc hHeld.1.2.2.2.1, cell_later bc hHeld.1.2.2.2.2.1, cell_later bc hHeld.1.2.2.2.2.2⟩, Lib.hid ⟨next hHeld.2.out.1 bc, next hHeld.2.out.2 bc⟩⟩
    clear hK K hHeld
    have hHeld := hNew
    clear hNew
    try simp only [Act.put, List.setIfInBounds_toArray, List.set_cons_zero, List.set_cons_succ]
    refine takeH (i := 4) (v := ?_) rfl rfl (by kernel_rfl) (by kernel_rfl) (by kernel_rfl) (fun _ _ _ h => h) (by rfl) ?_ (by assumption) ?_
    rotate_left 1
    · intro w hSw
      (try dsimp only at hSw)
      go_simp
      try with_reducible rfl
    try simp only [List.setIfInBounds_toArray, List.set_cons_zero, List.set_cons_succ]
    refine wpAnyH_done (by kernel_rfl) ?_ _
    have HF := Lib.hid (next HB0.out hHeld.2.out.1)
    clear hHeld
    go_wp2_with fail
    go_ret
    exact ⟨rfl, HF.out⟩
end Go.Proofs.YtnnmgbgkgnejlaaDoor
