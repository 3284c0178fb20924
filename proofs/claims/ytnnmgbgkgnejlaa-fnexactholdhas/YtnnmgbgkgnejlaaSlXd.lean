/-
  The exact law of HoldHas: the walk.
-/
import Derived.Test.YtnnmgbgkgnejlaaSlHd
import Derived.Test.YtnnmgbgkgnejlaaSlEa
import Derived.Deep.CutBlock
namespace Go.Proofs.Ytnnmgbgkgnejlaa
open Go.RowKit
set_option linter.unusedSimpArgs false
set_option linter.unusedVariables false

set_option maxRecDepth 100000 in
set_option maxHeartbeats 4000000 in
theorem exactHoldHas_walk (a0 : Option Addr) (n0 cap0 : Nat) (L0 : List HV) (x : Int) (f b : Int) (w : World) (hn0 : n0 = L0.length) (hA0 : HvA w a0 L0) (hl0 : n0 ≤ 9223372036854775807) (_ : (Lit.int .i64 x).wf = true) (_ : (Lit.int .i64 f).wf = true) (_ : (Lit.int .i64 b).wf = true) :
    Calls Try.prog 4 #[.slice a0 n0 cap0, .int .i64 x, .agg #[.int .i64 f, .int .i64 b]] w fun e w' => e = .returned (.bool true) ∧ Below w.heap.size w w' := by
  subst hn0
  obtain ⟨W, hW⟩ : ∃ W, w.alloc (.cells #[.int .i64 f, .int .i64 b] 37) = W := ⟨_, rfl⟩
  have hb : Below w.heap.size w W := by rw [← hW]; exact (Below.refl _ _).alloc (Nat.le_refl _) _
  have HB0 := Lib.hid hb
  have HA := Lib.hid (hA0.below hb)
  have HX := Lib.hid (show W.cell? ⟨w.heap.size, 0, none⟩ = some (.int .i64 f) ∧ W.cell? ⟨w.heap.size, 1, none⟩ = some (.int .i64 b) by rw [← hW]; exact ⟨by simp, by simp⟩)
  clear hA0 hb
  obtain ⟨q0, q1⟩ := HX.out
  by_cases hlc : L0.length ≤ 1048576
  case neg =>
    go_enter Try.func4, Try.ntmps4
    have hz : szN 1048576 L0.length = -1 := by rw [szN, if_pos (by omega)]
    go_wp2_with fail
    refine (szhv_is hz (by omega) (by omega) (by omega) a0 cap0 _).mono ?_
    rintro en w0 ⟨rfl, rfl⟩
    go_wp2_with fail
    go_ret
    exact ⟨rfl, HB0.out⟩
  go_enter Try.func4, Try.ntmps4
  have hz : szN 1048576 L0.length = 1048576 - (L0.length : Int) := by rw [szN, if_neg (by omega)]
  have hz0 : ¬ (1048576 : Int) - (L0.length : Int) < 0 := by omega
  generalize hZ1 : (1048576 : Int) - (L0.length : Int) = Z1 at *
  go_wp2_with fail
  refine (szhv_is hz (by omega) (by omega) (by omega) a0 cap0 _).mono ?_
  rintro en w0 ⟨rfl, rfl⟩
  obtain ⟨z, hzz⟩ : ∃ z, holdsB L0 x f b = z := ⟨_, rfl⟩
  have HZ := Lib.hid hzz
  have HZ2 := Lib.hid (show (okB f b && holdsB L0 x f b) = z by
    rw [← hzz]
    cases ho : okB f b with
    | true => simp
    | false =>
      rw [Bool.false_and]
      symm
      rw [← Bool.not_eq_true, holdsB, List.any_eq_true]
      rintro ⟨v, _, hv⟩
      rw [Bool.and_eq_true] at hv
      have := ((inB_iff _ _ _ _).1 hv.2).1
      rw [ho] at this; cases this)
  have hne : (z != z) = false := by simp
  clear hzz hz
  go_upto_region 5 with fail
  clear q0 q1
  go_cut [8] from 16 (fun v wx => v = .bool z ∧ Hid (Below W.heap.size W wx))
  case first =>
    refine wp_region_held_drew (S := fun Wx => (Wx.cell? ⟨w.heap.size, 0, none⟩ = some (.int .i64 f) ∧ Wx.cell? ⟨w.heap.size, 1, none⟩ = some (.int .i64 b)) ∧ Hid (Below W.heap.size W Wx)) (by kernel_rfl) ?_ (fun hHeld => ?_)
    · exact ⟨HX.out, Lib.hid (Below.refl _ W).drew⟩
    refine takeH (i := 0) (v := ?_) rfl rfl (by kernel_rfl) (by kernel_rfl) (by kernel_rfl) (fun _ _ _ h => h) (by rfl) ?_ (by assumption) ?_
    rotate_left 1
    · intro w hSw
      (try dsimp only at hSw)
      go_simp
      try with_reducible rfl
    try simp only [List.setIfInBounds_toArray, List.set_cons_zero, List.set_cons_succ]
    refine takeH (i := 2) (v := ?_) rfl rfl (by kernel_rfl) (by kernel_rfl) (by kernel_rfl) (fun _ _ _ h => h) (by rfl) ?_ (by assumption) ?_
    rotate_left 1
    · intro w hSw
      (try dsimp only at hSw)
      go_simp
      try with_reducible rfl
    try simp only [List.setIfInBounds_toArray, List.set_cons_zero, List.set_cons_succ]
    refine takeH (i := 3) (v := ?_) rfl rfl (by kernel_rfl) (by kernel_rfl) (by kernel_rfl) (fun _ _ _ h => h) (by rfl) ?_ (by assumption) ?_
    rotate_left 1
    · intro w hSw
      (try dsimp only at hSw)
      go_simp
      try with_reducible rfl
    try simp only [List.setIfInBounds_toArray, List.set_cons_zero, List.set_cons_succ]
    refine wpAnyH_ready (rs := [1]) (by kernel_rfl) (by simp) ?_
    refine AllReadyH.cons rfl (fun K hK => ?_) (AllReadyH.nil)
    go_simp
    refine (thvs_own L0 a0 cap0 _ _ rfl (HA.out.below hHeld.2.out) hlc).mono ?_
    rintro en w1 ⟨rfl, o1, b1⟩
    have T1 := Lib.hid (OwnHv.hva o1)
    clear o1
    go_wp2_with fail
    refine hK.out _ _ ?_ (fun hNew => ?_)
    · exact ⟨⟨cell_later b1 hHeld.1.1, cell_later b1 hHeld.1.2⟩, Lib.hid (next hHeld.2.out b1)⟩
    clear hK K hHeld
    have hHeld := hNew
    clear hNew
    try simp only [Act.put, List.setIfInBounds_toArray, List.set_cons_zero, List.set_cons_succ]
    refine wpAnyH_ready (rs := [4]) (by kernel_rfl) (by simp) ?_
    refine AllReadyH.cons rfl (fun K hK => ?_) (AllReadyH.nil)
    go_simp
    refine (to_any f b _).mono ?_
    rintro en w4 ⟨rfl, b4⟩
    have T2 := Lib.hid (T1.out.below b4)
    go_wp2_with fail
    refine hK.out _ _ ?_ (fun hNew => ?_)
    · exact ⟨⟨cell_later b4 hHeld.1.1, cell_later b4 hHeld.1.2⟩, Lib.hid (next hHeld.2.out b4)⟩
    clear hK K hHeld
    have hHeld := hNew
    clear hNew
    try simp only [Act.put, List.setIfInBounds_toArray, List.set_cons_zero, List.set_cons_succ]
    refine wpAnyH_ready (rs := [5]) (by kernel_rfl) (by simp) ?_
    refine AllReadyH.cons rfl (fun K hK => ?_) (AllReadyH.nil)
    go_simp
    refine (sholdhas_is L0 x f b HZ2.out _ _ _ _ rfl T2.out (by omega)).mono ?_
    rintro en w5 ⟨rfl, b5⟩
    go_wp2_with fail
    refine hK.out _ _ ?_ (fun hNew => ?_)
    · exact ⟨⟨cell_later b5 hHeld.1.1, cell_later b5 hHeld.1.2⟩, Lib.hid (next hHeld.2.out b5)⟩
    clear hK K hHeld
    have hHeld := hNew
    clear hNew
    try simp only [Act.put, List.setIfInBounds_toArray, List.set_cons_zero, List.set_cons_succ]
    refine takeH (i := 6) (v := ?_) rfl rfl (by kernel_rfl) (by kernel_rfl) (by kernel_rfl) (fun _ _ _ h => h) (by rfl) ?_ (by assumption) ?_
    rotate_left 1
    · intro w hSw
      (try dsimp only at hSw)
      go_simp
      try with_reducible rfl
    try simp only [List.setIfInBounds_toArray, List.set_cons_zero, List.set_cons_succ]
    refine wpAnyH_done (by kernel_rfl) ?_ _
    have HF := Lib.hid hHeld.2.out
    clear hHeld
    go_wp2_with fail
    go_meet
    exact ⟨rfl, HF⟩
  case rest =>
    obtain ⟨rfl, HC⟩ := hcut
    obtain ⟨w1, hw1⟩ : ∃ W, W = wc := ⟨_, rfl⟩
    subst hw1
    go_wp2_with fail
    refine (thvs_own L0 a0 cap0 _ _ rfl (HA.out.below HC.out) hlc).mono ?_
    rintro en w2 ⟨rfl, o2, b2⟩
    have H2 := Lib.hid (next HC.out b2)
    have T2 := Lib.hid (OwnHv.hva o2)
    have X2 := Lib.hid (And.intro (cell_later H2.out HX.out.1) (cell_later H2.out HX.out.2))
    clear o2 b2
    obtain ⟨q0, q1⟩ := X2.out
    go_wp2_with fail
    refine (to_any f b _).mono ?_
    rintro en w3 ⟨rfl, b3⟩
    have H3 := Lib.hid (next H2.out b3)
    have T3 := Lib.hid (T2.out.below b3)
    clear b3 q0 q1
    go_wp2_with fail
    refine (iholdhas_is L0 x f b HZ.out _ _ _ _ rfl T3.out (by omega)).mono ?_
    rintro en w4 ⟨rfl, b4⟩
    have H4 := Lib.hid (next H3.out b4)
    have T4 := Lib.hid (T3.out.below b4)
    clear b4
    go_wp2_with fail
    refine (thvs_own L0 a0 cap0 _ _ rfl (HA.out.below H4.out) hlc).mono ?_
    rintro en w5 ⟨rfl, o5, b5⟩
    have H5 := Lib.hid (next H4.out b5)
    have T5 := Lib.hid (T4.out.below b5)
    have U5 := Lib.hid (OwnHv.hva o5)
    clear o5 b5
    go_wp2_with fail
    refine (eqhvs_is L0 _ _ _ _ _ _ _ rfl rfl T5.out U5.out (by omega)).mono ?_
    rintro en w6 ⟨rfl, b6⟩
    have H6 := Lib.hid (next HB0.out (next H5.out b6))
    clear b6
    go_wp2_with fail
    go_ret
    exact ⟨rfl, H6.out⟩
end Go.Proofs.Ytnnmgbgkgnejlaa
