/-
  The iterator of halves, where there are two.
-/
import Derived.Test.YtnnmgbgkgnejlaaIter
namespace Go.Proofs.Ytnnmgbgkgnejlaa
open Go.RowKit Go.Shelf
set_option linter.unusedSimpArgs false
attribute [local go_sem] Oper.semAt_some

/-- while the halves are made: X: the range, L: its lower half -/
def Hv (W0 : World) (X L : Nat) (f b : Int) (w' : World) : Prop := At w' X f b ∧ At w' L f (b + 1) ∧ W0.grownBy w' none
theorem Hv.drew {W0 : World} {X L : Nat} {f b : Int} {w' : World} (h : Hv W0 X L f b w') : Hv W0 X L f b w'.drew := ⟨h.1.drew, h.2.1.drew, only_drew h.2.2⟩
theorem Hv.alloc {W0 : World} {X L : Nat} {f b : Int} {w' : World} (h : Hv W0 X L f b w') (o : Obj) : Hv W0 X L f b (w'.alloc o) := ⟨h.1.alloc o, h.2.1.alloc o, only_alloc h.2.2 o⟩
theorem Hv.below {W0 : World} {X L : Nat} {f b : Int} {w' w1 : World} (h : Hv W0 X L f b w') (k : Below w'.heap.size w' w1) : Hv W0 X L f b w1 := ⟨h.1.below k, h.2.1.below k, only_below h.2.2 k⟩
theorem Hv.else {W0 : World} {X L U : Nat} {f b : Int} {w' : World} (h : Hv W0 X L f b w') (hX : U ≠ X) (hL : U ≠ L) (hU : W0.heap.size ≤ U) (u v : Value) : Hv W0 X L f b ((w'.setCell ⟨U, 0, none⟩ u).setCell ⟨U, 1, none⟩ v) :=
  ⟨h.1.far2 _ _ hX, h.2.1.far2 _ _ hL, only_set2 h.2.2 _ _ hU⟩
theorem Hv.sv {W0 : World} {X L : Nat} {f b : Int} {w' : World} (h : Hv W0 X L f b w') : w'.cell? ⟨X, 0, none⟩ = some (.int .i64 f) ∧ w'.cell? ⟨X, 1, none⟩ = some (.int .i64 b) ∧ w'.cell? ⟨L, 0, none⟩ = some (.int .i64 f) ∧ w'.cell? ⟨L, 1, none⟩ = some (.int .i64 (b + 1)) ∧ Hv W0 X L f b w' :=
  ⟨h.1.1, h.1.2.1, h.2.1.1, h.2.1.2.1, h⟩

set_option maxRecDepth 100000 in
set_option maxHeartbeats 2000000 in
theorem halves1_yes (n l Bn : Nat) (f b : Int) (J Jx : List (Bool × Int × Int) → World → Prop) (W : World) (hJ : AbidesFrom W.heap.size J)
    (hY : ∀ pre x W1, J pre W1 → pre.length < 2 → YieldAt Fence.wide (n - 1) Try.prog l (encH x) W1 fun e W' =>
      (e = .returned (.bool true) ∧ J (pre ++ [x]) W' ∧ CK W1 W') ∨ (e = .returned (.bool false) ∧ Jx (pre ++ [x]) W'))
    (r0 : At W Bn f b) (hn : halfB f b = true) (h0 : J [] W) :
    CallsIn Fence.wide n Try.prog 33 #[.func (.yield l) #[] #[], .pointer (some ⟨Bn, 0, none⟩)] W fun e W' => (∃ v, e = .returned v) ∧
      ((∃ ys, ys = halvesL f b ∧ J ys W') ∨ (∃ pre, (halfB f b = true ∧ (pre = [(false, f, b + 1)] ∨ pre = [(false, f, b + 1), (true, f + sz (b + 1), b + 1)])) ∧ Jx pre W')) := by
  have hl : halvesL f b = [(false, f, b + 1), (true, f + sz (b + 1), b + 1)] := by simp [halvesL, hn]
  rw [hl]
  clear hl
  obtain ⟨ho, hlt⟩ := (halfB_iff f b).1 hn
  obtain ⟨b0, b8, f0, f1, hm⟩ := (okB_iff f b).1 ho
  have hb8 : (b == 8) = false := by simp; omega
  have HN := Lib.hid hn
  clear hn hm
  obtain ⟨s1, s2⟩ := sz_bd (b := b + 1) (by omega) (by omega)
  have hw : IntKind.i64.wrap (f + sz (b + 1)) = f + sz (b + 1) := IntWalk.i64_in _ (by omega)
  have hw2 : IntKind.i64.wrap (b + 1) = b + 1 := IntWalk.i64_in _ (by omega)
  obtain ⟨c0, c1, _, _⟩ := id r0
  have HJ := Lib.hid hJ
  have H0 := Lib.hid h0
  have HY := Lib.hid hY
  clear hJ h0 hY
  refine callsIn_of_wp Try.func33 rfl trivial ?_ rfl
  simp only [Try.ntmps33, List.size_toArray, List.length_cons, List.length_nil, Nat.reduceAdd, Nat.reduceSub, Array.replicate_succ, Array.replicate_zero, List.push_toArray, List.append_toArray, List.nil_append, List.cons_append]
  gi_wp2_with fail
  refine ⟨trivial, fun h => (by cases h), (callsIn_wide.2 (iok_is ho _)).mono ?_⟩
  rintro e w1 ⟨rfl, hb1⟩
  have r1 := r0.below hb1
  have G1 : W.grownBy w1 none := only_below (World.grownBy.refl _ _) hb1
  clear c0 c1 r0 hb1
  obtain ⟨c0, c1, _, _⟩ := id r1
  gi_wp2_with fail
  have rL := At.new w1 f (b + 1) 25
  have r2 := r1.alloc (.cells #[.int .i64 f, .int .i64 (b + 1)] 25)
  have G2 := only_alloc G1 (.cells #[.int .i64 f, .int .i64 (b + 1)] 25)
  clear c0 c1 r1 G1
  generalize w1.alloc (.cells #[.int .i64 f, .int .i64 (b + 1)] 25) = W2 at *
  generalize w1.heap.size = L at *
  have HI := Lib.hid (show Hv W Bn L f b W2.drew from Hv.drew ⟨r2, rL, G2⟩)
  clear r2 rL G2
  refine wpIn_wide.2 ?_
  refine wp_region_held_drew (S := fun w' => w'.cell? ⟨Bn, 0, none⟩ = some (.int .i64 f) ∧ w'.cell? ⟨Bn, 1, none⟩ = some (.int .i64 b) ∧ w'.cell? ⟨L, 0, none⟩ = some (.int .i64 f) ∧ w'.cell? ⟨L, 1, none⟩ = some (.int .i64 (b + 1)) ∧ Hv W Bn L f b w') (by kernel_rfl) ?_ (fun hHeld => ?_)
  · exact HI.out.sv
  refine takeH (i := 0) (v := ?_) rfl rfl (by kernel_rfl) (by kernel_rfl) (by kernel_rfl) (fun _ _ _ h => h) (by rfl) ?_ (by assumption) ?_
  rotate_left 1
  · intro w hSw
    (try dsimp only at hSw)
    go_simp
    try with_reducible rfl
  try simp only [List.setIfInBounds_toArray, List.set_cons_zero, List.set_cons_succ]
  refine takeH (i := 1) (v := ?_) rfl rfl (by kernel_rfl) (by kernel_rfl) (by kernel_rfl) (fun _ _ _ h => h) (by rfl) ?_ (by assumption) ?_
  rotate_left 1
  · intro w hSw
    (try dsimp only at hSw)
    go_simp
    try with_reducible rfl
  try simp only [List.setIfInBounds_toArray, List.set_cons_zero, List.set_cons_succ]
  refine takeH (i := 2) (v := ?_) rfl rfl (by kernel_rfl) (by kernel_rfl) (by kernel_rfl) (fun _ _ _ h => h) (by rfl) ?_ (by assumption) ?_
  rotate_left 1
  · intro w hSw
    (try dsimp only at hSw)
    go_simp
    try with_reducible rfl
  try simp only [List.setIfInBounds_toArray, List.set_cons_zero, List.set_cons_succ]
  refine takeH (i := 5) (v := ?_) rfl rfl (by kernel_rfl) (by kernel_rfl) (by kernel_rfl) (fun _ _ _ h => h) (by rfl) ?_ (by assumption) ?_
  rotate_left 1
  · intro w hSw
    (try dsimp only at hSw)
    go_simp
    try with_reducible rfl
  try simp only [List.setIfInBounds_toArray, List.set_cons_zero, List.set_cons_succ]
  refine takeH (i := 6) (v := ?_) rfl rfl (by kernel_rfl) (by kernel_rfl) (by kernel_rfl) (fun _ _ _ h => h) (by rfl) ?_ (by assumption) ?_
  rotate_left 1
  · intro w hSw
    (try dsimp only at hSw)
    go_simp
    try with_reducible rfl
  try simp only [List.setIfInBounds_toArray, List.set_cons_zero, List.set_cons_succ]
  refine takeH (i := 7) (v := ?_) rfl rfl (by kernel_rfl) (by kernel_rfl) (by kernel_rfl) (fun _ _ _ h => h) (by rfl) ?_ (by assumption) ?_
  rotate_left 1
  · intro w hSw
    (try dsimp only at hSw)
    go_simp
    try with_reducible rfl
  try simp only [List.setIfInBounds_toArray, List.set_cons_zero, List.set_cons_succ]
  refine wpAnyH_ready (rs := [3, 9]) (by kernel_rfl) (by simp) ?_
  refine AllReadyH.cons rfl (fun K hK => ?_) (AllReadyH.cons rfl (fun K hK => ?_) (AllReadyH.nil))
  · go_simp
    refine (isize_any f (b + 1) _ (by omega) (by omega)).mono ?_
    rintro e w5 ⟨rfl, hb5⟩
    go_wp2_with fail
    refine hK.out _ _ ?_ (fun hNew => ?_)
    · exact (hHeld.2.2.2.2.below hb5).sv
    clear hK K hHeld
    have hHeld := hNew
    clear hNew
    try simp only [Act.put, List.setIfInBounds_toArray, List.set_cons_zero, List.set_cons_succ]
    refine takeH (i := 4) (v := ?_) rfl rfl (by kernel_rfl) (by kernel_rfl) (by kernel_rfl) (fun _ _ _ h => h) (by rfl) ?_ (by assumption) ?_
    rotate_left 1
    · intro w hSw
      (try dsimp only at hSw)
      go_simp
      try with_reducible rfl
    try simp only [List.setIfInBounds_toArray, List.set_cons_zero, List.set_cons_succ]
    refine takeH (i := 8) (v := ?_) rfl rfl (by kernel_rfl) (by kernel_rfl) (by kernel_rfl) (fun _ _ _ h => h) (by rfl) ?_ (by assumption) ?_
    rotate_left 1
    · intro w hSw
      (try dsimp only at hSw)
      go_simp
      try with_reducible rfl
    try simp only [List.setIfInBounds_toArray, List.set_cons_zero, List.set_cons_succ]
    refine wpAnyH_ready (rs := [9]) (by kernel_rfl) (by simp) ?_
    refine AllReadyH.cons rfl (fun K hK => ?_) (AllReadyH.nil)
    have hOld := Lib.hid hHeld
    go_simp
    refine hK.out _ _ ?_ (fun hNew => ?_)
    · exact (hHeld.2.2.2.2.alloc _).sv
    clear hK K hHeld
    have hHeld := hNew
    clear hNew
    try simp only [Act.put, List.setIfInBounds_toArray, List.set_cons_zero, List.set_cons_succ]
    refine wpAnyH_ready (rs := [10]) (by kernel_rfl) (by simp) ?_
    refine AllReadyH.cons rfl (fun K hK => ?_) (AllReadyH.nil)
    go_simp
    refine hK.out _ _ ?_ (fun hNew => ?_)
    · exact (hOld.out.2.2.2.2.alloc _).sv
    clear hK K hHeld
    have hHeld := hNew
    clear hNew
    try simp only [Act.put, List.setIfInBounds_toArray, List.set_cons_zero, List.set_cons_succ]
    refine wpAnyH_done (by kernel_rfl) ?_ _
    have rU := At.new w5 (f + sz (b + 1)) (b + 1) 25
    obtain ⟨rX, rL, G9⟩ := hHeld.2.2.2.2
    clear hHeld hOld HI
    generalize w5.alloc (.cells #[.int .i64 (f + sz (b + 1)), .int .i64 (b + 1)] 25) = W9 at *
    generalize w5.heap.size = U at *
    have hJf := HJ.out [] W W9 none H0.out G9 (fun r e => by cases e)
    obtain ⟨y0, y1, _, _⟩ := id rL
    obtain ⟨fn, tmps, assign, body, hy, hR⟩ := HY.out [] (false, f, b + 1) W9 hJf (by simp)
    simp only [encH] at hy
    have HRd := Lib.hid hR
    clear hR
    gi_wp2
    refine ⟨fun h => (by cases h), HRd.out.mono ?_⟩
    rintro e W4 (⟨rfl, hJ4, hk4⟩ | ⟨rfl, hJx4⟩)
    · have u0 := hk4 U 0 _ rU.1
      have u1 := hk4 U 1 _ rU.2.1
      clear hy HRd fn tmps assign body y0 y1
      obtain ⟨fn, tmps, assign, body, hy, hR⟩ := HY.out _ (true, f + sz (b + 1), b + 1) W4 hJ4 (by simp)
      simp only [encH] at hy
      have HRd := Lib.hid hR
      clear hR
      gi_wp2
      refine ⟨fun h => (by cases h), HRd.out.mono ?_⟩
      rintro e W5 (⟨rfl, hJ5, hk5⟩ | ⟨rfl, hJx5⟩)
      · gi_wp2
        go_end0
        exact ⟨⟨_, rfl⟩, .inl ⟨_, rfl, hJ5⟩⟩
      · gi_wp2
        go_end0
        exact ⟨⟨_, rfl⟩, .inr ⟨_, ⟨HN.out, .inr rfl⟩, hJx5⟩⟩
    · gi_wp2
      go_end0
      exact ⟨⟨_, rfl⟩, .inr ⟨_, ⟨HN.out, .inl rfl⟩, hJx4⟩⟩
  · go_simp
    have rU : At (W2.alloc (.cells #[.int .i64 0, .int .i64 0] 25)).drew W2.heap.size 0 0 := At.new W2 0 0 25
    have hHo : Hv W Bn L f b (W2.alloc (.cells #[.int .i64 0, .int .i64 0] 25)).drew := HI.out.alloc _
    have lX : Bn < W2.heap.size := HI.out.1.lt
    have lL : L < W2.heap.size := HI.out.2.1.lt
    have lW : W.heap.size ≤ W2.heap.size := HI.out.2.2.size
    generalize (W2.alloc (.cells #[.int .i64 0, .int .i64 0] 25)).drew = Wx at *
    generalize W2.heap.size = U at *
    refine hK.out _ _ ?_ (fun hNew => ?_)
    · exact hHo.sv
    clear hK K hHeld
    have hHeld := hNew
    clear hNew
    try simp only [Act.put, List.setIfInBounds_toArray, List.set_cons_zero, List.set_cons_succ]
    refine wpAnyH_ready (rs := [3]) (by kernel_rfl) (by simp) ?_
    refine AllReadyH.cons rfl (fun K hK => ?_) (AllReadyH.nil)
    go_simp
    refine (isize_any f (b + 1) _ (by omega) (by omega)).mono ?_
    rintro e w5 ⟨rfl, hb5⟩
    replace rU := rU.below hb5
    go_wp2_with fail
    refine hK.out _ _ ?_ (fun hNew => ?_)
    · exact (hHeld.2.2.2.2.below hb5).sv
    clear hK K hHeld
    have hHeld := hNew
    clear hNew
    try simp only [Act.put, List.setIfInBounds_toArray, List.set_cons_zero, List.set_cons_succ]
    refine takeH (i := 4) (v := ?_) rfl rfl (by kernel_rfl) (by kernel_rfl) (by kernel_rfl) (fun _ _ _ h => h) (by rfl) ?_ (by assumption) ?_
    rotate_left 1
    · intro w hSw
      (try dsimp only at hSw)
      go_simp
      try with_reducible rfl
    try simp only [List.setIfInBounds_toArray, List.set_cons_zero, List.set_cons_succ]
    refine takeH (i := 8) (v := ?_) rfl rfl (by kernel_rfl) (by kernel_rfl) (by kernel_rfl) (fun _ _ _ h => h) (by rfl) ?_ (by assumption) ?_
    rotate_left 1
    · intro w hSw
      (try dsimp only at hSw)
      go_simp
      try with_reducible rfl
    try simp only [List.setIfInBounds_toArray, List.set_cons_zero, List.set_cons_succ]
    refine wpAnyH_ready (rs := [10]) (by kernel_rfl) (by simp) ?_
    refine AllReadyH.cons rfl (fun K hK => ?_) (AllReadyH.nil)
    obtain ⟨u0, u1, u2, u3⟩ := id rU
    go_simp
    refine hK.out _ _ ?_ (fun hNew => ?_)
    · exact (hHeld.2.2.2.2.else (by omega) (by omega) (by omega) _ _).sv
    clear hK K hHeld
    have hHeld := hNew
    clear hNew
    try simp only [Act.put, List.setIfInBounds_toArray, List.set_cons_zero, List.set_cons_succ]
    refine wpAnyH_done (by kernel_rfl) ?_ _
    replace rU := rU.put (f + sz (b + 1)) (b + 1)
    obtain ⟨rX, rL, G9⟩ := hHeld.2.2.2.2
    clear hHeld HI u0 u1 u2 u3
    generalize (w5.setCell ⟨U, 0, none⟩ (.int .i64 (f + sz (b + 1)))).setCell ⟨U, 1, none⟩ (.int .i64 (b + 1)) = W9 at *
    have hJf := HJ.out [] W W9 none H0.out G9 (fun r e => by cases e)
    obtain ⟨y0, y1, _, _⟩ := id rL
    obtain ⟨fn, tmps, assign, body, hy, hR⟩ := HY.out [] (false, f, b + 1) W9 hJf (by simp)
    simp only [encH] at hy
    have HRd := Lib.hid hR
    clear hR
    gi_wp2
    refine ⟨fun h => (by cases h), HRd.out.mono ?_⟩
    rintro e W4 (⟨rfl, hJ4, hk4⟩ | ⟨rfl, hJx4⟩)
    · have u0 := hk4 U 0 _ rU.1
      have u1 := hk4 U 1 _ rU.2.1
      clear hy HRd fn tmps assign body y0 y1
      obtain ⟨fn, tmps, assign, body, hy, hR⟩ := HY.out _ (true, f + sz (b + 1), b + 1) W4 hJ4 (by simp)
      simp only [encH] at hy
      have HRd := Lib.hid hR
      clear hR
      gi_wp2
      refine ⟨fun h => (by cases h), HRd.out.mono ?_⟩
      rintro e W5 (⟨rfl, hJ5, hk5⟩ | ⟨rfl, hJx5⟩)
      · gi_wp2
        go_end0
        exact ⟨⟨_, rfl⟩, .inl ⟨_, rfl, hJ5⟩⟩
      · gi_wp2
        go_end0
        exact ⟨⟨_, rfl⟩, .inr ⟨_, ⟨HN.out, .inr rfl⟩, hJx5⟩⟩
    · gi_wp2
      go_end0
      exact ⟨⟨_, rfl⟩, .inr ⟨_, ⟨HN.out, .inl rfl⟩, hJx4⟩⟩
end Go.Proofs.Ytnnmgbgkgnejlaa
