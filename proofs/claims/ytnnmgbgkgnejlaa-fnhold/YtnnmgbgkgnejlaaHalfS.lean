/-
  Halves by the model.
-/
import Derived.Test.YtnnmgbgkgnejlaaJ1
namespace Go.Proofs.Ytnnmgbgkgnejlaa
open Go.RowKit
set_option linter.unusedSimpArgs false

/-- the first address of a half -/
def halfF (f b : Int) (u : Bool) : Int := if u then f + sz (b + 1) else f
/-- whether a range has halves -/
def halfB (f b : Int) : Bool := okB f b && decide (b < 8)
theorem halfB_iff (f b : Int) : halfB f b = true ↔ okB f b = true ∧ b < 8 := by simp [halfB]
/-- what RangeHalf answers -/
def halfV (f b : Int) (u : Bool) : Value := if halfB f b then .tuple #[.agg #[.int .i64 (halfF f b u), .int .i64 (b + 1)], .bool true] else .tuple #[.agg #[.int .i64 0, .int .i64 0], .bool false]

def So (w : World) (X R O : Nat) (f b : Int) (w' : World) : Prop := At w' X f b ∧ (∃ u v, At w' R u v) ∧ (∃ u, At w' O u (b + 1)) ∧ Below w.heap.size w w'
theorem So.put0 {w W : World} {X R O : Nat} {f b : Int} (h : So w X R O f b W) (hX : O ≠ X) (hR : O ≠ R) (hw : w.heap.size ≤ O) (x : Int) : So w X R O f b (W.setCell ⟨O, 0, none⟩ (.int .i64 x)) :=
  ⟨h.1.far _ _ hX, by obtain ⟨u, v, k⟩ := h.2.1; exact ⟨u, v, k.far _ _ hR⟩, by obtain ⟨u, k⟩ := h.2.2.1; exact ⟨x, k.put0 x⟩, h.2.2.2.setCell (p := ⟨O, 0, none⟩) hw _⟩

set_option maxHeartbeats 400000 in
theorem shalf_no (f b : Int) (u : Bool) (w : World) (hn : halfB f b = false) :
    Calls Try.prog 18 #[.agg #[.int .i64 f, .int .i64 b], .bool u] w fun e w' => e = .returned (.tuple #[.agg #[.int .i64 0, .int .i64 0], .bool false]) ∧ Below w.heap.size w w' := by
  have rx := (At.new w f b 25).alloc (.cells #[.int .i64 0, .int .i64 0] 25)
  have rr := At.new (w.alloc (.cells #[.int .i64 f, .int .i64 b] 25)) 0 0 25
  have B0 := alloc2 w (.cells #[.int .i64 f, .int .i64 b] 25) (.cells #[.int .i64 0, .int .i64 0] 25)
  simp only [World.size_alloc] at rr
  by_cases ho : okB f b = true
  · have hb8 : (b == 8) = true := by
      obtain ⟨_, h8, _⟩ := (okB_iff f b).1 ho
      have : ¬ b < 8 := fun h => by rw [(halfB_iff f b).2 ⟨ho, h⟩] at hn; cases hn
      simp; omega
    clear hn
    go_enter Try.func18, Try.ntmps18
    go_wp2_with fail
    refine (sok_is ho _).mono ?_
    rintro e w1 ⟨rfl, hb1⟩
    replace rx := rx.below hb1
    replace rr := rr.below hb1
    have B1 := next B0 hb1
    obtain ⟨c0, c1, _, _⟩ := id rx
    obtain ⟨k0, k1, g0, g1⟩ := id rr
    have r2 := rr.put 0 0
    have B2 := below_set2 B1 (.int .i64 0) (.int .i64 0) (show w.heap.size ≤ w.heap.size + 1 by omega)
    clear hb1 B0 B1
    go_wp2
    obtain ⟨d0, d1, _, _⟩ := r2
    exact bodyPost_ret (v := .tuple #[.agg #[.int .i64 0, .int .i64 0], .bool false]) (by simp [results, Try.results18, go_sem, d0, d1]) rfl ⟨rfl, B2⟩
  · have ho' : okB f b = false := by simpa using ho
    clear ho hn
    go_enter Try.func18, Try.ntmps18
    go_wp2_with fail
    refine (sok_is ho' _).mono ?_
    rintro e w1 ⟨rfl, hb1⟩
    replace rr := rr.below hb1
    have B1 := next B0 hb1
    obtain ⟨k0, k1, g0, g1⟩ := id rr
    have r2 := rr.put 0 0
    have B2 := below_set2 B1 (.int .i64 0) (.int .i64 0) (show w.heap.size ≤ w.heap.size + 1 by omega)
    clear hb1 B0 B1 rx
    go_wp2
    obtain ⟨d0, d1, _, _⟩ := r2
    exact bodyPost_ret (v := .tuple #[.agg #[.int .i64 0, .int .i64 0], .bool false]) (by simp [results, Try.results18, go_sem, d0, d1]) rfl ⟨rfl, B2⟩

set_option maxHeartbeats 800000 in
theorem shalf_yes (f b : Int) (u : Bool) (w : World) (hn : halfB f b = true) :
    Calls Try.prog 18 #[.agg #[.int .i64 f, .int .i64 b], .bool u] w fun e w' => e = .returned (.tuple #[.agg #[.int .i64 (halfF f b u), .int .i64 (b + 1)], .bool true]) ∧ Below w.heap.size w w' := by
  have rx := (At.new w f b 25).alloc (.cells #[.int .i64 0, .int .i64 0] 25)
  have rr := At.new (w.alloc (.cells #[.int .i64 f, .int .i64 b] 25)) 0 0 25
  have B0 := alloc2 w (.cells #[.int .i64 f, .int .i64 b] 25) (.cells #[.int .i64 0, .int .i64 0] 25)
  simp only [World.size_alloc] at rr
  obtain ⟨ho, hlt⟩ := (halfB_iff f b).1 hn
  obtain ⟨b0, b8, f0, f1, hm⟩ := (okB_iff f b).1 ho
  have hb8 : (b == 8) = false := by simp; omega
  clear hn hm
  go_enter Try.func18, Try.ntmps18
  go_wp2_with fail
  refine (sok_is ho _).mono ?_
  rintro e w1 ⟨rfl, hb1⟩
  replace rx := rx.below hb1
  replace rr := rr.below hb1
  have B1 := next B0 hb1
  have hz := rr.lt
  clear hb1 B0
  obtain ⟨c0, c1, _, _⟩ := id rx
  obtain ⟨k0, k1, g0, g1⟩ := id rr
  have ry := At.new w1 f (b + 1) 25
  replace rx := rx.alloc (.cells #[.int .i64 f, .int .i64 (b + 1)] 25)
  replace rr := rr.alloc (.cells #[.int .i64 f, .int .i64 (b + 1)] 25)
  have B2 := B1.alloc B1.size (.cells #[.int .i64 f, .int .i64 (b + 1)] 25)
  cases u with
  | false =>
    have r3 := (At.put ⟨k0, k1, g0, g1⟩ f (b + 1)).alloc (.cells #[.int .i64 f, .int .i64 (b + 1)] 25)
    have B3 := (below_set2 B1 (.int .i64 f) (.int .i64 (b + 1)) (show w.heap.size ≤ w.heap.size + 1 by omega)).alloc (by simp [World.setCell]; omega) (.cells #[.int .i64 f, .int .i64 (b + 1)] 25)
    go_wp2
    obtain ⟨d0, d1, _, _⟩ := r3
    exact bodyPost_ret (v := .tuple #[.agg #[.int .i64 f, .int .i64 (b + 1)], .bool true]) (by simp [results, Try.results18, go_sem, d0, d1]) rfl ⟨rfl, B3⟩
  | true =>
    obtain ⟨s1, s2⟩ := sz_bd (b := b + 1) (by omega) (by omega)
    have hw : IntKind.i64.wrap (f + sz (b + 1)) = f + sz (b + 1) := IntWalk.i64_in _ (by omega)
    go_wp2_with fail
    generalize w1.alloc (.cells #[.int .i64 f, .int .i64 (b + 1)] 25) = W2 at *
    generalize w1.heap.size = O at *
    have HO := Lib.hid (show So w w.heap.size (w.heap.size + 1) O f b W2.drew from ⟨rx.drew, ⟨_, _, rr.drew⟩, ⟨_, ry.drew⟩, B2.drew⟩)
    clear rx rr ry B2 c0 c1 k0 k1 g0 g1 B1
    refine wp_region_held_drew (S := fun w' => w'.cell? ⟨w.heap.size, 0, none⟩ = some (.int .i64 f) ∧ w'.cell? ⟨O, 1, none⟩ = some (.int .i64 (b + 1)) ∧ So w w.heap.size (w.heap.size + 1) O f b w') (by kernel_rfl) ?_ (fun hHeld => ?_)
    · exact ⟨HO.out.1.1, HO.out.2.2.1.elim fun _ k => k.2.1, HO.out⟩
    refine takeH (i := 0) (v := ?_) rfl rfl (by kernel_rfl) (by kernel_rfl) (by kernel_rfl) (fun _ _ _ h => h) (by rfl) ?_ (by assumption) ?_
    rotate_left 1
    · intro w hSw
      (try dsimp only at hSw)
      go_simp
      try with_reducible rfl
    try simp only [List.setIfInBounds_toArray, List.set_cons_zero, List.set_cons_succ]
    refine takeH (i := 1) (v := ?_) rfl rfl (by kernel_rfl) (by kernel_rfl) (by kernel_rfl) (fun _ _ _ h => h) (by rfl) ?_ (by assumption) ?_
    rotate_left 1
    · intro w hSw
      (try dsimp only at hSw)
      go_simp
      try with_reducible rfl
    try simp only [List.setIfInBounds_toArray, List.set_cons_zero, List.set_cons_succ]
    refine takeH (i := 2) (v := ?_) rfl rfl (by kernel_rfl) (by kernel_rfl) (by kernel_rfl) (fun _ _ _ h => h) (by rfl) ?_ (by assumption) ?_
    rotate_left 1
    · intro w hSw
      (try dsimp only at hSw)
      go_simp
      try with_reducible rfl
    try simp only [List.setIfInBounds_toArray, List.set_cons_zero, List.set_cons_succ]
    refine takeH (i := 3) (v := ?_) rfl rfl (by kernel_rfl) (by kernel_rfl) (by kernel_rfl) (fun _ _ _ h => h) (by rfl) ?_ (by assumption) ?_
    rotate_left 1
    · intro w hSw
      (try dsimp only at hSw)
      go_simp
      try with_reducible rfl
    try simp only [List.setIfInBounds_toArray, List.set_cons_zero, List.set_cons_succ]
    refine wpAnyH_ready (rs := [4]) (by kernel_rfl) (by simp) ?_
    refine AllReadyH.cons rfl (fun K hK => ?_) (AllReadyH.nil)
    go_simp
    refine (size_any (b + 1) _ (by omega) (by omega)).mono ?_
    rintro e w5 ⟨rfl, rfl⟩
    go_wp2_with fail
    refine hK.out _ _ ?_ (fun hNew => ?_)
    · exact hHeld
    clear hK K hHeld
    have hHeld := hNew
    clear hNew
    try simp only [Act.put, List.setIfInBounds_toArray, List.set_cons_zero, List.set_cons_succ]
    refine takeH (i := 5) (v := ?_) rfl rfl (by kernel_rfl) (by kernel_rfl) (by kernel_rfl) (fun _ _ _ h => h) (by rfl) ?_ (by assumption) ?_
    rotate_left 1
    · intro w hSw
      (try dsimp only at hSw)
      go_simp
      try with_reducible rfl
    try simp only [List.setIfInBounds_toArray, List.set_cons_zero, List.set_cons_succ]
    refine takeH (i := 6) (v := ?_) rfl rfl (by kernel_rfl) (by kernel_rfl) (by kernel_rfl) (fun _ _ _ h => h) (by rfl) ?_ (by assumption) ?_
    rotate_left 1
    · intro w hSw
      (try dsimp only at hSw)
      go_simp
      try with_reducible rfl
    try simp only [List.setIfInBounds_toArray, List.set_cons_zero, List.set_cons_succ]
    refine wpAnyH_ready (rs := [7]) (by kernel_rfl) (by simp) ?_
    refine AllReadyH.cons rfl (fun K hK => ?_) (AllReadyH.nil)
    obtain ⟨u, ru⟩ := hHeld.2.2.2.2.1
    obtain ⟨cu, cv, fu, fv⟩ := id ru
    go_simp
    refine hK.out _ _ ?_ (fun hNew => ?_)
    · exact ⟨(hHeld.2.2.put0 (by omega) (by omega) (by omega) _).1.1, (hHeld.2.2.put0 (by omega) (by omega) (by omega) (f + sz (b + 1))).2.2.1.elim fun _ k => k.2.1, hHeld.2.2.put0 (by omega) (by omega) (by omega) _⟩
    clear hK K hHeld
    have hHeld := hNew
    clear hNew
    try simp only [Act.put, List.setIfInBounds_toArray, List.set_cons_zero, List.set_cons_succ]
    refine wpAnyH_done (by kernel_rfl) ?_ _
    have ry : At (W2.setCell ⟨O, 0, none⟩ (.int .i64 (f + sz (b + 1)))).drew O (f + sz (b + 1)) (b + 1) := ru.put0 (f + sz (b + 1))
    obtain ⟨_, _, hO⟩ := hHeld
    obtain ⟨_, ⟨u', v', rr⟩, _, B3⟩ := hO
    clear cu cv fu fv ru HO
    generalize (W2.setCell ⟨O, 0, none⟩ (.int .i64 (f + sz (b + 1)))).drew = W3 at *
    obtain ⟨k0, k1, g0, g1⟩ := id rr
    obtain ⟨y0, y1, _, _⟩ := id ry
    have r4 := rr.put (f + sz (b + 1)) (b + 1)
    have B4 := below_set2 B3 (.int .i64 (f + sz (b + 1))) (.int .i64 (b + 1)) (show w.heap.size ≤ w.heap.size + 1 by omega)
    go_wp2
    obtain ⟨d0, d1, _, _⟩ := r4
    exact bodyPost_ret (v := .tuple #[.agg #[.int .i64 (f + sz (b + 1)), .int .i64 (b + 1)], .bool true]) (by simp [results, Try.results18, go_sem, d0, d1]) rfl ⟨rfl, B4⟩

end Go.Proofs.Ytnnmgbgkgnejlaa
