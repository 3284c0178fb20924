/-
  A drawn range and an address.
-/
import Derived.Test.YtglmoacgaacmeaaDrawS
namespace Go.Proofs.Ytglmoacgaacmeaa
open Go.RowKit
set_option linter.unusedSimpArgs false

/-- while an address is drawn: X: the range, R: where the result lies -/
def Sd (w : World) (X R : Nat) (f b : Int) (w' : World) : Prop := At w' X f b ∧ (∃ u v, At w' R u v) ∧ Below w.heap.size w w'
theorem Sd.drew {w : World} {X R : Nat} {f b : Int} {w' : World} (h : Sd w X R f b w') : Sd w X R f b w'.drew :=
  ⟨h.1.drew, by obtain ⟨u, v, k⟩ := h.2.1; exact ⟨u, v, k.drew⟩, h.2.2.drew⟩
theorem Sd.pick {w W w' : World} {X R B : Nat} {f b : Int} (h : Sd w X R f b W) (hg : W.grownBy w' (some B)) (hX : X ≠ B) (hR : R ≠ B) (hB : w.heap.size ≤ B) : Sd w X R f b w' :=
  ⟨h.1.only hg hX, by obtain ⟨u, v, k⟩ := h.2.1; exact ⟨u, v, k.only hg hR⟩, below_only h.2.2 hg h.2.2.size hB⟩
theorem Sd.put {w W : World} {X R : Nat} {f b : Int} (h : Sd w X R f b W) (hX : R ≠ X) (hR : w.heap.size ≤ R) (u v : Int) : Sd w X R f b ((W.setCell ⟨R, 0, none⟩ (.int .i64 u)).setCell ⟨R, 1, none⟩ (.int .i64 v)) :=
  ⟨h.1.far2 _ _ hX, by obtain ⟨u', v', k⟩ := h.2.1; exact ⟨u, v, k.put u v⟩, below_set2 h.2.2 _ _ hR⟩
/-- the same, its range's cells in sight -/
def Sv (w : World) (X R : Nat) (f b : Int) (w' : World) : Prop := w'.cell? ⟨X, 0, none⟩ = some (.int .i64 f) ∧ w'.cell? ⟨X, 1, none⟩ = some (.int .i64 b) ∧ Sd w X R f b w'
theorem Sd.sv {w : World} {X R : Nat} {f b : Int} {w' : World} (h : Sd w X R f b w') : w'.cell? ⟨X, 0, none⟩ = some (.int .i64 f) ∧ w'.cell? ⟨X, 1, none⟩ = some (.int .i64 b) ∧ Sd w X R f b w' := ⟨h.1.1, h.1.2.1, h⟩

set_option maxRecDepth 100000 in
set_option maxHeartbeats 1000000 in
theorem dHas_any (a : Option Addr) (len cap : Nat) (zs : List Int) (w : World) (h : IsRow w a len cap zs) :
    Calls Try.prog 35 #[.slice a len cap] w (DrawnA w) := by
  have H := Lib.hid (isRow_alloc h (.cells #[.int .i64 0, .int .i64 0] 25))
  clear h
  have r0 := At.new w 0 0 25
  go_enter Try.func35, Try.ntmps35
  go_wp2_with fail
  refine (open_any a len cap zs _ H.out).mono ?_
  rintro e w1 ⟨rfl, hr1, hb1⟩
  replace r0 := r0.below hb1
  have hb1' : Below w.heap.size w w1 := below_box hb1 (by simp)
  have hs1 := r0.lt
  clear hb1
  simp only [World.size_alloc] at hr1
  go_wp2_with fail
  refine (range_any _ _ 0 (by omega) hr1).mono ?_
  rintro e w2 ⟨f, b, p', hs, rfl, hr2, hp2, hg2⟩
  replace r0 := r0.only hg2 (by omega)
  have hb2 : Below w.heap.size w w2 := below_only hb1' hg2 (by omega) (by omega)
  have hs2 := rd_lt hr2
  clear hr1 hg2 hb1'
  have HS := Lib.hid hs
  have rx := At.new w2 f b 25
  have r2 := r0.alloc (.cells #[.int .i64 f, .int .i64 b] 25)
  have hr3 := rd_alloc hr2 (.cells #[.int .i64 f, .int .i64 b] 25)
  have hb3 := hb2.alloc (by omega) (.cells #[.int .i64 f, .int .i64 b] 25)
  clear hr2 hb2 r0 hs
  go_wp2_with fail
  generalize w2.alloc (.cells #[.int .i64 f, .int .i64 b] 25) = W2 at *
  generalize w2.heap.size = X at *
  refine (sok_any f b _).mono ?_
  rintro e w3 ⟨rfl, hb4⟩
  have B3 := next hb3 hb4
  replace rx := rx.below hb4
  replace r2 := r2.below hb4
  have HR := Lib.hid (rd_below hr3 hb4)
  clear hr3 hb3 hb4
  by_cases ho : okB f b = true
  · rw [ho]
    obtain ⟨b0, b8, f0, f1, hm⟩ := (okB_iff f b).1 ho
    clear hm
    obtain ⟨s1, s2⟩ := sz_bd b0 b8
    go_wp2_with fail
    refine (pick_any 3 _ _ p' (by omega) (by omega) HR.out).mono ?_
    rintro e w4 ⟨x4, x4l, x4u, rfl, hr4, hg4⟩
    have B4 : Below w.heap.size w w4 := below_only B3 hg4 B3.size (by omega)
    replace rx := rx.only hg4 (by omega)
    replace r2 := r2.only hg4 (by omega)
    have HR4 := Lib.hid hr4
    clear hr4 hg4 B3 HR
    have HD := Lib.hid (show Sd w X w.heap.size f b w4.drew from Sd.drew ⟨rx, ⟨_, _, r2⟩, B4⟩)
    clear rx r2 B4
    by_cases h4 : 0 < x4
    · have h4' : decide (0 < x4) = true := by simpa using h4
      clear h4
      go_wp2_with fail
      refine wp_region_held_drew (S := fun w' => w'.cell? ⟨X, 0, none⟩ = some (.int .i64 f) ∧ w'.cell? ⟨X, 1, none⟩ = some (.int .i64 b) ∧ Sd w X w.heap.size f b w') (by kernel_rfl) ?_ (fun hHeld => ?_)
      · exact HD.out.sv
      refine takeH (i := 0) (v := ?_) rfl rfl (by kernel_rfl) (by kernel_rfl) (by kernel_rfl) (fun _ _ _ h => h) (by rfl) ?_ (by assumption) ?_
      rotate_left 1
      · intro w hSw
        (try dsimp only at hSw)
        go_simp
        try with_reducible rfl
      try simp only [List.setIfInBounds_toArray, List.set_cons_zero, List.set_cons_succ]
      refine takeH (i := 1) (v := ?_) rfl rfl (by kernel_rfl) (by kernel_rfl) (by kernel_rfl) (fun _ _ _ h => h) (by rfl) ?_ (by assumption) ?_
      rotate_left 1
      · intro w hSw
        (try dsimp only at hSw)
        go_simp
        try with_reducible rfl
      try simp only [List.setIfInBounds_toArray, List.set_cons_zero, List.set_cons_succ]
      refine takeH (i := 2) (v := ?_) rfl rfl (by kernel_rfl) (by kernel_rfl) (by kernel_rfl) (fun _ _ _ h => h) (by rfl) ?_ (by assumption) ?_
      rotate_left 1
      · intro w hSw
        (try dsimp only at hSw)
        go_simp
        try with_reducible rfl
      try simp only [List.setIfInBounds_toArray, List.set_cons_zero, List.set_cons_succ]
      refine takeH (i := 3) (v := ?_) rfl rfl (by kernel_rfl) (by kernel_rfl) (by kernel_rfl) (fun _ _ _ h => h) (by rfl) ?_ (by assumption) ?_
      rotate_left 1
      · intro w hSw
        (try dsimp only at hSw)
        go_simp
        try with_reducible rfl
      try simp only [List.setIfInBounds_toArray, List.set_cons_zero, List.set_cons_succ]
      refine takeH (i := 4) (v := ?_) rfl rfl (by kernel_rfl) (by kernel_rfl) (by kernel_rfl) (fun _ _ _ h => h) (by rfl) ?_ (by assumption) ?_
      rotate_left 1
      · intro w hSw
        (try dsimp only at hSw)
        go_simp
        try with_reducible rfl
      try simp only [List.setIfInBounds_toArray, List.set_cons_zero, List.set_cons_succ]
      refine takeH (i := 5) (v := ?_) rfl rfl (by kernel_rfl) (by kernel_rfl) (by kernel_rfl) (fun _ _ _ h => h) (by rfl) ?_ (by assumption) ?_
      rotate_left 1
      · intro w hSw
        (try dsimp only at hSw)
        go_simp
        try with_reducible rfl
      try simp only [List.setIfInBounds_toArray, List.set_cons_zero, List.set_cons_succ]
      refine wpAnyH_ready (rs := [6]) (by kernel_rfl) (by simp) ?_
      refine AllReadyH.cons rfl (fun K hK => ?_) AllReadyH.nil
      go_simp
      refine (size_any b _ b0 b8).mono ?_
      rintro e w5 ⟨rfl, rfl⟩
      go_wp2_with fail
      refine hK.out _ _ ?_ (fun hNew => ?_)
      · exact hHeld
      clear hK K hHeld
      have hHeld := hNew
      clear hNew
      try simp only [Act.put, List.setIfInBounds_toArray, List.set_cons_zero, List.set_cons_succ]
      refine wpAnyH_ready (rs := [7]) (by kernel_rfl) (by simp) ?_
      refine AllReadyH.cons rfl (fun K hK => ?_) AllReadyH.nil
      go_simp
      refine (pick_any (sz b) _ _ (p' + 1) (by omega) (by omega) (rd_drew HR4.out)).mono ?_
      rintro e w6 ⟨x6, x6l, x6u, rfl, hr6, hg6⟩
      have e6 : IntKind.i64.wrap (f + x6) = f + x6 := IntWalk.i64_in _ (by omega)
      go_wp2_with fail
      refine hK.out _ _ ?_ (fun hNew => ?_)
      · exact (hHeld.2.2.pick hg6 (by omega) (by omega) (by omega)).sv
      clear hK K hHeld
      have hHeld := hNew
      clear hNew
      try simp only [Act.put, List.setIfInBounds_toArray, List.set_cons_zero, List.set_cons_succ]
      refine takeH (i := 8) (v := ?_) rfl rfl (by kernel_rfl) (by kernel_rfl) (by kernel_rfl) (fun _ _ _ h => h) (by rfl) ?_ (by assumption) ?_
      rotate_left 1
      · intro w hSw
        (try dsimp only at hSw)
        go_simp
        try with_reducible rfl
      try simp only [List.setIfInBounds_toArray, List.set_cons_zero, List.set_cons_succ]
      obtain ⟨u, v, ru⟩ := hHeld.2.2.2.1
      obtain ⟨cu, cv, fu, fv⟩ := id ru
      refine wpAnyH_ready (rs := [9]) (by kernel_rfl) (by simp) ?_
      refine AllReadyH.cons rfl (fun K hK => ?_) AllReadyH.nil
      go_simp
      refine hK.out _ _ ?_ (fun hNew => ?_)
      · exact (hHeld.2.2.put (by omega) (Nat.le_refl _) _ _).sv
      clear hK K hHeld
      have hHeld := hNew
      clear hNew
      try simp only [Act.put, List.setIfInBounds_toArray, List.set_cons_zero, List.set_cons_succ]
      refine takeH (i := 10) (v := ?_) rfl rfl (by kernel_rfl) (by kernel_rfl) (by kernel_rfl) (fun _ _ _ h => h) (by rfl) ?_ (by assumption) ?_
      rotate_left 1
      · intro w hSw
        (try dsimp only at hSw)
        go_simp
        try with_reducible rfl
      try simp only [List.setIfInBounds_toArray, List.set_cons_zero, List.set_cons_succ]
      refine wpAnyH_done (by kernel_rfl) ?_ _
      have r7 := ru.put f b
      obtain ⟨d0, d1, _, _⟩ := r7
      obtain ⟨_, _, hD⟩ := hHeld
      go_wp2
      exact bodyPost_ret (v := .tuple #[.agg #[.int .i64 f, .int .i64 b], .int .i64 (f + x6)]) (by simp [results, Try.results35, go_sem, d0, d1]) rfl ⟨f, b, _, HS.out, ⟨by omega, by omega⟩, rfl, hD.2.2⟩
    · have h4' : decide (0 < x4) = false := by simpa using h4
      clear h4
      go_wp2_with fail
      refine wp_region_held_drew (S := fun w' => w'.cell? ⟨X, 0, none⟩ = some (.int .i64 f) ∧ w'.cell? ⟨X, 1, none⟩ = some (.int .i64 b) ∧ Sd w X w.heap.size f b w') (by kernel_rfl) ?_ (fun hHeld => ?_)
      · exact HD.out.sv
      refine takeH (i := 0) (v := ?_) rfl rfl (by kernel_rfl) (by kernel_rfl) (by kernel_rfl) (fun _ _ _ h => h) (by rfl) ?_ (by assumption) ?_
      rotate_left 1
      · intro w hSw
        (try dsimp only at hSw)
        go_simp
        try with_reducible rfl
      try simp only [List.setIfInBounds_toArray, List.set_cons_zero, List.set_cons_succ]
      refine takeH (i := 1) (v := ?_) rfl rfl (by kernel_rfl) (by kernel_rfl) (by kernel_rfl) (fun _ _ _ h => h) (by rfl) ?_ (by assumption) ?_
      rotate_left 1
      · intro w hSw
        (try dsimp only at hSw)
        go_simp
        try with_reducible rfl
      try simp only [List.setIfInBounds_toArray, List.set_cons_zero, List.set_cons_succ]
      refine wpAnyH_ready (rs := [2]) (by kernel_rfl) (by simp) ?_
      refine AllReadyH.cons rfl (fun K hK => ?_) AllReadyH.nil
      go_simp
      refine (pick_any 260 _ _ (p' + 1) (by omega) (by omega) (rd_drew HR4.out)).mono ?_
      rintro e w6 ⟨x6, x6l, x6u, rfl, hr6, hg6⟩
      have e6 : IntKind.i64.wrap (x6 - 2) = x6 - 2 := IntWalk.i64_in _ (by omega)
      go_wp2_with fail
      refine hK.out _ _ ?_ (fun hNew => ?_)
      · exact (hHeld.2.2.pick hg6 (by omega) (by omega) (by omega)).sv
      clear hK K hHeld
      have hHeld := hNew
      clear hNew
      try simp only [Act.put, List.setIfInBounds_toArray, List.set_cons_zero, List.set_cons_succ]
      refine takeH (i := 3) (v := ?_) rfl rfl (by kernel_rfl) (by kernel_rfl) (by kernel_rfl) (fun _ _ _ h => h) (by rfl) ?_ (by assumption) ?_
      rotate_left 1
      · intro w hSw
        (try dsimp only at hSw)
        go_simp
        try with_reducible rfl
      try simp only [List.setIfInBounds_toArray, List.set_cons_zero, List.set_cons_succ]
      obtain ⟨u, v, ru⟩ := hHeld.2.2.2.1
      obtain ⟨cu, cv, fu, fv⟩ := id ru
      refine wpAnyH_ready (rs := [4]) (by kernel_rfl) (by simp) ?_
      refine AllReadyH.cons rfl (fun K hK => ?_) AllReadyH.nil
      go_simp
      refine hK.out _ _ ?_ (fun hNew => ?_)
      · exact (hHeld.2.2.put (by omega) (Nat.le_refl _) _ _).sv
      clear hK K hHeld
      have hHeld := hNew
      clear hNew
      try simp only [Act.put, List.setIfInBounds_toArray, List.set_cons_zero, List.set_cons_succ]
      refine takeH (i := 5) (v := ?_) rfl rfl (by kernel_rfl) (by kernel_rfl) (by kernel_rfl) (fun _ _ _ h => h) (by rfl) ?_ (by assumption) ?_
      rotate_left 1
      · intro w hSw
        (try dsimp only at hSw)
        go_simp
        try with_reducible rfl
      try simp only [List.setIfInBounds_toArray, List.set_cons_zero, List.set_cons_succ]
      refine wpAnyH_done (by kernel_rfl) ?_ _
      have r7 := ru.put f b
      obtain ⟨d0, d1, _, _⟩ := r7
      obtain ⟨_, _, hD⟩ := hHeld
      go_wp2
      exact bodyPost_ret (v := .tuple #[.agg #[.int .i64 f, .int .i64 b], .int .i64 (x6 - 2)]) (by simp [results, Try.results35, go_sem, d0, d1]) rfl ⟨f, b, _, HS.out, ⟨by omega, by omega⟩, rfl, hD.2.2⟩
  · have ho' : okB f b = false := by simpa using ho
    rw [ho']
    have HD := Lib.hid (show Sd w X w.heap.size f b w3.drew from Sd.drew ⟨rx, ⟨_, _, r2⟩, B3⟩)
    clear rx r2 B3 ho
    go_wp2_with fail
    refine wp_region_held_drew (S := fun w' => w'.cell? ⟨X, 0, none⟩ = some (.int .i64 f) ∧ w'.cell? ⟨X, 1, none⟩ = some (.int .i64 b) ∧ Sd w X w.heap.size f b w') (by kernel_rfl) ?_ (fun hHeld => ?_)
    · exact HD.out.sv
    refine takeH (i := 0) (v := ?_) rfl rfl (by kernel_rfl) (by kernel_rfl) (by kernel_rfl) (fun _ _ _ h => h) (by rfl) ?_ (by assumption) ?_
    rotate_left 1
    · intro w hSw
      (try dsimp only at hSw)
      go_simp
      try with_reducible rfl
    try simp only [List.setIfInBounds_toArray, List.set_cons_zero, List.set_cons_succ]
    refine takeH (i := 1) (v := ?_) rfl rfl (by kernel_rfl) (by kernel_rfl) (by kernel_rfl) (fun _ _ _ h => h) (by rfl) ?_ (by assumption) ?_
    rotate_left 1
    · intro w hSw
      (try dsimp only at hSw)
      go_simp
      try with_reducible rfl
    try simp only [List.setIfInBounds_toArray, List.set_cons_zero, List.set_cons_succ]
    refine wpAnyH_ready (rs := [2]) (by kernel_rfl) (by simp) ?_
    refine AllReadyH.cons rfl (fun K hK => ?_) AllReadyH.nil
    go_simp
    refine (pick_any 260 _ _ (p') (by omega) (by omega) (rd_drew HR.out)).mono ?_
    rintro e w6 ⟨x6, x6l, x6u, rfl, hr6, hg6⟩
    have e6 : IntKind.i64.wrap (x6 - 2) = x6 - 2 := IntWalk.i64_in _ (by omega)
    go_wp2_with fail
    refine hK.out _ _ ?_ (fun hNew => ?_)
    · exact (hHeld.2.2.pick hg6 (by omega) (by omega) (by omega)).sv
    clear hK K hHeld
    have hHeld := hNew
    clear hNew
    try simp only [Act.put, List.setIfInBounds_toArray, List.set_cons_zero, List.set_cons_succ]
    refine takeH (i := 3) (v := ?_) rfl rfl (by kernel_rfl) (by kernel_rfl) (by kernel_rfl) (fun _ _ _ h => h) (by rfl) ?_ (by assumption) ?_
    rotate_left 1
    · intro w hSw
      (try dsimp only at hSw)
      go_simp
      try with_reducible rfl
    try simp only [List.setIfInBounds_toArray, List.set_cons_zero, List.set_cons_succ]
    obtain ⟨u, v, ru⟩ := hHeld.2.2.2.1
    obtain ⟨cu, cv, fu, fv⟩ := id ru
    refine wpAnyH_ready (rs := [4]) (by kernel_rfl) (by simp) ?_
    refine AllReadyH.cons rfl (fun K hK => ?_) AllReadyH.nil
    go_simp
    refine hK.out _ _ ?_ (fun hNew => ?_)
    · exact (hHeld.2.2.put (by omega) (Nat.le_refl _) _ _).sv
    clear hK K hHeld
    have hHeld := hNew
    clear hNew
    try simp only [Act.put, List.setIfInBounds_toArray, List.set_cons_zero, List.set_cons_succ]
    refine takeH (i := 5) (v := ?_) rfl rfl (by kernel_rfl) (by kernel_rfl) (by kernel_rfl) (fun _ _ _ h => h) (by rfl) ?_ (by assumption) ?_
    rotate_left 1
    · intro w hSw
      (try dsimp only at hSw)
      go_simp
      try with_reducible rfl
    try simp only [List.setIfInBounds_toArray, List.set_cons_zero, List.set_cons_succ]
    refine wpAnyH_done (by kernel_rfl) ?_ _
    have r7 := ru.put f b
    obtain ⟨d0, d1, _, _⟩ := r7
    obtain ⟨_, _, hD⟩ := hHeld
    go_wp2
    exact bodyPost_ret (v := .tuple #[.agg #[.int .i64 f, .int .i64 b], .int .i64 (x6 - 2)]) (by simp [results, Try.results35, go_sem, d0, d1]) rfl ⟨f, b, _, HS.out, ⟨by omega, by omega⟩, rfl, hD.2.2⟩

end Go.Proofs.Ytglmoacgaacmeaa
