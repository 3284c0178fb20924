/-
  The laws of a range's addresses: their walks.
-/
import Derived.Test.YtglmoacgaacmeaaDrawT
import Derived.Test.YtglmoacgaacmeaaLawA
namespace Go.Proofs.Ytglmoacgaacmeaa
open Go.RowKit
set_option linter.unusedSimpArgs false

theorem rmany_is {f b v : Int} (h : manyI f b = v) (w : World) :
    Calls Try.prog 31 #[.agg #[.int .i64 f, .int .i64 b]] w fun e w' => e = .returned (.int .i64 v) ∧ Below w.heap.size w w' := by
  rw [← h]; exact rmany_any f b w
theorem rhas_is {f b a : Int} {v : Bool} (h : hasB f b a = v) (w : World) (wa : a ≤ 9223372036854775807) :
    Calls Try.prog 24 #[.agg #[.int .i64 f, .int .i64 b], .int .i64 a] w fun e w' => e = .returned (.bool v) ∧ Below w.heap.size w w' := by
  rw [← h]; exact rhas_any f b a w wa
theorem shas_is {f b a : Int} {v : Bool} (h : hasB f b a = v) (w : World) :
    Calls Try.prog 23 #[.agg #[.int .i64 f, .int .i64 b], .int .i64 a] w fun e w' => e = .returned (.bool v) ∧ Below w.heap.size w w' := by
  rw [← h]; exact shas_any f b a w
theorem has_all {a : Int} (h0 : 0 ≤ a) (h1 : a ≤ 255) : hasB 0 0 a = true := by
  rw [hasB_iff]; refine ⟨okB_of (by omega) (by omega) (by omega) (by omega) (by simp), h0, ?_⟩; simp [sz]; omega
theorem many_ok {f b : Int} (ho : okB f b = true) : manyI f b = sz b := by simp [manyI, ho]

set_option maxRecDepth 100000 in
set_option maxHeartbeats 1000000 in
theorem lawHas (a : Option Addr) (len cap : Nat) (zs : List Int) (w : World) (h : IsRow w a len cap zs) :
    Calls Try.prog 10 #[.slice a len cap] w fun e w' => e = .returned (.bool true) ∧ Below w.heap.size w w' := by
  by_cases hl : 1048576 < len
  · clear h
    go_enter Try.func10, Try.ntmps10
    go_wp2
    go_ret
    exact ⟨rfl, Below.refl _ _⟩
  have H := Lib.hid h
  clear h
  go_enter Try.func10, Try.ntmps10
  go_wp2_with fail
  refine (dHas_any a len cap zs _ H.out).mono ?_
  rintro e w1 ⟨f, b, x, hs, ⟨x0, x1⟩, rfl, hb1⟩
  have HS := Lib.hid hs
  clear hs
  have r1 := At.new w1 f b 25
  have B1 := hb1.alloc hb1.size (.cells #[.int .i64 f, .int .i64 b] 25)
  have hz1 := hb1.size
  clear hb1
  go_wp2_with fail
  generalize w1.alloc (.cells #[.int .i64 f, .int .i64 b] 25) = W1 at *
  generalize w1.heap.size = R at *
  refine (rhas_any f b x _ (by omega)).mono ?_
  rintro e w2 ⟨rfl, hb2⟩
  have r2 := r1.below hb2
  have B2 := next B1 hb2
  clear r1 B1 hb2
  obtain ⟨c0, c1, _, _⟩ := id r2
  have hd : (hasB f b x != hasB f b x) = false := by simp
  have he : (hasB f b x == hasB f b x) = true := by simp
  go_wp2_with fail
  refine (shas_any f b x _).mono ?_
  rintro e w3 ⟨rfl, hb3⟩
  have r3 := r2.below hb3
  have B3 := next B2 hb3
  clear r2 B2 hb3 c0 c1
  obtain ⟨c0, c1, _, _⟩ := id r3
  by_cases ho : okB f b = true
  · go_wp2_with fail
    refine (sok_is ho _).mono ?_
    rintro e w4 ⟨rfl, hb4⟩
    have r4 := r3.below hb4
    have B4 := next B3 hb4
    clear r3 B3 hb4 c0 c1
    obtain ⟨c0, c1, _, _⟩ := id r4
    obtain ⟨b0, b8, f0, f1, hm⟩ := (okB_iff f b).1 ho
    clear hm
    obtain ⟨s1, s2⟩ := sz_bd b0 b8
    by_cases hx0 : x < 0
    · go_wp2_with fail
      refine (shas_any f b x _).mono ?_
      rintro e w5 ⟨rfl, hb5⟩
      go_wp2
      go_ret
      exact ⟨rfl, next B4 hb5⟩
    by_cases hx1 : 255 < x
    · go_wp2_with fail
      refine (shas_any f b x _).mono ?_
      rintro e w5 ⟨rfl, hb5⟩
      go_wp2
      go_ret
      exact ⟨rfl, next B4 hb5⟩
    have ha := has_all (a := x) (by omega) (by omega)
    have S4 := Lib.hid (show w4.drew.cell? ⟨R, 0, none⟩ = some (.int .i64 f) ∧ w4.drew.cell? ⟨R, 1, none⟩ = some (.int .i64 b) ∧ Below w.heap.size w w4.drew from ⟨c0, c1, B4.drew⟩)
    clear hd he
    by_cases hfx : f ≤ x
    · have hdx : decide (f ≤ x) = true := by simpa using hfx
      have hq : (hasB f b x == decide (x < f + sz b)) = true := by
        have e : hasB f b x = decide (x < f + sz b) := by
          rw [Bool.eq_iff_iff, hasB_iff, decide_eq_true_eq]; exact ⟨fun k => by omega, fun k => ⟨ho, by omega, by omega⟩⟩
        rw [e]; simp
      have hw : IntKind.i64.wrap (f + sz b) = f + sz b := IntWalk.i64_in _ (by omega)
      clear hfx
      go_wp2_with fail
      refine wp_region_held_drew (S := fun w' => w'.cell? ⟨R, 0, none⟩ = some (.int .i64 f) ∧ w'.cell? ⟨R, 1, none⟩ = some (.int .i64 b) ∧ Below w.heap.size w w') (by kernel_rfl) ?_ (fun hHeld => ?_)
      · exact S4.out
      refine takeH (i := 0) (v := ?_) rfl rfl (by kernel_rfl) (by kernel_rfl) (by kernel_rfl) (fun _ _ _ h => h) (by rfl) ?_ (by assumption) ?_
      rotate_left 1
      · intro w hSw
        (try dsimp only at hSw)
        go_simp
        try with_reducible rfl
      try simp only [List.setIfInBounds_toArray, List.set_cons_zero, List.set_cons_succ]
      refine takeH (i := 1) (v := ?_) rfl rfl (by kernel_rfl) (by kernel_rfl) (by kernel_rfl) (fun _ _ _ h => h) (by rfl) ?_ (by assumption) ?_
      rotate_left 1
      · intro w hSw
        (try dsimp only at hSw)
        go_simp
        try with_reducible rfl
      try simp only [List.setIfInBounds_toArray, List.set_cons_zero, List.set_cons_succ]
      refine takeH (i := 2) (v := ?_) rfl rfl (by kernel_rfl) (by kernel_rfl) (by kernel_rfl) (fun _ _ _ h => h) (by rfl) ?_ (by assumption) ?_
      rotate_left 1
      · intro w hSw
        (try dsimp only at hSw)
        go_simp
        try with_reducible rfl
      try simp only [List.setIfInBounds_toArray, List.set_cons_zero, List.set_cons_succ]
      refine takeH (i := 3) (v := ?_) rfl rfl (by kernel_rfl) (by kernel_rfl) (by kernel_rfl) (fun _ _ _ h => h) (by rfl) ?_ (by assumption) ?_
      rotate_left 1
      · intro w hSw
        (try dsimp only at hSw)
        go_simp
        try with_reducible rfl
      try simp only [List.setIfInBounds_toArray, List.set_cons_zero, List.set_cons_succ]
      refine takeH (i := 4) (v := ?_) rfl rfl (by kernel_rfl) (by kernel_rfl) (by kernel_rfl) (fun _ _ _ h => h) (by rfl) ?_ (by assumption) ?_
      rotate_left 1
      · intro w hSw
        (try dsimp only at hSw)
        go_simp
        try with_reducible rfl
      try simp only [List.setIfInBounds_toArray, List.set_cons_zero, List.set_cons_succ]
      refine takeH (i := 5) (v := ?_) rfl rfl (by kernel_rfl) (by kernel_rfl) (by kernel_rfl) (fun _ _ _ h => h) (by rfl) ?_ (by assumption) ?_
      rotate_left 1
      · intro w hSw
        (try dsimp only at hSw)
        go_simp
        try with_reducible rfl
      try simp only [List.setIfInBounds_toArray, List.set_cons_zero, List.set_cons_succ]
      refine takeH (i := 6) (v := ?_) rfl rfl (by kernel_rfl) (by kernel_rfl) (by kernel_rfl) (fun _ _ _ h => h) (by rfl) ?_ (by assumption) ?_
      rotate_left 1
      · intro w hSw
        (try dsimp only at hSw)
        go_simp
        try with_reducible rfl
      try simp only [List.setIfInBounds_toArray, List.set_cons_zero, List.set_cons_succ]
      refine takeH (i := 7) (v := ?_) rfl rfl (by kernel_rfl) (by kernel_rfl) (by kernel_rfl) (fun _ _ _ h => h) (by rfl) ?_ (by assumption) ?_
      rotate_left 1
      · intro w hSw
        (try dsimp only at hSw)
        go_simp
        try with_reducible rfl
      try simp only [List.setIfInBounds_toArray, List.set_cons_zero, List.set_cons_succ]
      refine takeH (i := 8) (v := ?_) rfl rfl (by kernel_rfl) (by kernel_rfl) (by kernel_rfl) (fun _ _ _ h => h) (by rfl) ?_ (by assumption) ?_
      rotate_left 1
      · intro w hSw
        (try dsimp only at hSw)
        go_simp
        try with_reducible rfl
      try simp only [List.setIfInBounds_toArray, List.set_cons_zero, List.set_cons_succ]
      refine takeH (i := 9) (v := ?_) rfl rfl (by kernel_rfl) (by kernel_rfl) (by kernel_rfl) (fun _ _ _ h => h) (by rfl) ?_ (by assumption) ?_
      rotate_left 1
      · intro w hSw
        (try dsimp only at hSw)
        go_simp
        try with_reducible rfl
      try simp only [List.setIfInBounds_toArray, List.set_cons_zero, List.set_cons_succ]
      refine wpAnyH_ready (rs := [10]) (by kernel_rfl) (by simp) ?_
      refine AllReadyH.cons rfl (fun K hK => ?_) AllReadyH.nil
      go_simp
      refine (rmany_is (many_ok ho) _).mono ?_
      rintro e w5 ⟨rfl, hb5⟩
      go_wp2_with fail
      refine hK.out _ _ ?_ (fun hNew => ?_)
      · exact ⟨cell_later hb5 hHeld.1, cell_later hb5 hHeld.2.1, next hHeld.2.2 hb5⟩
      clear hK K hHeld
      have hHeld := hNew
      clear hNew
      try simp only [Act.put, List.setIfInBounds_toArray, List.set_cons_zero, List.set_cons_succ]
      refine takeH (i := 11) (v := ?_) rfl rfl (by kernel_rfl) (by kernel_rfl) (by kernel_rfl) (fun _ _ _ h => h) (by rfl) ?_ (by assumption) ?_
      rotate_left 1
      · intro w hSw
        (try dsimp only at hSw)
        go_simp
        try with_reducible rfl
      try simp only [List.setIfInBounds_toArray, List.set_cons_zero, List.set_cons_succ]
      refine takeH (i := 12) (v := ?_) rfl rfl (by kernel_rfl) (by kernel_rfl) (by kernel_rfl) (fun _ _ _ h => h) (by rfl) ?_ (by assumption) ?_
      rotate_left 1
      · intro w hSw
        (try dsimp only at hSw)
        go_simp
        try with_reducible rfl
      try simp only [List.setIfInBounds_toArray, List.set_cons_zero, List.set_cons_succ]
      refine takeH (i := 13) (v := ?_) rfl rfl (by kernel_rfl) (by kernel_rfl) (by kernel_rfl) (fun _ _ _ h => h) (by rfl) ?_ (by assumption) ?_
      rotate_left 1
      · intro w hSw
        (try dsimp only at hSw)
        go_simp
        try with_reducible rfl
      try simp only [List.setIfInBounds_toArray, List.set_cons_zero, List.set_cons_succ]
      refine takeH (i := 14) (v := ?_) rfl rfl (by kernel_rfl) (by kernel_rfl) (by kernel_rfl) (fun _ _ _ h => h) (by rfl) ?_ (by assumption) ?_
      rotate_left 1
      · intro w hSw
        (try dsimp only at hSw)
        go_simp
        try with_reducible rfl
      try simp only [List.setIfInBounds_toArray, List.set_cons_zero, List.set_cons_succ]
      refine takeH (i := 15) (v := ?_) rfl rfl (by kernel_rfl) (by kernel_rfl) (by kernel_rfl) (fun _ _ _ h => h) (by rfl) ?_ (by assumption) ?_
      rotate_left 1
      · intro w hSw
        (try dsimp only at hSw)
        go_simp
        try with_reducible rfl
      try simp only [List.setIfInBounds_toArray, List.set_cons_zero, List.set_cons_succ]
      refine takeH (i := 16) (v := ?_) rfl rfl (by kernel_rfl) (by kernel_rfl) (by kernel_rfl) (fun _ _ _ h => h) (by rfl) ?_ (by assumption) ?_
      rotate_left 1
      · intro w hSw
        (try dsimp only at hSw)
        go_simp
        try with_reducible rfl
      try simp only [List.setIfInBounds_toArray, List.set_cons_zero, List.set_cons_succ]
      refine takeH (i := 17) (v := ?_) rfl rfl (by kernel_rfl) (by kernel_rfl) (by kernel_rfl) (fun _ _ _ h => h) (by rfl) ?_ (by assumption) ?_
      rotate_left 1
      · intro w hSw
        (try dsimp only at hSw)
        go_simp
        try with_reducible rfl
      try simp only [List.setIfInBounds_toArray, List.set_cons_zero, List.set_cons_succ]
      refine wpAnyH_ready (rs := [18]) (by kernel_rfl) (by simp) ?_
      refine AllReadyH.cons rfl (fun K hK => ?_) AllReadyH.nil
      go_simp
      refine (rhas_is ha _ (by omega)).mono ?_
      rintro e w6 ⟨rfl, hb6⟩
      go_wp2_with fail
      refine hK.out _ _ ?_ (fun hNew => ?_)
      · exact ⟨cell_later hb6 hHeld.1, cell_later hb6 hHeld.2.1, next hHeld.2.2 hb6⟩
      clear hK K hHeld
      have hHeld := hNew
      clear hNew
      try simp only [Act.put, List.setIfInBounds_toArray, List.set_cons_zero, List.set_cons_succ]
      refine takeH (i := 19) (v := ?_) rfl rfl (by kernel_rfl) (by kernel_rfl) (by kernel_rfl) (fun _ _ _ h => h) (by rfl) ?_ (by assumption) ?_
      rotate_left 1
      · intro w hSw
        (try dsimp only at hSw)
        go_simp
        try with_reducible rfl
      try simp only [List.setIfInBounds_toArray, List.set_cons_zero, List.set_cons_succ]
      refine takeH (i := 20) (v := ?_) rfl rfl (by kernel_rfl) (by kernel_rfl) (by kernel_rfl) (fun _ _ _ h => h) (by rfl) ?_ (by assumption) ?_
      rotate_left 1
      · intro w hSw
        (try dsimp only at hSw)
        go_simp
        try with_reducible rfl
      try simp only [List.setIfInBounds_toArray, List.set_cons_zero, List.set_cons_succ]
      refine wpAnyH_done (by kernel_rfl) ?_ _
      go_wp2
      go_ret
      exact ⟨rfl, hHeld.2.2⟩
    · have hdx : decide (f ≤ x) = false := by simpa using hfx
      have hq : hasB f b x = false := hasB_no (by omega)
      have hw : IntKind.i64.wrap (f + sz b) = f + sz b := IntWalk.i64_in _ (by omega)
      clear hfx
      go_wp2_with fail
      refine wp_region_held_drew (S := fun w' => w'.cell? ⟨R, 0, none⟩ = some (.int .i64 f) ∧ w'.cell? ⟨R, 1, none⟩ = some (.int .i64 b) ∧ Below w.heap.size w w') (by kernel_rfl) ?_ (fun hHeld => ?_)
      · exact S4.out
      refine takeH (i := 0) (v := ?_) rfl rfl (by kernel_rfl) (by kernel_rfl) (by kernel_rfl) (fun _ _ _ h => h) (by rfl) ?_ (by assumption) ?_
      rotate_left 1
      · intro w hSw
        (try dsimp only at hSw)
        go_simp
        try with_reducible rfl
      try simp only [List.setIfInBounds_toArray, List.set_cons_zero, List.set_cons_succ]
      refine takeH (i := 1) (v := ?_) rfl rfl (by kernel_rfl) (by kernel_rfl) (by kernel_rfl) (fun _ _ _ h => h) (by rfl) ?_ (by assumption) ?_
      rotate_left 1
      · intro w hSw
        (try dsimp only at hSw)
        go_simp
        try with_reducible rfl
      try simp only [List.setIfInBounds_toArray, List.set_cons_zero, List.set_cons_succ]
      refine takeH (i := 2) (v := ?_) rfl rfl (by kernel_rfl) (by kernel_rfl) (by kernel_rfl) (fun _ _ _ h => h) (by rfl) ?_ (by assumption) ?_
      rotate_left 1
      · intro w hSw
        (try dsimp only at hSw)
        go_simp
        try with_reducible rfl
      try simp only [List.setIfInBounds_toArray, List.set_cons_zero, List.set_cons_succ]
      refine takeH (i := 3) (v := ?_) rfl rfl (by kernel_rfl) (by kernel_rfl) (by kernel_rfl) (fun _ _ _ h => h) (by rfl) ?_ (by assumption) ?_
      rotate_left 1
      · intro w hSw
        (try dsimp only at hSw)
        go_simp
        try with_reducible rfl
      try simp only [List.setIfInBounds_toArray, List.set_cons_zero, List.set_cons_succ]
      refine takeH (i := 4) (v := ?_) rfl rfl (by kernel_rfl) (by kernel_rfl) (by kernel_rfl) (fun _ _ _ h => h) (by rfl) ?_ (by assumption) ?_
      rotate_left 1
      · intro w hSw
        (try dsimp only at hSw)
        go_simp
        try with_reducible rfl
      try simp only [List.setIfInBounds_toArray, List.set_cons_zero, List.set_cons_succ]
      refine takeH (i := 5) (v := ?_) rfl rfl (by kernel_rfl) (by kernel_rfl) (by kernel_rfl) (fun _ _ _ h => h) (by rfl) ?_ (by assumption) ?_
      rotate_left 1
      · intro w hSw
        (try dsimp only at hSw)
        go_simp
        try with_reducible rfl
      try simp only [List.setIfInBounds_toArray, List.set_cons_zero, List.set_cons_succ]
      refine skipH (i := 6) rfl rfl (by kernel_rfl) (by kernel_rfl) (by kernel_rfl) (fun _ _ _ h => h) (by rfl) (by assumption) ?_
      try simp only [List.setIfInBounds_toArray, List.set_cons_zero, List.set_cons_succ]
      refine skipH (i := 7) rfl rfl (by kernel_rfl) (by kernel_rfl) (by kernel_rfl) (fun _ _ _ h => h) (by rfl) (by assumption) ?_
      try simp only [List.setIfInBounds_toArray, List.set_cons_zero, List.set_cons_succ]
      refine skipH (i := 8) rfl rfl (by kernel_rfl) (by kernel_rfl) (by kernel_rfl) (fun _ _ _ h => h) (by rfl) (by assumption) ?_
      try simp only [List.setIfInBounds_toArray, List.set_cons_zero, List.set_cons_succ]
      refine skipH (i := 9) rfl rfl (by kernel_rfl) (by kernel_rfl) (by kernel_rfl) (fun _ _ _ h => h) (by rfl) (by assumption) ?_
      try simp only [List.setIfInBounds_toArray, List.set_cons_zero, List.set_cons_succ]
      refine skipH (i := 10) rfl rfl (by kernel_rfl) (by kernel_rfl) (by kernel_rfl) (fun _ _ _ h => h) (by rfl) (by assumption) ?_
      try simp only [List.setIfInBounds_toArray, List.set_cons_zero, List.set_cons_succ]
      refine skipH (i := 11) rfl rfl (by kernel_rfl) (by kernel_rfl) (by kernel_rfl) (fun _ _ _ h => h) (by rfl) (by assumption) ?_
      try simp only [List.setIfInBounds_toArray, List.set_cons_zero, List.set_cons_succ]
      refine skipH (i := 12) rfl rfl (by kernel_rfl) (by kernel_rfl) (by kernel_rfl) (fun _ _ _ h => h) (by rfl) (by assumption) ?_
      try simp only [List.setIfInBounds_toArray, List.set_cons_zero, List.set_cons_succ]
      refine takeH (i := 13) (v := ?_) rfl rfl (by kernel_rfl) (by kernel_rfl) (by kernel_rfl) (fun _ _ _ h => h) (by rfl) ?_ (by assumption) ?_
      rotate_left 1
      · intro w hSw
        (try dsimp only at hSw)
        go_simp
        try with_reducible rfl
      try simp only [List.setIfInBounds_toArray, List.set_cons_zero, List.set_cons_succ]
      refine takeH (i := 14) (v := ?_) rfl rfl (by kernel_rfl) (by kernel_rfl) (by kernel_rfl) (fun _ _ _ h => h) (by rfl) ?_ (by assumption) ?_
      rotate_left 1
      · intro w hSw
        (try dsimp only at hSw)
        go_simp
        try with_reducible rfl
      try simp only [List.setIfInBounds_toArray, List.set_cons_zero, List.set_cons_succ]
      refine takeH (i := 15) (v := ?_) rfl rfl (by kernel_rfl) (by kernel_rfl) (by kernel_rfl) (fun _ _ _ h => h) (by rfl) ?_ (by assumption) ?_
      rotate_left 1
      · intro w hSw
        (try dsimp only at hSw)
        go_simp
        try with_reducible rfl
      try simp only [List.setIfInBounds_toArray, List.set_cons_zero, List.set_cons_succ]
      refine takeH (i := 16) (v := ?_) rfl rfl (by kernel_rfl) (by kernel_rfl) (by kernel_rfl) (fun _ _ _ h => h) (by rfl) ?_ (by assumption) ?_
      rotate_left 1
      · intro w hSw
        (try dsimp only at hSw)
        go_simp
        try with_reducible rfl
      try simp only [List.setIfInBounds_toArray, List.set_cons_zero, List.set_cons_succ]
      refine takeH (i := 17) (v := ?_) rfl rfl (by kernel_rfl) (by kernel_rfl) (by kernel_rfl) (fun _ _ _ h => h) (by rfl) ?_ (by assumption) ?_
      rotate_left 1
      · intro w hSw
        (try dsimp only at hSw)
        go_simp
        try with_reducible rfl
      try simp only [List.setIfInBounds_toArray, List.set_cons_zero, List.set_cons_succ]
      refine wpAnyH_ready (rs := [18]) (by kernel_rfl) (by simp) ?_
      refine AllReadyH.cons rfl (fun K hK => ?_) AllReadyH.nil
      go_simp
      refine (rhas_is ha _ (by omega)).mono ?_
      rintro e w6 ⟨rfl, hb6⟩
      go_wp2_with fail
      refine hK.out _ _ ?_ (fun hNew => ?_)
      · exact ⟨cell_later hb6 hHeld.1, cell_later hb6 hHeld.2.1, next hHeld.2.2 hb6⟩
      clear hK K hHeld
      have hHeld := hNew
      clear hNew
      try simp only [Act.put, List.setIfInBounds_toArray, List.set_cons_zero, List.set_cons_succ]
      refine takeH (i := 19) (v := ?_) rfl rfl (by kernel_rfl) (by kernel_rfl) (by kernel_rfl) (fun _ _ _ h => h) (by rfl) ?_ (by assumption) ?_
      rotate_left 1
      · intro w hSw
        (try dsimp only at hSw)
        go_simp
        try with_reducible rfl
      try simp only [List.setIfInBounds_toArray, List.set_cons_zero, List.set_cons_succ]
      refine takeH (i := 20) (v := ?_) rfl rfl (by kernel_rfl) (by kernel_rfl) (by kernel_rfl) (fun _ _ _ h => h) (by rfl) ?_ (by assumption) ?_
      rotate_left 1
      · intro w hSw
        (try dsimp only at hSw)
        go_simp
        try with_reducible rfl
      try simp only [List.setIfInBounds_toArray, List.set_cons_zero, List.set_cons_succ]
      refine wpAnyH_done (by kernel_rfl) ?_ _
      go_wp2
      go_ret
      exact ⟨rfl, hHeld.2.2⟩
  · have ho' : okB f b = false := by simpa using ho
    clear ho
    go_wp2_with fail
    refine (sok_is ho' _).mono ?_
    rintro e w4 ⟨rfl, hb4⟩
    have r4 := r3.below hb4
    have B4 := next B3 hb4
    clear r3 B3 hb4 c0 c1
    obtain ⟨c0, c1, _, _⟩ := id r4
    go_wp2_with fail
    refine (shas_any f b x _).mono ?_
    rintro e w5 ⟨rfl, hb5⟩
    go_wp2
    go_ret
    exact ⟨rfl, next B4 hb5⟩

set_option maxRecDepth 100000 in
set_option maxHeartbeats 2000000 in
theorem lawForm (a : Option Addr) (len cap : Nat) (zs : List Int) (w : World) (h : IsRow w a len cap zs) :
    Calls Try.prog 16 #[.slice a len cap] w fun e w' => e = .returned (.bool true) ∧ Below w.heap.size w w' := by
  by_cases hl : 1048576 < len
  · clear h
    go_enter Try.func16, Try.ntmps16
    go_wp2
    go_ret
    exact ⟨rfl, Below.refl _ _⟩
  have H := Lib.hid h
  clear h
  have hlb : decide (1048576 < (len : Int)) = false := by simp; omega
  go_enter Try.func16, Try.ntmps16
  go_wp2_with fail
  refine (dOk_any a len cap zs _ H.out).mono ?_
  rintro e w1 ⟨f, b, hs, rfl, hb1⟩
  have HS := Lib.hid hs
  clear hs
  have r1 := At.new w1 f b 25
  have B1 := hb1.alloc hb1.size (.cells #[.int .i64 f, .int .i64 b] 25)
  clear hb1
  go_wp2_with fail
  generalize w1.alloc (.cells #[.int .i64 f, .int .i64 b] 25) = W1 at *
  generalize w1.heap.size = R at *
  refine (rok_any f b _).mono ?_
  rintro e w2 ⟨rfl, hb2⟩
  have r2 := r1.below hb2
  have B2 := next B1 hb2
  clear r1 B1 hb2
  obtain ⟨c0, c1, _, _⟩ := id r2
  have hd : (okB f b != okB f b) = false := by simp
  go_wp2_with fail
  refine (sok_any f b _).mono ?_
  rintro e w3 ⟨rfl, hb3⟩
  have r3 := r2.below hb3
  have B3 := next B2 hb3
  clear r2 B2 hb3 c0 c1
  obtain ⟨c0, c1, _, _⟩ := id r3
  by_cases hb0 : b < 0
  · have ho : okB f b = false := okB_no (by omega)
    go_wp2
    go_ret
    exact ⟨by simp [ho], B3⟩
  by_cases hb8 : 8 < b
  · have ho : okB f b = false := okB_no (by omega)
    go_wp2
    go_ret
    exact ⟨by simp [ho], B3⟩
  by_cases hf0 : f < 0
  · have ho : okB f b = false := okB_no (by omega)
    go_wp2
    go_ret
    exact ⟨by simp [ho], B3⟩
  by_cases hf1 : 255 < f
  · have ho : okB f b = false := okB_no (by omega)
    go_wp2
    go_ret
    exact ⟨by simp [ho], B3⟩
  have hm := okB_mod (f := f) (b := b) (by omega) (by omega) (by omega) (by omega)
  have HM := Lib.hid hm
  clear hm
  have d1 : decide (b < 0) = false := by simpa using hb0
  have d2 : decide (8 < b) = false := by simpa using hb8
  have d3 : decide (f < 0) = false := by simpa using hf0
  have d4 : decide (255 < f) = false := by simpa using hf1
  have b0 : 0 ≤ b := by omega
  obtain ⟨n, rfl⟩ := Int.eq_ofNat_of_zero_le b0
  by_cases ho : okB f n = true
  · go_wp2_with fail
    go_loop [5, 6] (fun v i => ∃ j : Nat, j ≤ n ∧ i = .int .i64 j ∧ v = .int .i64 ((256 / 2 ^ j : Nat) : Int)) (fun _ i => n - (intOf i).toNat)
    case atStart => exact ⟨0, Nat.zero_le _, rfl, rfl⟩
    case round =>
      obtain ⟨j, hj, rfl, rfl⟩ := hrel
      have hq : 256 / 2 ^ j ≤ 256 := Nat.div_le_self _ _
      have HQ := Lib.hid (sz_step j)
      by_cases hlt : j < n
      · generalize hx : 256 / 2 ^ j = x at *
        have HX := Lib.hid hx
        clear hx
        go_wp2
        go_round
        case rel => exact ⟨j + 1, by omega, by go_num, by rw [← HQ.out]⟩
        case measure => simp [intOf]; omega
      · have hz : ((256 / 2 ^ j : Nat) : Int) = sz n := by rw [show j = n by omega]; simp [sz]
        rw [hz]
        clear hz HQ hq
        obtain ⟨s1, s2⟩ := sz_bd (b := n) (by omega) (by omega)
        have s0 : ¬ sz n = 0 := by omega
        have hm : (f % sz n == 0) = true := HM.out.trans ho
        have hmany := many_ok ho
        have he : (sz n == sz n) = true := by simp
        go_wp2_with fail
        refine (rmany_is hmany _).mono ?_
        rintro e w4 ⟨rfl, hb4⟩
        go_wp2
        go_ret
        exact ⟨rfl, next B3 hb4⟩
  · have ho' : okB f n = false := by simpa using ho
    clear ho
    go_wp2_with fail
    go_loop [5, 6] (fun v i => ∃ j : Nat, j ≤ n ∧ i = .int .i64 j ∧ v = .int .i64 ((256 / 2 ^ j : Nat) : Int)) (fun _ i => n - (intOf i).toNat)
    case atStart => exact ⟨0, Nat.zero_le _, rfl, rfl⟩
    case round =>
      obtain ⟨j, hj, rfl, rfl⟩ := hrel
      have hq : 256 / 2 ^ j ≤ 256 := Nat.div_le_self _ _
      have HQ := Lib.hid (sz_step j)
      by_cases hlt : j < n
      · generalize hx : 256 / 2 ^ j = x at *
        have HX := Lib.hid hx
        clear hx
        go_wp2
        go_round
        case rel => exact ⟨j + 1, by omega, by go_num, by rw [← HQ.out]⟩
        case measure => simp [intOf]; omega
      · have hz : ((256 / 2 ^ j : Nat) : Int) = sz n := by rw [show j = n by omega]; simp [sz]
        rw [hz]
        clear hz HQ hq
        obtain ⟨s1, s2⟩ := sz_bd (b := n) (by omega) (by omega)
        have s0 : ¬ sz n = 0 := by omega
        have hm : (f % sz n == 0) = false := HM.out.trans ho'
        go_wp2
        go_ret
        exact ⟨rfl, B3⟩

end Go.Proofs.Ytglmoacgaacmeaa
