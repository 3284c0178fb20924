/-
  What the draws of a table with a range, or with an entry, hand back.
-/
import Derived.Test.YtmbcfdlemapppaaDrawTabs
import Derived.Test.YtmbcfdlemapppaaDrawS
namespace Go.Proofs.Ytmbcfdlemapppaa
open Go.RowKit
set_option linter.unusedSimpArgs false
set_option linter.unusedVariables false

theorem owns_set {W : World} {R : Nat} {v : Value} {T : List E} (h : Owns W R v T) {q : Addr} (hq : q.block < R) (u : Value) : Owns (W.setCell q u) R v T := ownsRow_setCell_below h hq u

set_option maxRecDepth 100000 in
set_option maxHeartbeats 2000000 in
theorem dTabDrop_any (a : Option Addr) (len cap : Nat) (zs : List Int) (w : World) (h : IsRow w a len cap zs) :
    Calls Try.prog 46 #[.slice a len cap] w (DrawnTR w) := by
  have H := Lib.hid (isRow_alloc h (.cells #[.int .i64 0, .int .i64 0] 35))
  have HA := Lib.hid (At.new w 0 0 35)
  have HBX := Lib.hid ((Below.refl w.heap.size w).alloc (Nat.le_refl _) (.cells #[.int .i64 0, .int .i64 0] 35))
  have hXs : (w.alloc (.cells #[.int .i64 0, .int .i64 0] 35)).heap.size = w.heap.size + 1 := by simp
  clear h
  go_enter Try.func46, Try.ntmps46
  go_wp2_with fail
  generalize w.alloc (.cells #[.int .i64 0, .int .i64 0] 35) = wX at *
  refine (open_any a len cap zs _ H.out).mono ?_
  rintro e w1 ⟨rfl, hr1, hb1⟩
  have H1 := Lib.hid (And.intro hr1 (And.intro (HA.out.below hb1) (HBX.out.trans (hb1.mono (by omega)))))
  have hBw := rd_lt hr1
  clear hr1 hb1
  rw [hXs] at *
  go_wp2_with fail
  refine (table_any _ _ 0 (by omega) H1.out.1).mono ?_
  rintro e w2 ⟨v, T, p', rfl, hl, ho, hr, hq, hg⟩
  have R := Lib.hid (And.intro ho (And.intro hr (And.intro (H1.out.2.1.only hg (by omega)) (below_only H1.out.2.2 hg (by omega) (by omega)))))
  clear ho hr hg
  obtain ⟨av, pv, rfl, tv, nv⟩ := Owns.tabN R.out.1
  clear tv nv
  by_cases hT : 0 < T.length
  · go_wp2_with fail
    refine (pick_any 4 _ _ p' (by omega) (by omega) R.out.2.1).mono ?_
    rintro e w3 ⟨x, x0, x1, rfl, hr3, hg3⟩
    have R3 := Lib.hid (And.intro (owns_pick R.out.1 hg3 hBw) (And.intro hr3 (And.intro (R.out.2.2.1.only hg3 (by omega)) (below_only R.out.2.2.2 hg3 R.out.2.2.2.size (by omega)))))
    clear hr3 hg3 R
    by_cases hx : 0 < x
    · obtain ⟨bb, off, g0, c0, u0, rfl, _, _, _, _⟩ := (owns_tabA R3.out.1).at hT
      have S0 := Lib.hid (And.intro R3.out.1 (And.intro R3.out.2.2.1 R3.out.2.2.2))
      go_wp2_with fail
      refine wp_region_held_drew (S := fun W => Owns W w1.heap.size (.slice (some ⟨bb, off, none⟩) T.length pv) T ∧ (∃ f b, At W w.heap.size f b) ∧ Below w.heap.size w W) (by kernel_rfl) ?_ (fun hHeld => ?_)
      · exact ⟨S0.out.1.drew, ⟨0, 0, S0.out.2.1.drew⟩, S0.out.2.2.drew⟩
      refine takeH (i := 0) (v := ?_) rfl rfl (by kernel_rfl) (by kernel_rfl) (by kernel_rfl) (fun _ _ _ h => h) (by rfl) ?_ (by assumption) ?_
      rotate_left 1
      · intro w hSw
        (try dsimp only at hSw)
        go_simp
        try with_reducible rfl
      try simp only [List.setIfInBounds_toArray, List.set_cons_zero, List.set_cons_succ]
      refine takeH (i := 1) (v := ?_) rfl rfl (by kernel_rfl) (by kernel_rfl) (by kernel_rfl) (fun _ _ _ h => h) (by rfl) ?_ (by assumption) ?_
      rotate_left 1
      · intro w hSw
        (try dsimp only at hSw)
        go_simp
        try with_reducible rfl
      try simp only [List.setIfInBounds_toArray, List.set_cons_zero, List.set_cons_succ]
      refine takeH (i := 2) (v := ?_) rfl rfl (by kernel_rfl) (by kernel_rfl) (by kernel_rfl) (fun _ _ _ h => h) (by rfl) ?_ (by assumption) ?_
      rotate_left 1
      · intro w hSw
        (try dsimp only at hSw)
        go_simp
        try with_reducible rfl
      try simp only [List.setIfInBounds_toArray, List.set_cons_zero, List.set_cons_succ]
      refine takeH (i := 3) (v := ?_) rfl rfl (by kernel_rfl) (by kernel_rfl) (by kernel_rfl) (fun _ _ _ h => h) (by rfl) ?_ (by assumption) ?_
      rotate_left 1
      · intro w hSw
        (try dsimp only at hSw)
        go_simp
        try with_reducible rfl
      try simp only [List.setIfInBounds_toArray, List.set_cons_zero, List.set_cons_succ]
      refine takeH (i := 4) (v := ?_) rfl rfl (by kernel_rfl) (by kernel_rfl) (by kernel_rfl) (fun _ _ _ h => h) (by rfl) ?_ (by assumption) ?_
      rotate_left 1
      · intro w hSw
        (try dsimp only at hSw)
        go_simp
        try with_reducible rfl
      try simp only [List.setIfInBounds_toArray, List.set_cons_zero, List.set_cons_succ]
      refine wpAnyH_ready (rs := [5]) (by kernel_rfl) (by simp) ?_
      refine AllReadyH.cons rfl (fun K hK => ?_) (AllReadyH.nil)
      go_simp
      refine (pick_any (T.length : Int) _ _ (p' + 1) (by omega) (by omega) (rd_drew R3.out.2.1)).mono ?_
      rintro e w5 ⟨x5, x50, x51, rfl, hr5, hg5⟩
      obtain ⟨m, rfl⟩ := Int.eq_ofNat_of_zero_le x50
      obtain ⟨⟨g, c, u⟩, hTm⟩ : ∃ y, T[m]? = some y := ⟨_, List.getElem?_eq_getElem (show m < T.length by omega)⟩
      go_wp2_with fail
      refine hK.out _ _ ?_ (fun hNew => ?_)
      · exact ⟨owns_pick hHeld.1 hg5 hBw, (by obtain ⟨f, b, k⟩ := hHeld.2.1; exact ⟨f, b, k.only hg5 (by omega)⟩), below_only hHeld.2.2 hg5 hHeld.2.2.size (by omega)⟩
      clear hK K hHeld
      have hHeld := hNew
      clear hNew
      try simp only [Act.put, List.setIfInBounds_toArray, List.set_cons_zero, List.set_cons_succ]
      refine takeH (i := 6) (v := ?_) rfl rfl (by kernel_rfl) (by kernel_rfl) (by kernel_rfl) (fun _ _ _ h => h) (by rfl) ?_ (by assumption) ?_
      rotate_left 1
      · intro w hSw
        (try dsimp only at hSw)
        go_simp
        try with_reducible rfl
      try simp only [List.setIfInBounds_toArray, List.set_cons_zero, List.set_cons_succ]
      refine takeH (i := 7) (v := ?_) rfl rfl (by kernel_rfl) (by kernel_rfl) (by kernel_rfl) (fun _ _ _ h => h) (by rfl) ?_ (by assumption) ?_
      rotate_left 1
      · intro w hSw
        (try dsimp only at hSw)
        go_simp
        try with_reducible rfl
      try simp only [List.setIfInBounds_toArray, List.set_cons_zero, List.set_cons_succ]
      refine takeH (i := 8) (v := ?_) rfl rfl (by kernel_rfl) (by kernel_rfl) (by kernel_rfl) (fun _ _ _ h => h) (by rfl) ?_ (by assumption) ?_
      rotate_left 1
      · intro w hSw
        (try dsimp only at hSw)
        go_simp
        obtain ⟨k0, k1, k2⟩ := tabA_get (owns_tabA hSw.1) hTm
        simp [k0, k1]
        try with_reducible rfl
      try simp only [List.setIfInBounds_toArray, List.set_cons_zero, List.set_cons_succ]
      refine takeH (i := 9) (v := ?_) rfl rfl (by kernel_rfl) (by kernel_rfl) (by kernel_rfl) (fun _ _ _ h => h) (by rfl) ?_ (by assumption) ?_
      rotate_left 1
      · intro w hSw
        (try dsimp only at hSw)
        go_simp
        try with_reducible rfl
      try simp only [List.setIfInBounds_toArray, List.set_cons_zero, List.set_cons_succ]
      refine wpAnyH_ready (rs := [10]) (by kernel_rfl) (by simp) ?_
      refine AllReadyH.cons rfl (fun K hK => ?_) (AllReadyH.nil)
      obtain ⟨f', b', rX⟩ := hHeld.2.1
      obtain ⟨z0, z1, zf0, zf1⟩ := id rX
      go_simp
      refine hK.out _ _ ?_ (fun hNew => ?_)
      · exact ⟨owns_set (owns_set hHeld.1 (show w.heap.size < w1.heap.size by omega) _) (show w.heap.size < w1.heap.size by omega) _, ⟨_, _, rX.put g c⟩, below_set2 hHeld.2.2 _ _ (Nat.le_refl _)⟩
      clear hK K hHeld
      have hHeld := hNew
      clear hNew
      try simp only [Act.put, List.setIfInBounds_toArray, List.set_cons_zero, List.set_cons_succ]
      refine wpAnyH_done (by kernel_rfl) ?_ _
      have r7 := rX.put g c
      have HH := Lib.hid hHeld
      obtain ⟨d0, d1, _, _⟩ := r7
      clear hHeld
      go_wp2_with fail
      exact bodyPost_ret (v := .tuple #[.slice (some ⟨bb, off, none⟩) T.length pv, .agg #[.int .i64 g, .int .i64 c]]) (by simp [results, Try.results46, go_sem, d0, d1]) rfl ⟨_, T, g, c, by omega, rfl, owns_mono HH.out.1 (by omega), HH.out.2.2⟩
    · have hx0 : decide (0 < x) = false := by simpa using hx
      go_wp2_with fail
      refine (range_any _ _ (p' + 1) (by omega) R3.out.2.1).mono ?_
      rintro e w4 ⟨f, b, q4, hs4, rfl, hr4, hq4, hg4⟩
      have R4 := Lib.hid (And.intro (owns_pick R3.out.1 hg4 hBw) (And.intro (R3.out.2.2.1.only hg4 (by omega)) (below_only R3.out.2.2.2 hg4 R3.out.2.2.2.size (by omega))))
      clear hr4 hg4 R3
      obtain ⟨z0, z1, zf0, zf1⟩ := id R4.out.2.1
      have r7 := R4.out.2.1.put f b
      have HD := Lib.hid r7
      clear r7
      go_wp2_with fail
      obtain ⟨d0, d1, _, _⟩ := HD.out
      exact bodyPost_ret (v := .tuple #[.slice av T.length pv, .agg #[.int .i64 f, .int .i64 b]]) (by simp [results, Try.results46, go_sem, d0, d1]) rfl ⟨_, T, f, b, by omega, rfl, owns_mono (owns_set (owns_set R4.out.1 (show w.heap.size < w1.heap.size by omega) _) (show w.heap.size < w1.heap.size by omega) _) (by omega), below_set2 R4.out.2.2 _ _ (Nat.le_refl _)⟩
  · go_wp2_with fail
    refine (range_any _ _ p' (by omega) R.out.2.1).mono ?_
    rintro e w4 ⟨f, b, q4, hs4, rfl, hr4, hq4, hg4⟩
    have R4 := Lib.hid (And.intro (owns_pick R.out.1 hg4 hBw) (And.intro (R.out.2.2.1.only hg4 (by omega)) (below_only R.out.2.2.2 hg4 R.out.2.2.2.size (by omega))))
    clear hr4 hg4 R
    obtain ⟨z0, z1, zf0, zf1⟩ := id R4.out.2.1
    have HD := Lib.hid (R4.out.2.1.put f b)
    go_wp2_with fail
    obtain ⟨d0, d1, _, _⟩ := HD.out
    exact bodyPost_ret (v := .tuple #[.slice av T.length pv, .agg #[.int .i64 f, .int .i64 b]]) (by simp [results, Try.results46, go_sem, d0, d1]) rfl ⟨_, T, f, b, by omega, rfl, owns_mono (owns_set (owns_set R4.out.1 (show w.heap.size < w1.heap.size by omega) _) (show w.heap.size < w1.heap.size by omega) _) (by omega), below_set2 R4.out.2.2 _ _ (Nat.le_refl _)⟩

theorem At3w.only {w w' : World} {R B : Nat} {f b v : Int} (h : At3w w R f b v) (k : w.grownBy w' (some B)) (hne : R ≠ B) : At3w w' R f b v :=
  ⟨⟨only_cell k h.1.1 hne, only_cell k h.1.2.1 hne, only_cell k h.1.2.2 hne⟩, only_frozen k h.1.1 h.2.1 hne, only_frozen k h.1.2.1 h.2.2.1 hne, only_frozen k h.1.2.2 h.2.2.2 hne⟩
theorem At3w.drew {w : World} {R : Nat} {f b v : Int} (h : At3w w R f b v) : At3w w.drew R f b v := h
theorem At3w.put {w : World} {R : Nat} {f b v : Int} (h : At3w w R f b v) (x y z : Int) : At3w (((w.setCell ⟨R, 0, none⟩ (.int .i64 x)).setCell ⟨R, 1, none⟩ (.int .i64 y)).setCell ⟨R, 2, none⟩ (.int .i64 z)) R x y z := ((h.put0 x).put1 y).put2 z
theorem owns_set3 {W : World} {R Q : Nat} {v : Value} {T : List E} (h : Owns W R v T) (hq : Q < R) (x y z : Value) : Owns (((W.setCell ⟨Q, 0, none⟩ x).setCell ⟨Q, 1, none⟩ y).setCell ⟨Q, 2, none⟩ z) R v T :=
  owns_set (owns_set (owns_set h (q := ⟨Q, 0, none⟩) hq _) (q := ⟨Q, 1, none⟩) hq _) (q := ⟨Q, 2, none⟩) hq _
theorem below_set3 {n : Nat} {a w : World} {Q : Nat} (h : Below n a w) (x y z : Value) (hq : n ≤ Q) : Below n a (((w.setCell ⟨Q, 0, none⟩ x).setCell ⟨Q, 1, none⟩ y).setCell ⟨Q, 2, none⟩ z) :=
  (below_set2 h x y hq).setCell (p := ⟨Q, 2, none⟩) hq z

set_option maxRecDepth 100000 in
set_option maxHeartbeats 4000000 in
theorem dTabPut_any (a : Option Addr) (len cap : Nat) (zs : List Int) (w : World) (h : IsRow w a len cap zs) :
    Calls Try.prog 43 #[.slice a len cap] w (DrawnTE w) := by
  have H := Lib.hid (isRow_alloc h (.cells #[.int .i64 0, .int .i64 0, .int .i64 0] 37))
  have HA := Lib.hid (At3w.new w 0 0 0 37)
  have HBX := Lib.hid ((Below.refl w.heap.size w).alloc (Nat.le_refl _) (.cells #[.int .i64 0, .int .i64 0, .int .i64 0] 37))
  have hXs : (w.alloc (.cells #[.int .i64 0, .int .i64 0, .int .i64 0] 37)).heap.size = w.heap.size + 1 := by simp
  clear h
  go_enter Try.func43, Try.ntmps43
  go_wp2_with fail
  generalize w.alloc (.cells #[.int .i64 0, .int .i64 0, .int .i64 0] 37) = wX at *
  refine (open_any a len cap zs _ H.out).mono ?_
  rintro e w1 ⟨rfl, hr1, hb1⟩
  have H1 := Lib.hid (And.intro hr1 (And.intro (HA.out.below hb1) (HBX.out.trans (hb1.mono (by omega)))))
  have hBw := rd_lt hr1
  clear hr1 hb1
  rw [hXs] at *
  go_wp2_with fail
  refine (table_any _ _ 0 (by omega) H1.out.1).mono ?_
  rintro e w2 ⟨v, T, p', rfl, hl, ho, hr, hq, hg⟩
  have R := Lib.hid (And.intro ho (And.intro hr (And.intro (H1.out.2.1.only hg (by omega)) (below_only H1.out.2.2 hg (by omega) (by omega)))))
  clear ho hr hg
  obtain ⟨av, pv, rfl, tv, nv⟩ := Owns.tabN R.out.1
  clear tv nv
  by_cases hT : 0 < T.length
  · go_wp2_with fail
    refine (pick_any 4 _ _ p' (by omega) (by omega) R.out.2.1).mono ?_
    rintro e w3 ⟨x, x0, x1, rfl, hr3, hg3⟩
    have R3 := Lib.hid (And.intro (owns_pick R.out.1 hg3 hBw) (And.intro hr3 (And.intro (R.out.2.2.1.only hg3 (by omega)) (below_only R.out.2.2.2 hg3 R.out.2.2.2.size (by omega)))))
    clear hr3 hg3 R
    by_cases hx : x = 0
    · subst hx
      obtain ⟨bb, off, g0, c0, u0, rfl, _, _, _, _⟩ := (owns_tabA R3.out.1).at hT
      have S0 := Lib.hid (And.intro R3.out.1 (And.intro R3.out.2.2.1 R3.out.2.2.2))
      go_wp2_with fail
      focus
        refine wp_region_held_drew (S := fun W => Owns W w1.heap.size (.slice (some ⟨bb, off, none⟩) T.length pv) T ∧ (∃ f b v, At3w W w.heap.size f b v) ∧ Below w.heap.size w W) (by kernel_rfl) ?_ (fun hHeld => ?_)
        · exact ⟨S0.out.1.drew, ⟨0, 0, 0, S0.out.2.1.drew⟩, S0.out.2.2.drew⟩
        refine takeH (i := 0) (v := ?_) rfl rfl (by kernel_rfl) (by kernel_rfl) (by kernel_rfl) (fun _ _ _ h => h) (by rfl) ?_ (by assumption) ?_
        rotate_left 1
        · intro w hSw
          (try dsimp only at hSw)
          go_simp
          try with_reducible rfl
        try simp only [List.setIfInBounds_toArray, List.set_cons_zero, List.set_cons_succ]
        refine takeH (i := 1) (v := ?_) rfl rfl (by kernel_rfl) (by kernel_rfl) (by kernel_rfl) (fun _ _ _ h => h) (by rfl) ?_ (by assumption) ?_
        rotate_left 1
        · intro w hSw
          (try dsimp only at hSw)
          go_simp
          try with_reducible rfl
        try simp only [List.setIfInBounds_toArray, List.set_cons_zero, List.set_cons_succ]
        refine takeH (i := 2) (v := ?_) rfl rfl (by kernel_rfl) (by kernel_rfl) (by kernel_rfl) (fun _ _ _ h => h) (by rfl) ?_ (by assumption) ?_
        rotate_left 1
        · intro w hSw
          (try dsimp only at hSw)
          go_simp
          try with_reducible rfl
        try simp only [List.setIfInBounds_toArray, List.set_cons_zero, List.set_cons_succ]
        refine takeH (i := 3) (v := ?_) rfl rfl (by kernel_rfl) (by kernel_rfl) (by kernel_rfl) (fun _ _ _ h => h) (by rfl) ?_ (by assumption) ?_
        rotate_left 1
        · intro w hSw
          (try dsimp only at hSw)
          go_simp
          try with_reducible rfl
        try simp only [List.setIfInBounds_toArray, List.set_cons_zero, List.set_cons_succ]
        refine takeH (i := 4) (v := ?_) rfl rfl (by kernel_rfl) (by kernel_rfl) (by kernel_rfl) (fun _ _ _ h => h) (by rfl) ?_ (by assumption) ?_
        rotate_left 1
        · intro w hSw
          (try dsimp only at hSw)
          go_simp
          try with_reducible rfl
        try simp only [List.setIfInBounds_toArray, List.set_cons_zero, List.set_cons_succ]
        refine takeH (i := 9) (v := ?_) rfl rfl (by kernel_rfl) (by kernel_rfl) (by kernel_rfl) (fun _ _ _ h => h) (by rfl) ?_ (by assumption) ?_
        rotate_left 1
        · intro w hSw
          (try dsimp only at hSw)
          go_simp
          try with_reducible rfl
        try simp only [List.setIfInBounds_toArray, List.set_cons_zero, List.set_cons_succ]
        refine wpAnyH_ready (rs := [5]) (by kernel_rfl) (by simp) ?_
        refine AllReadyH.cons rfl (fun K hK => ?_) (AllReadyH.nil)
        go_simp
        refine (pick_any (T.length : Int) _ _ (p' + 1) (by omega) (by omega) (rd_drew R3.out.2.1)).mono ?_
        rintro e w5 ⟨x5, x50, x51, rfl, hr5, hg5⟩
        obtain ⟨m, rfl⟩ := Int.eq_ofNat_of_zero_le x50
        obtain ⟨⟨g, c, u⟩, hTm⟩ : ∃ y, T[m]? = some y := ⟨_, List.getElem?_eq_getElem (show m < T.length by omega)⟩
        go_wp2_with fail
        refine hK.out _ _ ?_ (fun hNew => ?_)
        · exact ⟨owns_pick hHeld.1 hg5 hBw, (by obtain ⟨f, b, v, k⟩ := hHeld.2.1; exact ⟨f, b, v, k.only hg5 (by omega)⟩), below_only hHeld.2.2 hg5 hHeld.2.2.size (by omega)⟩
        clear hK K hHeld
        have hHeld := hNew
        clear hNew
        try simp only [Act.put, List.setIfInBounds_toArray, List.set_cons_zero, List.set_cons_succ]
        refine takeH (i := 6) (v := ?_) rfl rfl (by kernel_rfl) (by kernel_rfl) (by kernel_rfl) (fun _ _ _ h => h) (by rfl) ?_ (by assumption) ?_
        rotate_left 1
        · intro w hSw
          (try dsimp only at hSw)
          go_simp
          try with_reducible rfl
        try simp only [List.setIfInBounds_toArray, List.set_cons_zero, List.set_cons_succ]
        refine takeH (i := 7) (v := ?_) rfl rfl (by kernel_rfl) (by kernel_rfl) (by kernel_rfl) (fun _ _ _ h => h) (by rfl) ?_ (by assumption) ?_
        rotate_left 1
        · intro w hSw
          (try dsimp only at hSw)
          go_simp
          try with_reducible rfl
        try simp only [List.setIfInBounds_toArray, List.set_cons_zero, List.set_cons_succ]
        refine takeH (i := 8) (v := ?_) rfl rfl (by kernel_rfl) (by kernel_rfl) (by kernel_rfl) (fun _ _ _ h => h) (by rfl) ?_ (by assumption) ?_
        rotate_left 1
        · intro w hSw
          (try dsimp only at hSw)
          go_simp
          obtain ⟨k0, k1, k2⟩ := tabA_get (owns_tabA hSw.1) hTm
          simp [k0, k1]
          try with_reducible rfl
        try simp only [List.setIfInBounds_toArray, List.set_cons_zero, List.set_cons_succ]
        refine wpAnyH_ready (rs := [10]) (by kernel_rfl) (by simp) ?_
        refine AllReadyH.cons rfl (fun K hK => ?_) (AllReadyH.nil)
        go_simp
        refine (pick_any 9 _ _ (p' + 1 + 1) (by omega) (by omega) hr5).mono ?_
        rintro e w6 ⟨x6, x60, x61, rfl, hr6, hg6⟩
        have m6 : IntKind.i64.wrap (1 + x6) = 1 + x6 := IntWalk.i64_in _ (by omega)
        go_wp2_with fail
        refine hK.out _ _ ?_ (fun hNew => ?_)
        · exact ⟨owns_pick hHeld.1 hg6 hBw, (by obtain ⟨f, b, v, k⟩ := hHeld.2.1; exact ⟨f, b, v, k.only hg6 (by omega)⟩), below_only hHeld.2.2 hg6 hHeld.2.2.size (by omega)⟩
        clear hK K hHeld
        have hHeld := hNew
        clear hNew
        try simp only [Act.put, List.setIfInBounds_toArray, List.set_cons_zero, List.set_cons_succ]
        refine takeH (i := 11) (v := ?_) rfl rfl (by kernel_rfl) (by kernel_rfl) (by kernel_rfl) (fun _ _ _ h => h) (by rfl) ?_ (by assumption) ?_
        rotate_left 1
        · intro w hSw
          (try dsimp only at hSw)
          go_simp
          try with_reducible rfl
        try simp only [List.setIfInBounds_toArray, List.set_cons_zero, List.set_cons_succ]
        refine takeH (i := 12) (v := ?_) rfl rfl (by kernel_rfl) (by kernel_rfl) (by kernel_rfl) (fun _ _ _ h => h) (by rfl) ?_ (by assumption) ?_
        rotate_left 1
        · intro w hSw
          (try dsimp only at hSw)
          go_simp
          try with_reducible rfl
        try simp only [List.setIfInBounds_toArray, List.set_cons_zero, List.set_cons_succ]
        refine takeH (i := 13) (v := ?_) rfl rfl (by kernel_rfl) (by kernel_rfl) (by kernel_rfl) (fun _ _ _ h => h) (by rfl) ?_ (by assumption) ?_
        rotate_left 1
        · intro w hSw
          (try dsimp only at hSw)
          go_simp
          try with_reducible rfl
        try simp only [List.setIfInBounds_toArray, List.set_cons_zero, List.set_cons_succ]
        refine wpAnyH_ready (rs := [14]) (by kernel_rfl) (by simp) ?_
        refine AllReadyH.cons rfl (fun K hK => ?_) (AllReadyH.nil)
        obtain ⟨f', b', v', rX⟩ := hHeld.2.1
        obtain ⟨⟨z0, z1, z2⟩, zf0, zf1, zf2⟩ := id rX
        go_simp
        refine hK.out _ _ ?_ (fun hNew => ?_)
        · exact ⟨owns_set3 hHeld.1 (show w.heap.size < w1.heap.size by omega) _ _ _, ⟨_, _, _, rX.put g c (1 + x6)⟩, below_set3 hHeld.2.2 _ _ _ (Nat.le_refl _)⟩
        clear hK K hHeld
        have hHeld := hNew
        clear hNew
        try simp only [Act.put, List.setIfInBounds_toArray, List.set_cons_zero, List.set_cons_succ]
        refine wpAnyH_done (by kernel_rfl) ?_ _
        rotate_left
      all_goals
        have r7 := rX.put g c (1 + x6)
        have HH := Lib.hid hHeld
        obtain ⟨⟨d0, d1, d2⟩, _⟩ := r7
        clear hHeld
        go_wp2_with fail
        exact bodyPost_ret (v := .tuple #[.slice (some ⟨bb, off, none⟩) T.length pv, .agg #[.int .i64 g, .int .i64 c, .int .i64 (1 + x6)]]) (by simp [results, Try.results43, go_sem, d0, d1, d2]) rfl ⟨_, T, g, c, _, by omega, rfl, owns_mono HH.out.1 (by omega), HH.out.2.2⟩
    · have hx0 : (x == 0) = false := by simpa using hx
      go_wp2_with fail
      refine (range_any _ _ (p' + 1) (by omega) R3.out.2.1).mono ?_
      rintro e w4 ⟨f, b, q4, hs4, rfl, hr4, hq4, hg4⟩
      have R4 := Lib.hid (And.intro (owns_pick R3.out.1 hg4 hBw) (And.intro hr4 (And.intro (R3.out.2.2.1.only hg4 (by omega)) (below_only R3.out.2.2.2 hg4 R3.out.2.2.2.size (by omega)))))
      clear hr4 hg4 R3
      go_wp2_with fail
      refine (pick_any 9 _ _ q4 (by omega) (by omega) R4.out.2.1).mono ?_
      rintro e w5 ⟨x5, x50, x51, rfl, hr5, hg5⟩
      have R5 := Lib.hid (And.intro (owns_pick R4.out.1 hg5 hBw) (And.intro hr5 (And.intro (R4.out.2.2.1.only hg5 (by omega)) (below_only R4.out.2.2.2 hg5 R4.out.2.2.2.size (by omega)))))
      clear hr5 hg5 R4
      go_wp2_with fail
      refine (pick_any 24 _ _ (q4 + 1) (by omega) (by omega) R5.out.2.1).mono ?_
      rintro e w6 ⟨x6, x60, x61, rfl, hr6, hg6⟩
      have R6 := Lib.hid (And.intro (owns_pick R5.out.1 hg6 hBw) (And.intro (R5.out.2.2.1.only hg6 (by omega)) (below_only R5.out.2.2.2 hg6 R5.out.2.2.2.size (by omega))))
      clear hr6 hg6 R5
      obtain ⟨⟨z0, z1, z2⟩, zf0, zf1, zf2⟩ := id R6.out.2.1
      have HD := Lib.hid (R6.out.2.1.put f b (1 + x5 + x6 / 23))
      go_wp2_with fail
      obtain ⟨⟨d0, d1, d2⟩, _⟩ := HD.out
      exact bodyPost_ret (v := .tuple #[.slice av T.length pv, .agg #[.int .i64 f, .int .i64 b, .int .i64 (1 + x5 + x6 / 23)]]) (by simp [results, Try.results43, go_sem, d0, d1, d2]) rfl ⟨_, T, f, b, _, by omega, rfl, owns_mono (owns_set3 R6.out.1 (show w.heap.size < w1.heap.size by omega) _ _ _) (by omega), below_set3 R6.out.2.2 _ _ _ (Nat.le_refl _)⟩
  · go_wp2_with fail
    refine (range_any _ _ p' (by omega) R.out.2.1).mono ?_
    rintro e w4 ⟨f, b, q4, hs4, rfl, hr4, hq4, hg4⟩
    have R4 := Lib.hid (And.intro (owns_pick R.out.1 hg4 hBw) (And.intro hr4 (And.intro (R.out.2.2.1.only hg4 (by omega)) (below_only R.out.2.2.2 hg4 R.out.2.2.2.size (by omega)))))
    clear hr4 hg4 R
    go_wp2_with fail
    refine (pick_any 9 _ _ q4 (by omega) (by omega) R4.out.2.1).mono ?_
    rintro e w5 ⟨x5, x50, x51, rfl, hr5, hg5⟩
    have R5 := Lib.hid (And.intro (owns_pick R4.out.1 hg5 hBw) (And.intro hr5 (And.intro (R4.out.2.2.1.only hg5 (by omega)) (below_only R4.out.2.2.2 hg5 R4.out.2.2.2.size (by omega)))))
    clear hr5 hg5 R4
    go_wp2_with fail
    refine (pick_any 24 _ _ (q4 + 1) (by omega) (by omega) R5.out.2.1).mono ?_
    rintro e w6 ⟨x6, x60, x61, rfl, hr6, hg6⟩
    have R6 := Lib.hid (And.intro (owns_pick R5.out.1 hg6 hBw) (And.intro (R5.out.2.2.1.only hg6 (by omega)) (below_only R5.out.2.2.2 hg6 R5.out.2.2.2.size (by omega))))
    clear hr6 hg6 R5
    obtain ⟨⟨z0, z1, z2⟩, zf0, zf1, zf2⟩ := id R6.out.2.1
    have HD := Lib.hid (R6.out.2.1.put f b (1 + x5 + x6 / 23))
    go_wp2_with fail
    obtain ⟨⟨d0, d1, d2⟩, _⟩ := HD.out
    exact bodyPost_ret (v := .tuple #[.slice av T.length pv, .agg #[.int .i64 f, .int .i64 b, .int .i64 (1 + x5 + x6 / 23)]]) (by simp [results, Try.results43, go_sem, d0, d1, d2]) rfl ⟨_, T, f, b, _, by omega, rfl, owns_mono (owns_set3 R6.out.1 (show w.heap.size < w1.heap.size by omega) _ _ _) (by omega), below_set3 R6.out.2.2 _ _ _ (Nat.le_refl _)⟩
end Go.Proofs.Ytmbcfdlemapppaa
