/-
  Drawn ranges: whatever the bytes, small numbers come out.
-/
import Derived.Test.YtnnmgbgkgnejlaaDoorJ1
namespace Go.Proofs.YtnnmgbgkgnejlaaDoor
open Go.RowKit
set_option linter.unusedSimpArgs false

/-- a range was drawn: small numbers; the reader went on by at most eight places -/
def Ranged (w : World) (B p : Nat) (e : Ending) (w' : World) : Prop :=
  ∃ (f b : Int) (p' : Nat), (-2 ≤ f ∧ f ≤ 257 ∧ -1 ≤ b ∧ b ≤ 9) ∧ e = .returned (.agg #[.int .i64 f, .int .i64 b]) ∧ Rd w' B p' ∧ p' ≤ p + 8 ∧ w.grownBy w' (some B)

theorem drawF1 {x y : Int} (x0 : 0 ≤ x) (x1 : x < 256) (y0 : 0 ≤ y) (y8 : y ≤ 8) : IntKind.i64.wrap (x.tdiv (sz y)) = x / sz y := by
  rw [Int.tdiv_eq_ediv_of_nonneg x0]
  refine IntWalk.i64_in _ ?_
  rcases sz_cases y0 y8 with h | h | h | h | h | h | h | h | h <;> rw [h.2] <;> omega
theorem drawF3 {x y : Int} (x0 : 0 ≤ x) (x1 : x < 256) (y0 : 0 ≤ y) (y8 : y ≤ 8) : 0 ≤ x / sz y * sz y ∧ x / sz y * sz y ≤ 255 := by
  rcases sz_cases y0 y8 with h | h | h | h | h | h | h | h | h <;> rw [h.2] <;> omega
theorem drawF2 {x y : Int} (x0 : 0 ≤ x) (x1 : x < 256) (y0 : 0 ≤ y) (y8 : y ≤ 8) : IntKind.i64.wrap (x / sz y * sz y) = x / sz y * sz y :=
  IntWalk.i64_in _ (by have := drawF3 x0 x1 y0 y8; omega)

/-- while a range is drawn: R: where the result lies, X: the range itself -/
def St (w0 : World) (B R X : Nat) (y : Int) (q : Nat) (w' : World) : Prop :=
  (∃ u : Int, w'.cell? ⟨X, 0, none⟩ = some (.int .i64 u)) ∧ w'.cell? ⟨X, 1, none⟩ = some (.int .i64 y) ∧ w'.frozen? ⟨X, 0, none⟩ = false ∧
  w'.cell? ⟨R, 0, none⟩ = some (.int .i64 0) ∧ w'.cell? ⟨R, 1, none⟩ = some (.int .i64 0) ∧ w'.frozen? ⟨R, 0, none⟩ = false ∧ w'.frozen? ⟨R, 1, none⟩ = false ∧
  (∃ p', Rd w' B p' ∧ p' ≤ q) ∧ w0.grownBy w' (some B)
theorem St.up {w0 : World} {B R X : Nat} {y : Int} {q : Nat} {w' : World} (h : St w0 B R X y q w') : St w0 B R X y (q + 1) w' := by
  obtain ⟨a, b, c, d, e, f, g, ⟨p', hr, hp⟩, i⟩ := h
  exact ⟨a, b, c, d, e, f, g, ⟨p', hr, by omega⟩, i⟩
/-- a pick -/
theorem St.go {w0 w w' : World} {B R X : Nat} {y : Int} {q p : Nat} (h : St w0 B R X y q w) (_hr0 : Rd w B p) (hr : Rd w' B (p + 1)) (hg : w.grownBy w' (some B)) (hX : X ≠ B) (hR : R ≠ B) (hp : p ≤ q := by omega) : St w0 B R X y (q + 1) w' := by
  obtain ⟨⟨u, a⟩, b, c, d, e, f, g, _, i⟩ := h
  exact ⟨⟨u, only_cell hg a hX⟩, only_cell hg b hX, only_frozen hg a c hX, only_cell hg d hR, only_cell hg e hR, only_frozen hg d f hR, only_frozen hg e g hR, ⟨p + 1, hr, by omega⟩, only_on i hg⟩
theorem St.set {w0 w : World} {B R X : Nat} {y : Int} {q : Nat} (h : St w0 B R X y q w) (v : Int) (hX : B < X) (hR : X ≠ R) (hn : w0.heap.size ≤ X) : St w0 B R X y q (w.setCell ⟨X, 0, none⟩ (.int .i64 v)) := by
  obtain ⟨⟨u, a⟩, b, c, d, e, f, g, ⟨p', hr, hp⟩, i⟩ := h
  refine ⟨⟨v, World.cell?_setCell_same' _ _ _ (by rw [a]; rfl)⟩, ?_, by rw [World.frozen?_setCell]; exact c, ?_, ?_, by rw [World.frozen?_setCell]; exact f, by rw [World.frozen?_setCell]; exact g, ⟨p', rd_set hr _ _ hX, hp⟩, only_new i _ hn _⟩
  · rw [World.cell?_setCell_other _ _ _ _ (by simp)]; exact b
  · rw [World.cell?_setCell_far _ _ _ _ hR]; exact d
  · rw [World.cell?_setCell_far _ _ _ _ hR]; exact e

theorem set2 {w : World} {R : Nat} {u v : Value} (k0 : w.cell? ⟨R, 0, none⟩ = some u) (k1 : w.cell? ⟨R, 1, none⟩ = some v) (x y : Value) :
    ((w.setCell ⟨R, 0, none⟩ x).setCell ⟨R, 1, none⟩ y).cell? ⟨R, 0, none⟩ = some x ∧ ((w.setCell ⟨R, 0, none⟩ x).setCell ⟨R, 1, none⟩ y).cell? ⟨R, 1, none⟩ = some y := by
  constructor
  · rw [World.cell?_setCell_other _ _ _ _ (by simp)]; exact World.cell?_setCell_same' _ _ _ (by rw [k0]; rfl)
  · exact World.cell?_setCell_same' _ _ _ (by rw [World.cell?_setCell_other _ _ _ _ (by simp), k1]; rfl)

set_option maxRecDepth 100000 in
set_option maxHeartbeats 1000000 in
theorem range_any (w : World) (B p : Nat) (hp : p < 999000) (hr : Rd w B p) :
    Calls Tryd.prog 87 #[.pointer (some ⟨B, 0, none⟩)] w (Ranged w B p) := by
  have hBw := rd_lt hr
  have HR0 := Lib.hid (rd_alloc hr (.cells #[.int .i64 0, .int .i64 0] 24))
  clear hr
  go_enter Tryd.func87, Tryd.ntmps87
  go_wp2_with fail
  refine (pick_any 9 _ B p (by omega) (by omega) HR0.out).mono ?_
  rintro e w1 ⟨x1, x1l, x1u, rfl, hr1, hg1⟩
  have HG1 := Lib.hid (only_on (only_alloc (World.grownBy.refl w (some B)) _) hg1)
  have k0 := only_cell (b := w.heap.size) (o := 0) (v := .int .i64 0) hg1 (by simp) (by omega)
  have k1 := only_cell (b := w.heap.size) (o := 1) (v := .int .i64 0) hg1 (by simp) (by omega)
  have g0 := only_frozen (b := w.heap.size) (o := 0) (v := .int .i64 0) hg1 (by simp) (by simp) (by omega)
  have g1 := only_frozen (b := w.heap.size) (o := 1) (v := .int .i64 0) hg1 (by simp) (by simp) (by omega)
  have HR1 := Lib.hid hr1
  clear hr1 hg1
  go_wp2_with fail
  refine (pick_any 4 _ B (p + 1) (by omega) (by omega) HR1.out).mono ?_
  rintro e w2 ⟨x2, x2l, x2u, rfl, hr2, hg2⟩
  have HG2 := Lib.hid (only_on HG1.out hg2)
  replace g0 := only_frozen hg2 k0 g0 (by omega)
  replace g1 := only_frozen hg2 k1 g1 (by omega)
  replace k0 := only_cell hg2 k0 (by omega)
  replace k1 := only_cell hg2 k1 (by omega)
  have HR2 := Lib.hid hr2
  clear hr2 hg2 HG1 HR1
  go_wp2_with fail
  refine (pick_any 3 _ B (p + 1 + 1) (by omega) (by omega) HR2.out).mono ?_
  rintro e w3 ⟨x3, x3l, x3u, rfl, hr3, hg3⟩
  have HG3 := Lib.hid (only_on HG2.out hg3)
  replace g0 := only_frozen hg3 k0 g0 (by omega)
  replace g1 := only_frozen hg3 k1 g1 (by omega)
  replace k0 := only_cell hg3 k0 (by omega)
  replace k1 := only_cell hg3 k1 (by omega)
  have hB3 := rd_lt hr3
  have hs3 : w.heap.size < w3.heap.size := World.block_lt_of_cell? _ _ k0
  have HR3 := Lib.hid (rd_alloc hr3 (.cells #[.int .i64 x1, .int .i64 (1 + x2), .int .i64 (2 + x3)] 3))
  clear hr3 hg3 HG2 HR2
  go_wp2_with fail
  refine (pick_any 3 _ B (p + 1 + 1 + 1) (by omega) (by omega) HR3.out).mono ?_
  rintro e w4 ⟨x4, x4l, x4u, rfl, hr4, hg4⟩
  have HG4 := Lib.hid (only_on (only_alloc HG3.out _) hg4)
  have j0 := only_cell (b := w3.heap.size) (o := 0) (v := .int .i64 x1) hg4 (by simp) (by omega)
  have j1 := only_cell (b := w3.heap.size) (o := 1) (v := .int .i64 (1 + x2)) hg4 (by simp) (by omega)
  have j2 := only_cell (b := w3.heap.size) (o := 2) (v := .int .i64 (2 + x3)) hg4 (by simp) (by omega)
  obtain ⟨m, rfl⟩ := Int.eq_ofNat_of_zero_le x4l
  obtain ⟨y, hy0, hy8, jy⟩ : ∃ y : Int, 0 ≤ y ∧ y ≤ 8 ∧ w4.cell? ⟨w3.heap.size, m, none⟩ = some (.int .i64 y) := by
    have hm : m = 0 ∨ m = 1 ∨ m = 2 := by omega
    rcases hm with rfl | rfl | rfl
    · exact ⟨_, by omega, by omega, j0⟩
    · exact ⟨_, by omega, by omega, j1⟩
    · exact ⟨_, by omega, by omega, j2⟩
  replace g0 := only_frozen hg4 (cellA k0 _) (frozA k0 g0 _) (by omega)
  replace g1 := only_frozen hg4 (cellA k1 _) (frozA k1 g1 _) (by omega)
  replace k0 := only_cell hg4 (cellA k0 _) (by omega)
  replace k1 := only_cell hg4 (cellA k1 _) (by omega)
  have HR4 := Lib.hid hr4
  have hB4 := rd_lt hr4
  have hs4 : w.heap.size < w4.heap.size := World.block_lt_of_cell? _ _ k0
  clear hr4 hg4 HG3 HR3 j0 j1 j2
  obtain ⟨s1, s2⟩ := sz_bd hy0 hy8
  have s0 : ¬ sz y = 0 := by omega
  go_wp2_with fail
  have HS0 := Lib.hid (show St w B w.heap.size w4.heap.size y (p + 1 + 1 + 1 + 1) ((w4.alloc (.cells #[.int .i64 0, .int .i64 y] 24)).drew) from
    ⟨⟨0, by simp⟩, by simp, by simp, cellA k0 _, cellA k1 _, frozA k0 g0 _, frozA k1 g1 _, ⟨_, rd_alloc HR4.out _, Nat.le_refl _⟩, only_drew (only_alloc HG4.out _)⟩)
  refine wp_region_held_drew (S := fun w' => St w B w.heap.size w4.heap.size y (p + 1 + 1 + 1 + 1 + 1) w') (by kernel_rfl) ?_ (fun hHeld => ?_)
  · exact HS0.out.up
  refine takeH (i := 0) (v := ?_) rfl rfl (by kernel_rfl) (by kernel_rfl) (by kernel_rfl) (fun _ _ _ h => h) (by rfl) ?_ (by assumption) ?_
  rotate_left 1
  · intro w hSw
    (try dsimp only at hSw)
    go_simp
    try with_reducible rfl
  try simp only [List.setIfInBounds_toArray, List.set_cons_zero, List.set_cons_succ]
  refine takeH (i := 2) (v := ?_) rfl rfl (by kernel_rfl) (by kernel_rfl) (by kernel_rfl) (fun _ _ _ h => h) (by rfl) ?_ (by assumption) ?_
  rotate_left 1
  · intro w hSw
    (try dsimp only at hSw)
    go_simp
    try with_reducible rfl
  try simp only [List.setIfInBounds_toArray, List.set_cons_zero, List.set_cons_succ]
  refine takeH (i := 5) (v := ?_) rfl rfl (by kernel_rfl) (by kernel_rfl) (by kernel_rfl) (fun _ _ _ h => h) (by rfl) ?_ (by assumption) ?_
  rotate_left 1
  · intro w hSw
    (try dsimp only at hSw)
    go_simp
    try with_reducible rfl
  try simp only [List.setIfInBounds_toArray, List.set_cons_zero, List.set_cons_succ]
  refine wpAnyH_ready (rs := [1]) (by kernel_rfl) (by simp) ?_
  refine AllReadyH.cons rfl (fun K hK => ?_) (AllReadyH.nil)
  go_simp
  refine (pick_any 256 _ B (p + 1 + 1 + 1 + 1) (by omega) (by omega) (rd_drew (rd_alloc HR4.out _))).mono ?_
  rintro e w5 ⟨x5, x5l, x5u, rfl, hr5, hg5⟩
  have e5 := drawF1 x5l x5u hy0 hy8
  have e6 := drawF2 x5l x5u hy0 hy8
  go_wp2_with fail
  refine hK.out _ _ ?_ (fun hNew => ?_)
  · exact HS0.out.go (rd_drew (rd_alloc HR4.out _)) hr5 hg5 (by omega) (by omega)
  clear hK K hHeld
  have hHeld := hNew
  clear hNew
  try simp only [Act.put, List.setIfInBounds_toArray, List.set_cons_zero, List.set_cons_succ]
  refine wpAnyH_ready (rs := [3]) (by kernel_rfl) (by simp) ?_
  refine AllReadyH.cons rfl (fun K hK => ?_) (AllReadyH.nil)
  go_simp
  refine (size_any y _ hy0 hy8).mono ?_
  rintro e w6 ⟨rfl, rfl⟩
  go_wp2_with fail
  refine hK.out _ _ ?_ (fun hNew => ?_)
  · exact hHeld
  clear hK K hHeld
  have hHeld := hNew
  clear hNew
  try simp only [Act.put, List.setIfInBounds_toArray, List.set_cons_zero, List.set_cons_succ]
  refine takeH (i := 4) (v := ?_) rfl rfl (by kernel_rfl) (by kernel_rfl) (by kernel_rfl) (fun _ _ _ h => h) (by rfl) ?_ (by assumption) ?_
  rotate_left 1
  · intro w hSw
    (try dsimp only at hSw)
    go_simp
    try with_reducible rfl
  try simp only [List.setIfInBounds_toArray, List.set_cons_zero, List.set_cons_succ]
  refine wpAnyH_ready (rs := [6]) (by kernel_rfl) (by simp) ?_
  refine AllReadyH.cons rfl (fun K hK => ?_) (AllReadyH.nil)
  go_simp
  refine (size_any y _ hy0 hy8).mono ?_
  rintro e w7 ⟨rfl, rfl⟩
  go_wp2_with fail
  refine hK.out _ _ ?_ (fun hNew => ?_)
  · exact hHeld
  clear hK K hHeld
  have hHeld := hNew
  clear hNew
  try simp only [Act.put, List.setIfInBounds_toArray, List.set_cons_zero, List.set_cons_succ]
  refine takeH (i := 7) (v := ?_) rfl rfl (by kernel_rfl) (by kernel_rfl) (by kernel_rfl) (fun _ _ _ h => h) (by rfl) ?_ (by assumption) ?_
  rotate_left 1
  · intro w hSw
    (try dsimp only at hSw)
    go_simp
    try with_reducible rfl
  try simp only [List.setIfInBounds_toArray, List.set_cons_zero, List.set_cons_succ]
  refine takeH (i := 8) (v := ?_) rfl rfl (by kernel_rfl) (by kernel_rfl) (by kernel_rfl) (fun _ _ _ h => h) (by rfl) ?_ (by assumption) ?_
  rotate_left 1
  · intro w hSw
    (try dsimp only at hSw)
    go_simp
    try with_reducible rfl
  try simp only [List.setIfInBounds_toArray, List.set_cons_zero, List.set_cons_succ]
  refine wpAnyH_ready (rs := [9]) (by kernel_rfl) (by simp) ?_
  refine AllReadyH.cons rfl (fun K hK => ?_) (AllReadyH.nil)
  obtain ⟨u, hu⟩ := hHeld.1
  have hfz := hHeld.2.2.1
  go_simp
  refine hK.out _ _ ?_ (fun hNew => ?_)
  · exact hHeld.set _ (by omega) (by omega) (by omega)
  clear hK K hHeld
  have hHeld := hNew
  clear hNew
  try simp only [Act.put, List.setIfInBounds_toArray, List.set_cons_zero, List.set_cons_succ]
  refine wpAnyH_done (by kernel_rfl) ?_ _
  obtain ⟨F, hF, F0, F1⟩ : ∃ F, x5 / sz y * sz y = F ∧ 0 ≤ F ∧ F ≤ 255 := ⟨_, rfl, drawF3 x5l x5u hy0 hy8⟩
  rw [hF] at hHeld ⊢
  have kx0 : (w5.setCell ⟨w4.heap.size, 0, none⟩ (.int .i64 F)).cell? ⟨w4.heap.size, 0, none⟩ = some (.int .i64 F) := World.cell?_setCell_same' _ _ _ (by rw [hu]; rfl)
  obtain ⟨_, kx1, gx0, k0, k1, g0, g1, ⟨p5, hr5, hp5⟩, hg5⟩ := hHeld
  clear e5 e6 hF hu hfz s1 s2 s0
  generalize w5.setCell ⟨w4.heap.size, 0, none⟩ (.int .i64 F) = W5 at *
  have HG5 := Lib.hid hg5
  have HR5 := Lib.hid hr5
  clear hg5 hr5 HS0 HG4 HR4 gx0
  go_wp2_with fail
  refine (pick_any 40 _ B p5 (by omega) (by omega) HR5.out).mono ?_
  rintro e w6 ⟨x6, x6l, x6u, rfl, hr6, hg6⟩
  have HG6 := Lib.hid (only_on HG5.out hg6)
  replace g0 := only_frozen hg6 k0 g0 (by omega)
  replace g1 := only_frozen hg6 k1 g1 (by omega)
  replace k0 := only_cell hg6 k0 (by omega)
  replace k1 := only_cell hg6 k1 (by omega)
  replace kx0 := only_cell hg6 kx0 (by omega)
  replace kx1 := only_cell hg6 kx1 (by omega)
  have HR6 := Lib.hid hr6
  clear hr6 hg6 HG5 HR5
  by_cases h6 : x6 = 0
  · have h6' : (x6 == 0) = true := by simp [h6]
    clear h6 kx0 kx1
    go_wp2_with fail
    refine (pick_any 260 _ B (p5 + 1) (by omega) (by omega) HR6.out).mono ?_
    rintro e w7 ⟨x7, x7l, x7u, rfl, hr7, hg7⟩
    have HG7 := Lib.hid (only_on HG6.out hg7)
    replace g0 := only_frozen hg7 k0 g0 (by omega)
    replace g1 := only_frozen hg7 k1 g1 (by omega)
    replace k0 := only_cell hg7 k0 (by omega)
    replace k1 := only_cell hg7 k1 (by omega)
    have HR7 := Lib.hid hr7
    clear hr7 hg7 HG6 HR6
    go_wp2_with fail
    refine (pick_any 11 _ B (p5 + 1 + 1) (by omega) (by omega) HR7.out).mono ?_
    rintro e w8 ⟨x8, x8l, x8u, rfl, hr8, hg8⟩
    have HG8 := Lib.hid (only_on HG7.out hg8)
    replace g0 := only_frozen hg8 k0 g0 (by omega)
    replace g1 := only_frozen hg8 k1 g1 (by omega)
    replace k0 := only_cell hg8 k0 (by omega)
    replace k1 := only_cell hg8 k1 (by omega)
    have HR8 := Lib.hid hr8
    clear hr8 hg8 HG7 HR7
    go_wp2
    obtain ⟨r0, r1⟩ := set2 k0 k1 (.int .i64 (x7 - 2)) (.int .i64 (x8 - 1))
    have HV := Lib.hid (rd_set (rd_set HR8.out ⟨w.heap.size, 0, none⟩ (.int .i64 (x7 - 2)) hBw) ⟨w.heap.size, 1, none⟩ (.int .i64 (x8 - 1)) hBw)
    have HGV := Lib.hid (only_new (only_new HG8.out ⟨w.heap.size, 0, none⟩ (Nat.le_refl _) (.int .i64 (x7 - 2))) ⟨w.heap.size, 1, none⟩ (Nat.le_refl _) (.int .i64 (x8 - 1)))
    generalize (w8.setCell ⟨w.heap.size, 0, none⟩ (.int .i64 (x7 - 2))).setCell ⟨w.heap.size, 1, none⟩ (.int .i64 (x8 - 1)) = V at *
    exact bodyPost_ret (v := .agg #[.int .i64 (x7 - 2), .int .i64 (x8 - 1)]) (by simp [results, Tryd.results87, go_sem, r0, r1]) rfl ⟨_, _, _, ⟨by omega, by omega, by omega, by omega⟩, rfl, HV.out, by omega, HGV.out⟩
  · have h6' : (x6 == 0) = false := by simp [h6]
    clear h6
    go_wp2
    obtain ⟨r0, r1⟩ := set2 k0 k1 (.int .i64 (F)) (.int .i64 (y))
    have HV := Lib.hid (rd_set (rd_set HR6.out ⟨w.heap.size, 0, none⟩ (.int .i64 (F)) hBw) ⟨w.heap.size, 1, none⟩ (.int .i64 (y)) hBw)
    have HGV := Lib.hid (only_new (only_new HG6.out ⟨w.heap.size, 0, none⟩ (Nat.le_refl _) (.int .i64 (F))) ⟨w.heap.size, 1, none⟩ (Nat.le_refl _) (.int .i64 (y)))
    generalize (w6.setCell ⟨w.heap.size, 0, none⟩ (.int .i64 (F))).setCell ⟨w.heap.size, 1, none⟩ (.int .i64 (y)) = V at *
    exact bodyPost_ret (v := .agg #[.int .i64 (F), .int .i64 (y)]) (by simp [results, Tryd.results87, go_sem, r0, r1]) rfl ⟨_, _, _, ⟨by omega, by omega, by omega, by omega⟩, rfl, HV.out, by omega, HGV.out⟩

end Go.Proofs.YtnnmgbgkgnejlaaDoor
