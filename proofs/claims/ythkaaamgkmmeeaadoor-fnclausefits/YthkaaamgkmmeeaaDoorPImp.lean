/-
  The program's paths: is a number a house; is a house on a track; a house ahead of a track.
-/
import Derived.Test.YthkaaamgkmmeeaaDoorPErr
namespace Go.Proofs.YthkaaamgkmmeeaaDoor
open Go.RowKit
set_option linter.unusedSimpArgs false
set_option linter.unusedVariables false

set_option maxHeartbeats 400000 in
theorem ihouse_is {h : Int} {x : Bool} (k : isH h = x) (w : World) :
    Calls Tryd.prog 87 #[.int .i64 h] w fun e w' => e = .returned (.bool x) ∧ w = w' := by
  by_cases h1 : 1 ≤ h
  · have hr := Lib.hid (show decide (h ≤ 5) = x by rw [← k]; simp [isH, h1])
    clear k
    go_enter Tryd.func87, Tryd.ntmps87
    go_wp2
    go_ret
    exact ⟨ret_bool hr.out, rfl⟩
  · have hr := Lib.hid (show false = x by rw [← k]; simp [isH, h1])
    clear k
    go_enter Tryd.func87, Tryd.ntmps87
    go_wp2
    go_ret
    exact ⟨ret_bool hr.out, rfl⟩

theorem pbit_is : ∀ m : Nat, m < 64 → ∀ k : Nat, k < 6 → (bits .and .u64 ((m : Int) / 2 ^ k) 1 == 1) = m.testBit k := by decide +kernel

set_option maxHeartbeats 400000 in
theorem thas_yes {m : Nat} {h : Int} (hm : m < 64) (h1 : 1 ≤ h) (h5 : h ≤ 5) (v : Value) (w : World) :
    Calls Tryd.prog 53 #[.agg #[.int .u64 m, v], .int .i64 h] w fun e w' => e = .returned (.bool (m.testBit h.toNat)) ∧ Below w.heap.size w w' := by
  have hh : isH h = true := (isH_iff h).2 ⟨h1, h5⟩
  go_enter Tryd.func53, Tryd.ntmps53
  go_wp2_with fail
  refine (ihouse_is hh _).mono ?_
  rintro e w1 ⟨rfl, rfl⟩
  go_wp2
  go_ret
  refine ⟨ret_bool ?_, (Below.refl _ _).alloc (Nat.le_refl _) _⟩
  have := pbit_is m hm h.toNat (by omega)
  exact this
set_option maxHeartbeats 400000 in
theorem thas_no {m : Nat} {h : Int} (hh : isH h = false) (v : Value) (w : World) :
    Calls Tryd.prog 53 #[.agg #[.int .u64 m, v], .int .i64 h] w fun e w' => e = .returned (.bool false) ∧ Below w.heap.size w w' := by
  go_enter Tryd.func53, Tryd.ntmps53
  go_wp2_with fail
  refine (ihouse_is hh _).mono ?_
  rintro e w1 ⟨rfl, rfl⟩
  go_wp2
  go_ret
  exact ⟨rfl, (Below.refl _ _).alloc (Nat.le_refl _) _⟩
/-- has, of a track whose bits are a path's -/
theorem thas_is {L : List Int} {h : Int} {x : Bool} (hL : Path L) (k : decide (h ∈ L) = x) (v : Value) (w : World) :
    Calls Tryd.prog 53 #[.agg #[.int .u64 (bitsH L : Int), v], .int .i64 h] w fun e w' => e = .returned (.bool x) ∧ Below w.heap.size w w' := by
  cases hh : isH h with
  | true =>
    obtain ⟨h1, h5⟩ := (isH_iff h).1 hh
    have := thas_yes (bits_lt hL.1) h1 h5 v w
    rw [bits_has hL.1 h1 h5, k] at this
    exact this
  | false =>
    have e : x = false := by rw [← k]; exact decide_eq_false fun hm => isH_no hh (hL.1 h hm)
    rw [e]; exact thas_no hh v w

/-- two values in a block -/
def AtV (w : World) (R : Nat) (x y : Value) : Prop := w.cell? ⟨R, 0, none⟩ = some x ∧ w.cell? ⟨R, 1, none⟩ = some y ∧ w.frozen? ⟨R, 0, none⟩ = false ∧ w.frozen? ⟨R, 1, none⟩ = false
theorem AtV.new (w : World) (x y : Value) (t : TypeId) : AtV (w.alloc (.cells #[x, y] t)) w.heap.size x y := ⟨by simp, by simp, by simp, by simp⟩
theorem AtV.lt {w : World} {R : Nat} {x y : Value} (h : AtV w R x y) : R < w.heap.size := World.block_lt_of_cell? w _ h.1
theorem AtV.below {w w' : World} {R : Nat} {x y : Value} (h : AtV w R x y) (k : Below w.heap.size w w') : AtV w' R x y :=
  ⟨cell_later k h.1, cell_later k h.2.1, by rw [k.frozen (p := ⟨R, 0, none⟩) h.lt]; exact h.2.2.1, by rw [k.frozen (p := ⟨R, 1, none⟩) h.lt]; exact h.2.2.2⟩
theorem AtV.alloc {w : World} {R : Nat} {x y : Value} (h : AtV w R x y) (o : Obj) : AtV (w.alloc o) R x y := h.below ((Below.refl _ _).alloc (Nat.le_refl _) o)
theorem AtV.drew {w : World} {R : Nat} {x y : Value} (h : AtV w R x y) : AtV w.drew R x y := h
theorem AtV.far {w : World} {R : Nat} {x y : Value} (h : AtV w R x y) (q : Addr) (v : Value) (hne : q.block ≠ R) : AtV (w.setCell q v) R x y :=
  ⟨by rw [World.cell?_setCell_far _ _ _ _ hne]; exact h.1, by rw [World.cell?_setCell_far _ _ _ _ hne]; exact h.2.1, by rw [World.frozen?_setCell]; exact h.2.2.1, by rw [World.frozen?_setCell]; exact h.2.2.2⟩
theorem AtV.put {w : World} {R : Nat} {x y : Value} (h : AtV w R x y) (u v : Value) : AtV ((w.setCell ⟨R, 0, none⟩ u).setCell ⟨R, 1, none⟩ v) R u v := by
  refine ⟨?_, ?_, by rw [World.frozen?_setCell, World.frozen?_setCell]; exact h.2.2.1, by rw [World.frozen?_setCell, World.frozen?_setCell]; exact h.2.2.2⟩
  · rw [World.cell?_setCell_other _ _ _ _ (by simp)]; exact World.cell?_setCell_same' _ _ _ (by rw [h.1]; rfl)
  · refine World.cell?_setCell_same' _ _ _ ?_
    rw [World.cell?_setCell_other _ _ _ _ (by simp), h.2.1]; rfl
theorem AtV.kept {A B : World} {row : Option Nat} {R : Nat} {x y : Value} (h : AtV A R x y) (hg : A.grownBy B row) (hr : ∀ r, row = some r → ∃ o : Obj, A.heap[r]? = some o ∧ o.isCells = false) : AtV B R x y :=
  ⟨cell_kept h.1 hg hr, cell_kept h.2.1 hg hr, (frozen_kept h.1 hg hr).trans h.2.2.1, (frozen_kept h.2.1 hg hr).trans h.2.2.2⟩
theorem AtV.only {A B : World} {row : Option Nat} {R : Nat} {x y : Value} (h : AtV A R x y) (hg : A.grownBy B row) (hr : some R ≠ row) : AtV B R x y :=
  ⟨hg.cell h.1 hr, hg.cell h.2.1 hr, (World.frozen?_of_block (w := A) (a := ⟨R, 0, none⟩) (hg.block R h.lt hr)).trans h.2.2.1, (World.frozen?_of_block (w := A) (a := ⟨R, 1, none⟩) (hg.block R h.lt hr)).trans h.2.2.2⟩
theorem EV.far {w : World} {p : Addr} (h : EV w p) (q : Addr) (v : Value) (hne : q.block ≠ 0) : EV (w.setCell q v) p := by
  unfold EV; rw [World.cell?_setCell_far _ _ _ _ hne]; exact h
theorem EV.lt {w : World} {p : Addr} (h : EV w p) : 0 < w.heap.size := World.block_lt_of_cell? w _ h
theorem below_put {w W : World} {n R : Nat} (h : Below n w W) (hR : n ≤ R) (x y : Value) : Below n w ((W.setCell ⟨R, 0, none⟩ x).setCell ⟨R, 1, none⟩ y) :=
  (h.setCell (p := ⟨R, 0, none⟩) hR x).setCell (p := ⟨R, 1, none⟩) hR y

/-- the answer of ahead, where there is none -/
abbrev noTrack (p : Addr) : Value := .tuple #[.agg #[.int .u64 0, .slice none 0 0], errV p]

set_option maxRecDepth 4000 in
set_option maxHeartbeats 1000000 in
theorem ahead_no1 {h : Int} (hh : isH h = false) (m : Int) (a : Option Addr) (n c : Nat) (w : World) (p : Addr) (hE : EV w p) :
    Calls Tryd.prog 84 #[.agg #[.int .u64 m, .slice a n c], .int .i64 h] w fun e w' => e = .returned (noTrack p) ∧ Below w.heap.size w w' := by
  have hEl := hE.lt
  have hA := AtV.new (w.alloc (.cells #[.int .u64 m, .slice a n c] 76)) (.int .u64 0) (.slice none 0 0) 76
  have hE2 := (hE.alloc (.cells #[.int .u64 m, .slice a n c] 76)).alloc (.cells #[.int .u64 0, .slice none 0 0] 76)
  have hB := ((Below.refl w.heap.size w).alloc (Nat.le_refl _) (.cells #[.int .u64 m, .slice a n c] 76)).alloc (by simp) (.cells #[.int .u64 0, .slice none 0 0] 76)
  simp only [World.size_alloc] at hA
  have HH := Lib.hid (And.intro hA (And.intro hE2 hB))
  clear hA hE2 hB
  go_enter Tryd.func84, Tryd.ntmps84
  go_wp2_with fail
  generalize (w.alloc (.cells #[.int .u64 m, .slice a n c] 76)).alloc (.cells #[.int .u64 0, .slice none 0 0] 76) = w0 at *
  refine (ihouse_is hh _).mono ?_
  rintro e w1 ⟨rfl, rfl⟩
  go_wp2_with fail
  have hAt := HH.out.1
  refine wp_region_held_drew (S := fun W => W.cell? ⟨0, 0, none⟩ = some (errV p) ∧ (∃ x y, AtV W (w.heap.size + 1) x y) ∧ Below w.heap.size w W) (by kernel_rfl) ?_ (fun hHeld => ?_)
  · exact ⟨HH.out.2.1, ⟨_, _, HH.out.1.drew⟩, HH.out.2.2.drew⟩
  refine takeH (i := 0) (v := ?_) rfl rfl (by kernel_rfl) (by kernel_rfl) (by kernel_rfl) (fun _ _ _ h => h) (by rfl) ?_ (by assumption) ?_
  rotate_left 1
  · intro w hSw
    (try dsimp only at hSw)
    go_simp
    try with_reducible rfl
  try simp only [List.setIfInBounds_toArray, List.set_cons_zero, List.set_cons_succ]
  refine takeH (i := 1) (v := ?_) rfl rfl (by kernel_rfl) (by kernel_rfl) (by kernel_rfl) (fun _ _ _ h => h) (by rfl) ?_ (by assumption) ?_
  rotate_left 1
  · intro w hSw
    (try dsimp only at hSw)
    go_simp
    try with_reducible rfl
  try simp only [List.setIfInBounds_toArray, List.set_cons_zero, List.set_cons_succ]
  refine wpAnyH_ready (rs := [2]) (by kernel_rfl) (by simp) ?_
  refine AllReadyH.cons rfl (fun K hK => ?_) (AllReadyH.nil)
  obtain ⟨q0, q1, q2, q3⟩ := id hAt
  go_simp
  refine hK.out _ _ ?_ (fun hNew => ?_)
  · exact ⟨(EV.far (EV.far hHeld.1 ⟨w.heap.size + 1, 0, none⟩ _ (by simp)) ⟨w.heap.size + 1, 1, none⟩ _ (by simp)), ⟨_, _, hAt.drew.put _ _⟩, below_put hHeld.2.2 (by omega) _ _⟩
  clear hK K hHeld
  have hHeld := hNew
  clear hNew
  try simp only [Act.put, List.setIfInBounds_toArray, List.set_cons_zero, List.set_cons_succ]
  refine takeH (i := 3) (v := ?_) rfl rfl (by kernel_rfl) (by kernel_rfl) (by kernel_rfl) (fun _ _ _ h => h) (by rfl) ?_ (by assumption) ?_
  rotate_left 1
  · intro w hSw
    (try dsimp only at hSw)
    go_simp
    try with_reducible rfl
  try simp only [List.setIfInBounds_toArray, List.set_cons_zero, List.set_cons_succ]
  refine wpAnyH_done (by kernel_rfl) ?_ _
  have r1 := (hAt.put (.int .u64 0) (.slice none 0 0)).drew
  have HB := Lib.hid hHeld.2.2
  clear hHeld HH hAt q0 q1 q2 q3
  generalize ((w0.setCell ⟨w.heap.size + 1, 0, none⟩ (.int .u64 0)).setCell ⟨w.heap.size + 1, 1, none⟩ (.slice none 0 0)).drew = w9 at *
  go_wp2
  obtain ⟨d0, d1, _, _⟩ := r1
  exact bodyPost_ret (v := noTrack p) (by simp [results, Tryd.results84, go_sem, d0, d1]) rfl ⟨rfl, HB.out⟩
set_option maxRecDepth 4000 in
set_option maxHeartbeats 1000000 in
theorem ahead_no2 {L : List Int} {h : Int} (hL : Path L) (hh : isH h = true) (hm : decide (h ∈ L) = true) (a : Option Addr) (n c : Nat) (w : World) (p : Addr) (hE : EV w p) :
    Calls Tryd.prog 84 #[.agg #[.int .u64 (bitsH L : Int), .slice a n c], .int .i64 h] w fun e w' => e = .returned (noTrack p) ∧ Below w.heap.size w w' := by
  have hEl := hE.lt
  have hA := AtV.new (w.alloc (.cells #[.int .u64 (bitsH L : Int), .slice a n c] 76)) (.int .u64 0) (.slice none 0 0) 76
  have hE2 := (hE.alloc (.cells #[.int .u64 (bitsH L : Int), .slice a n c] 76)).alloc (.cells #[.int .u64 0, .slice none 0 0] 76)
  have hB := ((Below.refl w.heap.size w).alloc (Nat.le_refl _) (.cells #[.int .u64 (bitsH L : Int), .slice a n c] 76)).alloc (by simp) (.cells #[.int .u64 0, .slice none 0 0] 76)
  simp only [World.size_alloc] at hA
  have hX := (AtV.new w (.int .u64 (bitsH L : Int)) (.slice a n c) 76).alloc (.cells #[.int .u64 0, .slice none 0 0] 76)
  have HH := Lib.hid (And.intro hA (And.intro hE2 hB))
  obtain ⟨x0, x1, _, _⟩ := hX
  clear hA hE2 hB
  go_enter Tryd.func84, Tryd.ntmps84
  go_wp2_with fail
  generalize (w.alloc (.cells #[.int .u64 (bitsH L : Int), .slice a n c] 76)).alloc (.cells #[.int .u64 0, .slice none 0 0] 76) = w0 at *
  refine (ihouse_is hh _).mono ?_
  rintro e w1 ⟨rfl, rfl⟩
  go_wp2_with fail
  refine (thas_is hL hm _ _).mono ?_
  rintro e w1 ⟨rfl, hb1⟩
  have HI := Lib.hid (And.intro (HH.out.1.below hb1) (And.intro (HH.out.2.1.below hb1) (next HH.out.2.2 hb1)))
  clear HH x0 x1 hb1
  go_wp2_with fail
  have hAt := HI.out.1
  refine wp_region_held_drew (S := fun W => W.cell? ⟨0, 0, none⟩ = some (errV p) ∧ (∃ x y, AtV W (w.heap.size + 1) x y) ∧ Below w.heap.size w W) (by kernel_rfl) ?_ (fun hHeld => ?_)
  · exact ⟨HI.out.2.1, ⟨_, _, HI.out.1.drew⟩, HI.out.2.2.drew⟩
  refine takeH (i := 0) (v := ?_) rfl rfl (by kernel_rfl) (by kernel_rfl) (by kernel_rfl) (fun _ _ _ h => h) (by rfl) ?_ (by assumption) ?_
  rotate_left 1
  · intro w hSw
    (try dsimp only at hSw)
    go_simp
    try with_reducible rfl
  try simp only [List.setIfInBounds_toArray, List.set_cons_zero, List.set_cons_succ]
  refine takeH (i := 1) (v := ?_) rfl rfl (by kernel_rfl) (by kernel_rfl) (by kernel_rfl) (fun _ _ _ h => h) (by rfl) ?_ (by assumption) ?_
  rotate_left 1
  · intro w hSw
    (try dsimp only at hSw)
    go_simp
    try with_reducible rfl
  try simp only [List.setIfInBounds_toArray, List.set_cons_zero, List.set_cons_succ]
  refine wpAnyH_ready (rs := [2]) (by kernel_rfl) (by simp) ?_
  refine AllReadyH.cons rfl (fun K hK => ?_) (AllReadyH.nil)
  obtain ⟨q0, q1, q2, q3⟩ := id hAt
  go_simp
  refine hK.out _ _ ?_ (fun hNew => ?_)
  · exact ⟨(EV.far (EV.far hHeld.1 ⟨w.heap.size + 1, 0, none⟩ _ (by simp)) ⟨w.heap.size + 1, 1, none⟩ _ (by simp)), ⟨_, _, hAt.drew.put _ _⟩, below_put hHeld.2.2 (by omega) _ _⟩
  clear hK K hHeld
  have hHeld := hNew
  clear hNew
  try simp only [Act.put, List.setIfInBounds_toArray, List.set_cons_zero, List.set_cons_succ]
  refine takeH (i := 3) (v := ?_) rfl rfl (by kernel_rfl) (by kernel_rfl) (by kernel_rfl) (fun _ _ _ h => h) (by rfl) ?_ (by assumption) ?_
  rotate_left 1
  · intro w hSw
    (try dsimp only at hSw)
    go_simp
    try with_reducible rfl
  try simp only [List.setIfInBounds_toArray, List.set_cons_zero, List.set_cons_succ]
  refine wpAnyH_done (by kernel_rfl) ?_ _
  have r1 := (hAt.put (.int .u64 0) (.slice none 0 0)).drew
  have HB := Lib.hid hHeld.2.2
  clear hHeld HI hAt q0 q1 q2 q3
  generalize ((w1.setCell ⟨w.heap.size + 1, 0, none⟩ (.int .u64 0)).setCell ⟨w.heap.size + 1, 1, none⟩ (.slice none 0 0)).drew = w9 at *
  go_wp2
  obtain ⟨d0, d1, _, _⟩ := r1
  exact bodyPost_ret (v := noTrack p) (by simp [results, Tryd.results84, go_sem, d0, d1]) rfl ⟨rfl, HB.out⟩

theorem or_is : ∀ m : Nat, m < 64 → ∀ k : Nat, k < 6 → bits .or .u64 (m : Int) (IntKind.u64.wrap (2 ^ k)) = ((m ||| 1 <<< k : Nat) : Int) := by decide +kernel
def OwnT (w : World) (L : List Int) (e : Ending) (w' : World) : Prop := ∃ v, e = .returned (.tuple #[.agg #[.int .u64 (bitsH L : Int), v], .nilIface]) ∧ OwnI w' w.heap.size v L ∧ Below w.heap.size w w'

set_option maxRecDepth 4000 in
set_option maxHeartbeats 1000000 in
theorem ahead_yes {L : List Int} {h : Int} (hL : Path L) (h1 : 1 ≤ h) (h5 : h ≤ 5) (hm : decide (h ∈ L) = false) (a : Option Addr) (c : Nat) (w : World) (hI : IntA w a L) (hc : L.length ≤ c) :
    Calls Tryd.prog 84 #[.agg #[.int .u64 (bitsH L : Int), .slice a L.length c], .int .i64 h] w (OwnT w (h :: L)) := by
  have hh : isH h = true := (isH_iff h).2 ⟨h1, h5⟩
  have hlen := hL.len
  have hA := AtV.new (w.alloc (.cells #[.int .u64 (bitsH L : Int), .slice a L.length c] 76)) (.int .u64 0) (.slice none 0 0) 76
  have hX := (AtV.new w (.int .u64 (bitsH L : Int)) (.slice a L.length c) 76).alloc (.cells #[.int .u64 0, .slice none 0 0] 76)
  have hB := ((Below.refl w.heap.size w).alloc (Nat.le_refl _) (.cells #[.int .u64 (bitsH L : Int), .slice a L.length c] 76)).alloc (by simp) (.cells #[.int .u64 0, .slice none 0 0] 76)
  have hI2 := (hI.alloc (.cells #[.int .u64 (bitsH L : Int), .slice a L.length c] 76)).alloc (.cells #[.int .u64 0, .slice none 0 0] 76)
  simp only [World.size_alloc] at hA
  have HH := Lib.hid (And.intro hA (And.intro hX (And.intro hB hI2)))
  obtain ⟨x0, x1, _, _⟩ := hX
  clear hA hB hI2 hI
  go_enter Tryd.func84, Tryd.ntmps84
  go_wp2_with fail
  generalize (w.alloc (.cells #[.int .u64 (bitsH L : Int), .slice a L.length c] 76)).alloc (.cells #[.int .u64 0, .slice none 0 0] 76) = w0 at *
  refine (ihouse_is hh _).mono ?_
  rintro e w1 ⟨rfl, rfl⟩
  go_wp2_with fail
  refine (thas_is hL hm _ _).mono ?_
  rintro e w1 ⟨rfl, hb1⟩
  have HI := Lib.hid (And.intro (HH.out.1.below hb1) (And.intro (HH.out.2.1.below hb1) (And.intro (next HH.out.2.2.1 hb1) (HH.out.2.2.2.below hb1))))
  clear HH x0 x1 hb1
  go_wp2_with fail
  have hs1 := HI.out.1.lt
  have hR0 : w.heap.size ≤ w1.heap.size := by omega
  refine wp_region_held_drew (S := fun W => W.cell? ⟨w.heap.size, 0, none⟩ = some (.int .u64 (bitsH L : Int)) ∧ W.cell? ⟨w.heap.size, 1, none⟩ = some (.slice a L.length c)) (by kernel_rfl) ?_ (fun hHeld => ?_)
  · exact ⟨HI.out.2.1.1, HI.out.2.1.2.1⟩
  refine takeH (i := 0) (v := ?_) rfl rfl (by kernel_rfl) (by kernel_rfl) (by kernel_rfl) (fun _ _ _ h => h) (by rfl) ?_ (by assumption) ?_
  rotate_left 1
  · intro w hSw
    (try dsimp only at hSw)
    go_simp
    try with_reducible rfl
  try simp only [List.setIfInBounds_toArray, List.set_cons_zero, List.set_cons_succ]
  refine takeH (i := 1) (v := ?_) rfl rfl (by kernel_rfl) (by kernel_rfl) (by kernel_rfl) (fun _ _ _ h => h) (by rfl) ?_ (by assumption) ?_
  rotate_left 1
  · intro w hSw
    (try dsimp only at hSw)
    go_simp
    try with_reducible rfl
  try simp only [List.setIfInBounds_toArray, List.set_cons_zero, List.set_cons_succ]
  refine takeH (i := 2) (v := ?_) rfl rfl (by kernel_rfl) (by kernel_rfl) (by kernel_rfl) (fun _ _ _ h => h) (by rfl) ?_ (by assumption) ?_
  rotate_left 1
  · intro w hSw
    (try dsimp only at hSw)
    go_simp
    try with_reducible rfl
  try simp only [List.setIfInBounds_toArray, List.set_cons_zero, List.set_cons_succ]
  refine takeH (i := 3) (v := ?_) rfl rfl (by kernel_rfl) (by kernel_rfl) (by kernel_rfl) (fun _ _ _ h => h) (by rfl) ?_ (by assumption) ?_
  rotate_left 1
  · intro w hSw
    (try dsimp only at hSw)
    go_simp
    try with_reducible rfl
  try simp only [List.setIfInBounds_toArray, List.set_cons_zero, List.set_cons_succ]
  refine takeH (i := 4) (v := ?_) rfl rfl (by kernel_rfl) (by kernel_rfl) (by kernel_rfl) (fun _ _ _ h => h) (by rfl) ?_ (by assumption) ?_
  rotate_left 1
  · intro w hSw
    (try dsimp only at hSw)
    go_simp
    try with_reducible rfl
  try simp only [List.setIfInBounds_toArray, List.set_cons_zero, List.set_cons_succ]
  refine takeH (i := 5) (v := ?_) rfl rfl (by kernel_rfl) (by kernel_rfl) (by kernel_rfl) (fun _ _ _ h => h) (by rfl) ?_ (by assumption) ?_
  rotate_left 1
  · intro w hSw
    (try dsimp only at hSw)
    go_simp
    try with_reducible rfl
  try simp only [List.setIfInBounds_toArray, List.set_cons_zero, List.set_cons_succ]
  refine takeH (i := 7) (v := ?_) rfl rfl (by kernel_rfl) (by kernel_rfl) (by kernel_rfl) (fun _ _ _ h => h) (by rfl) ?_ (by assumption) ?_
  rotate_left 1
  · intro w hSw
    (try dsimp only at hSw)
    go_simp
    try with_reducible rfl
  try simp only [List.setIfInBounds_toArray, List.set_cons_zero, List.set_cons_succ]
  refine takeH (i := 8) (v := ?_) rfl rfl (by kernel_rfl) (by kernel_rfl) (by kernel_rfl) (fun _ _ _ h => h) (by rfl) ?_ (by assumption) ?_
  rotate_left 1
  · intro w hSw
    (try dsimp only at hSw)
    go_simp
    try with_reducible rfl
  try simp only [List.setIfInBounds_toArray, List.set_cons_zero, List.set_cons_succ]
  refine wpAnyH_ready (rs := [6]) (by kernel_rfl) (by simp) ?_
  refine AllReadyH.cons rfl (fun K hK => ?_) (AllReadyH.nil)
  go_simp
  refine hK.out _ _ ?_ (fun hNew => ?_)
  · exact ⟨cellA hHeld.1 _, cellA hHeld.2 _⟩
  clear hK K hHeld
  have hHeld := hNew
  clear hNew
  try simp only [Act.put, List.setIfInBounds_toArray, List.set_cons_zero, List.set_cons_succ]
  refine wpAnyH_ready (rs := [9]) (by kernel_rfl) (by simp) ?_
  refine AllReadyH.cons rfl (fun K hK => ?_) (AllReadyH.nil)
  refine wp_appI (.tmp 22) (.tmp 24) rfl w1.heap.size _ [h] (by simp [Act.eval]) (owni_one w1.drew w1.heap.size (Nat.le_refl _) h) a c L (by simp [Act.eval]) (HI.out.2.2.2.drew.alloc _) hc (by simp; omega) (by simp) ?_
  intro v2 w2 own2 grow2
  have R2 := (HI.out.1.drew.alloc (.cells #[.int .i64 h] 3)).only grow2 (by simp [Value.ownBlock]; omega)
  have X2 := (HI.out.2.1.drew.alloc (.cells #[.int .i64 h] 3)).only grow2 (by simp [Value.ownBlock]; omega)
  have B2 := (HI.out.2.2.1.drew.alloc hR0 (.cells #[.int .i64 h] 3)).trans (appi_below (L := [h]) (owni_one w1.drew w.heap.size hR0 h) grow2 (by simp; omega))
  obtain ⟨a2, c2, rfl, hc2, hI2⟩ := OwnI.tab own2
  have O2 := Lib.hid own2
  clear own2 grow2 hI2
  refine hK.out _ _ ?_ (fun hNew => ?_)
  · exact ⟨X2.1, X2.2.1⟩
  clear hK K hHeld
  have hHeld := hNew
  clear hNew
  try simp only [Act.put, List.setIfInBounds_toArray, List.set_cons_zero, List.set_cons_succ]
  refine takeH (i := 10) (v := ?_) rfl rfl (by kernel_rfl) (by kernel_rfl) (by kernel_rfl) (fun _ _ _ h => h) (by rfl) ?_ (by assumption) ?_
  rotate_left 1
  · intro w hSw
    (try dsimp only at hSw)
    go_simp
    try with_reducible rfl
  try simp only [List.setIfInBounds_toArray, List.set_cons_zero, List.set_cons_succ]
  refine wpAnyH_ready (rs := [11]) (by kernel_rfl) (by simp) ?_
  refine AllReadyH.cons rfl (fun K hK => ?_) (AllReadyH.nil)
  obtain ⟨q0, q1, q2, q3⟩ := id R2
  go_simp
  refine hK.out _ _ ?_ (fun hNew => ?_)
  · exact ⟨by rw [World.cell?_setCell_far _ _ _ _ (by simp), World.cell?_setCell_far _ _ _ _ (by simp)]; exact X2.1, by rw [World.cell?_setCell_far _ _ _ _ (by simp), World.cell?_setCell_far _ _ _ _ (by simp)]; exact X2.2.1⟩
  clear hK K hHeld
  have hHeld := hNew
  clear hNew
  try simp only [Act.put, List.setIfInBounds_toArray, List.set_cons_zero, List.set_cons_succ]
  refine takeH (i := 12) (v := ?_) rfl rfl (by kernel_rfl) (by kernel_rfl) (by kernel_rfl) (fun _ _ _ h => h) (by rfl) ?_ (by assumption) ?_
  rotate_left 1
  · intro w hSw
    (try dsimp only at hSw)
    go_simp
    try with_reducible rfl
  try simp only [List.setIfInBounds_toArray, List.set_cons_zero, List.set_cons_succ]
  refine wpAnyH_done (by kernel_rfl) ?_ _
  have e1 : bits .or .u64 (bitsH L : Int) (IntKind.u64.wrap (2 ^ h.toNat)) = (bitsH (h :: L) : Int) := or_is _ (bits_lt hL.1) _ (by omega)
  rw [e1]
  have r1 := R2.put (.int .u64 (bitsH (h :: L) : Int)) (.slice a2 (L.length + 1) c2)
  have O3 : OwnI ((w2.setCell ⟨w.heap.size + 1, 0, none⟩ (.int .u64 (bitsH (h :: L) : Int))).setCell ⟨w.heap.size + 1, 1, none⟩ (.slice a2 (L.length + 1) c2)) w1.heap.size (.slice a2 (L.length + 1) c2) (h :: L) :=
    ownsRow_setCell_below (ownsRow_setCell_below O2.out (a := ⟨w.heap.size + 1, 0, none⟩) hs1 _) (a := ⟨w.heap.size + 1, 1, none⟩) hs1 _
  have HF := Lib.hid (And.intro (owni_mono O3 hR0) (below_put B2 (show w.heap.size ≤ w.heap.size + 1 by omega) (.int .u64 (bitsH (h :: L) : Int)) (.slice a2 (L.length + 1) c2)))
  clear hHeld O3 O2 B2 X2 R2 q0 q1 q2 q3 HI e1
  generalize (w2.setCell ⟨w.heap.size + 1, 0, none⟩ (.int .u64 (bitsH (h :: L) : Int))).setCell ⟨w.heap.size + 1, 1, none⟩ (.slice a2 (L.length + 1) c2) = w9 at *
  go_wp2
  obtain ⟨d0, d1, _, _⟩ := r1
  exact bodyPost_ret (v := .tuple #[.agg #[.int .u64 (bitsH (h :: L) : Int), .slice a2 (L.length + 1) c2], .nilIface]) (by simp [results, Tryd.results84, go_sem, d0, d1]) rfl ⟨_, rfl, HF.out.1, HF.out.2⟩
end Go.Proofs.YthkaaamgkmmeeaaDoor
