/-
  The entries of a trie, collected in order into a slice of the call's own.
-/
import Derived.Test.YtmbcfdlemapppaaPlant
import Derived.Test.YtmbcfdlemapppaaHalfR
namespace Go.Proofs.Ytmbcfdlemapppaa
open Go.RowKit
set_option linter.unusedSimpArgs false
set_option linter.unusedVariables false

/-- the cells of entries -/
def cellsT (T : List E) : List Value := T.flatMap fun e => [.int .i64 e.1, .int .i64 e.2.1, .int .i64 e.2.2]
theorem cellsT_app (A B : List E) : cellsT (A ++ B) = cellsT A ++ cellsT B := List.flatMap_append
theorem cellsT_len (T : List E) : (cellsT T).length = T.length * 3 := by
  induction T with
  | nil => rfl
  | cons a l ih => simp only [cellsT, List.flatMap_cons, List.length_append, List.length_cons, List.length_nil] at ih ⊢; rw [ih]; omega
theorem cellsT_at {T : List E} {i : Nat} {e : E} (h : T[i]? = some e) : (cellsT T)[i * 3]? = some (.int .i64 e.1) ∧ (cellsT T)[i * 3 + 1]? = some (.int .i64 e.2.1) ∧ (cellsT T)[i * 3 + 2]? = some (.int .i64 e.2.2) := by
  induction T generalizing i with
  | nil => simp at h
  | cons a l ih =>
    have hc : cellsT (a :: l) = [.int .i64 a.1, .int .i64 a.2.1, .int .i64 a.2.2] ++ cellsT l := rfl
    cases i with
    | zero => simp at h; subst h; rw [hc]; simp
    | succ i =>
      have h' : l[i]? = some e := by simpa using h
      obtain ⟨h1, h2, h3⟩ := ih h'
      rw [hc, show (i + 1) * 3 = i * 3 + 3 by omega]
      refine ⟨?_, ?_, ?_⟩
      · rw [List.getElem?_append_right (by simp)]; simpa using h1
      · rw [List.getElem?_append_right (by simp)]; simpa using h2
      · rw [List.getElem?_append_right (by simp)]; simpa using h3

/-- a slice of entries of the call's own -/
abbrev Owns (w : World) (R : Nat) (v : Value) (T : List E) : Prop := w.ownsRow R 37 3 v T.length (cellsT T)

/-- all blocks are as they were but rows of entries from R on -/
structure OffE (R : Nat) (w w' : World) : Prop where
  os : w'.os = w.os
  tape : w'.tape = w.tape
  output : w'.output = w.output
  size : w.heap.size ≤ w'.heap.size
  block : ∀ i, i < w.heap.size → (i < R ∨ ∀ cur, w.heap[i]? ≠ some (.cells cur 37 (0, 0))) → w'.heap[i]? = w.heap[i]?
theorem OffE.refl (R : Nat) (w : World) : OffE R w w := ⟨rfl, rfl, rfl, Nat.le_refl _, fun _ _ _ => rfl⟩
theorem OffE.trans {R : Nat} {a b c : World} (h : OffE R a b) (k : OffE R b c) : OffE R a c :=
  ⟨k.os.trans h.os, k.tape.trans h.tape, k.output.trans h.output, Nat.le_trans h.size k.size, fun i hi hn => by
    have e := h.block i hi hn
    refine (k.block i (by have := h.size; omega) ?_).trans e
    rcases hn with hn | hn
    · exact .inl hn
    · exact .inr (fun cur => by rw [e]; exact hn cur)⟩
theorem OffE.later {R : Nat} {w w' w2 : World} (h : OffE R w w') (k : Below w'.heap.size w' w2) : OffE R w w2 :=
  ⟨k.os.trans h.os, k.tape.trans h.tape, k.output.trans h.output, Nat.le_trans h.size k.size, fun i hi hn => (k.block i (by have := h.size; omega)).trans (h.block i hi hn)⟩
theorem OffE.alloc {R : Nat} {w w' : World} (h : OffE R w w') (o : Obj) : OffE R w (w'.alloc o) := h.later ((Below.refl _ _).alloc (Nat.le_refl _) o)
theorem OffE.drew {R : Nat} {w w' : World} (h : OffE R w w') : OffE R w w'.drew := ⟨h.os, h.tape, h.output, h.size, h.block⟩
theorem OffE.below {R : Nat} {w w' : World} (h : OffE R w w') (hR : R ≤ w.heap.size) : Below R w w' := ⟨h.os, h.tape, h.output, h.size, fun i hi => h.block i (by omega) (.inl hi)⟩
theorem OffE.grown {R : Nat} {w w' w2 : World} {v : Value} {T : List E} (h : OffE R w w') (hg : w'.grownBy w2 v.ownBlock) (ho : Owns w' R v T) : OffE R w w2 := by
  refine h.trans ⟨hg.os, hg.tape, hg.output, hg.size, fun i hi hn => hg.block i hi fun e => ?_⟩
  rcases ho.2 with ⟨rfl, _⟩ | ⟨g, cap, cur, rfl, hb, hgg, _⟩
  · simp [Value.ownBlock] at e
  · simp [Value.ownBlock] at e
    subst e
    rcases hn with hn | hn
    · omega
    · exact hn cur hgg

/-- a range that lies alone in a block -/
def Bx (w : World) (X : Nat) (f b : Int) : Prop := w.heap[X]? = some (.cells #[.int .i64 f, .int .i64 b] 35)
theorem Bx.lt {w : World} {X : Nat} {f b : Int} (h : Bx w X f b) : X < w.heap.size := (Array.getElem?_eq_some_iff.1 h).1
theorem Bx.new (w : World) (f b : Int) : Bx (w.alloc (.cells #[.int .i64 f, .int .i64 b] 35)) w.heap.size f b := heap_alloc_new w _
theorem Bx.off {w w' : World} {R X : Nat} {f b : Int} (h : Bx w X f b) (k : OffE R w w') : Bx w' X f b :=
  (k.block X h.lt (.inr fun cur e => by rw [h] at e; simp at e)).trans h
theorem Bx.later {w w' : World} {X : Nat} {f b : Int} (h : Bx w X f b) (k : Below w.heap.size w w') : Bx w' X f b := (k.block X h.lt).trans h
theorem Bx.cells {w : World} {X : Nat} {f b : Int} (h : Bx w X f b) : w.cell? ⟨X, 0, none⟩ = some (.int .i64 f) ∧ w.cell? ⟨X, 1, none⟩ = some (.int .i64 b) :=
  ⟨by rw [cell_of_row w X 0 _ _ _ h]; rfl, by rw [cell_of_row w X 1 _ _ _ h]; rfl⟩

theorem infoE : (Try.prog.info? 37).map (fun i => (i.zero, i.size, i.bytes)) = some (some (.agg #[.int .i64 0, .int .i64 0, .int .i64 0]), 3, 24) := by kernel_rfl

/-- what collect leaves -/
def Coll (w : World) (R : Nat) (L : List E) (e : Ending) (w' : World) : Prop := ∃ v', e = .returned v' ∧ Owns w' R v' L ∧ OffE R w w'

set_option maxHeartbeats 1000000 in
theorem coll_nil (f b : Int) (w : World) (R : Nat) (v : Value) (L : List E) (ho : Owns w R v L) :
    Calls Try.prog 80 #[.pointer none, .agg #[.int .i64 f, .int .i64 b], v] w (Coll w R L) := by
  have R0 := Lib.hid (And.intro (ho.alloc (.cells #[.int .i64 f, .int .i64 b] 35)) ((OffE.refl R w).alloc (.cells #[.int .i64 f, .int .i64 b] 35)))
  clear ho
  go_enter Try.func80, Try.ntmps80
  go_wp2_with fail
  go_ret
  exact ⟨v, rfl, R0.out.1, R0.out.2⟩

theorem news3 (W : World) (f b v : Int) (t : TypeId) (j : Nat) (u : Value) (h : (cellsT [(f, b, v)])[j]? = some u) :
    (W.alloc (.cells #[.int .i64 f, .int .i64 b, .int .i64 v] t)).drew.cell? ((⟨W.heap.size, 0, none⟩ : Addr).add j) = some u := by
  match j, h with
  | 0, h => simp [cellsT] at h; subst h; simp [Addr.add]
  | 1, h => simp [cellsT] at h; subst h; simp [Addr.add]
  | 2, h => simp [cellsT] at h; subst h; simp [Addr.add]
  | j + 3, h => simp [cellsT] at h
theorem oneT (T : List E) : ∀ u ∈ cellsT T, u.oneCell' = true := by
  intro u hu
  simp only [cellsT, List.mem_flatMap] at hu
  obtain ⟨e, _, he⟩ := hu
  simp at he
  rcases he with rfl | rfl | rfl <;> rfl
theorem owns_app {w : World} {R : Nat} {v : Value} {L : List E} {e : E} (h : w.ownsRow R 37 3 v (L.length + 1) (cellsT L ++ cellsT [e])) : Owns w R v (L ++ [e]) := by
  rw [← cellsT_app] at h; simpa [Owns] using h

theorem owns_later {w w' : World} {R : Nat} {e : TypeId} {z n : Nat} {v : Value} {xs : List Value} (h : w.ownsRow R e z v n xs) (k : Below w.heap.size w w') : w'.ownsRow R e z v n xs :=
  h.kept (row := none) ⟨k.os, k.tape, k.output, k.size, fun i hi _ => k.block i hi⟩ (by cases v.ownBlock <;> simp)
theorem Bx.alloc {w : World} {X : Nat} {f b : Int} (h : Bx w X f b) (o : Obj) : Bx (w.alloc o) X f b := h.later ((Below.refl _ _).alloc (Nat.le_refl _) o)

theorem ix0 (o q : Option Nat) (w : World) : (Instr.index 73 (.agg #[ptrN o, ptrN q]) (.int .i64 0)).run Try.prog w = .ok (ptrN o) w := by kernel_rfl
theorem ix1 (o q : Option Nat) (w : World) : (Instr.index 73 (.agg #[ptrN o, ptrN q]) (.int .i64 1)).run Try.prog w = .ok (ptrN q) w := by kernel_rfl

def partL (L C0 C1 : List E) : Nat → List E
  | 0 => L
  | 1 => L ++ C0
  | _ => L ++ C0 ++ C1

/-- what a call of collect on a half leaves, whatever the slice and the world -/
def KidC (base root R : Nat) (φ : Ph) (V : VV) (o : Option Nat) (f b : Int) (C : List E) : Prop :=
  ∀ (W : World) (v : Value) (L : List E), TrieP W base root φ V → R ≤ W.heap.size → Owns W R v L → (L ++ C).length ≤ 1000 →
    Calls Try.prog 80 #[ptrN o, .agg #[.int .i64 f, .int .i64 b], v] W (Coll W R (L ++ C))

theorem rhalf_lo {f b : Int} (h : halfB f b = true) (w : World) :
    Calls Try.prog 51 #[.agg #[.int .i64 f, .int .i64 b], .bool false] w fun e w' => e = .returned (.tuple #[.agg #[.int .i64 f, .int .i64 (b + 1)], .bool true]) ∧ Below w.heap.size w w' := rhalf_yes false h w
theorem rhalf_up {f b : Int} (h : halfB f b = true) (w : World) :
    Calls Try.prog 51 #[.agg #[.int .i64 f, .int .i64 b], .bool true] w fun e w' => e = .returned (.tuple #[.agg #[.int .i64 (f + sz (b + 1)), .int .i64 (b + 1)], .bool true]) ∧ Below w.heap.size w w' := rhalf_yes true h w

-- WALKS
set_option maxRecDepth 100000 in
set_option maxHeartbeats 2000000 in
theorem coll_in_bare (f b : Int) (w : World) (base root R p : Nat) (φ : Ph) (V : VV) (v : Value) (L C0 C1 : List E) (hh : halfB f b = true) (hv : V f b = 0)
    (ht : TrieP w base root φ V) (hp : φ f b = some p) (hn : ∀ g c q, φ g c = some q → q < R) (hR : R ≤ w.heap.size) (ho : Owns w R v L) (hlen : (L ++ C0 ++ C1).length ≤ 1000)
    (k0 : KidC base root R φ V (φ f (b + 1)) f (b + 1) C0) (k1 : KidC base root R φ V (φ (f + sz (b + 1)) (b + 1)) (f + sz (b + 1)) (b + 1) C1) :
    Calls Try.prog 80 #[.pointer (some ⟨p, 0, none⟩), .agg #[.int .i64 f, .int .i64 b], v] w (Coll w R (L ++ C0 ++ C1)) := by
  have B0 := Bx.new w f b
  have O0 := (OffE.refl R w).alloc (.cells #[.int .i64 f, .int .i64 b] 35)
  have ho0 := ho.alloc (.cells #[.int .i64 f, .int .i64 b] 35)
  have ht0 := ht.alloc (.cells #[.int .i64 f, .int .i64 b] 35)
  have hX : w.heap.size < (w.alloc (.cells #[.int .i64 f, .int .i64 b] 35)).heap.size := by simp
  have HK := Lib.hid (And.intro B0 (And.intro O0 (And.intro ho0 ht0)))
  obtain ⟨c0, _⟩ := ht0.via hp
  have HN := Lib.hid hn
  have HP := Lib.hid hp
  obtain ⟨y0, _⟩ := ht0.lo hp
  obtain ⟨y1, _⟩ := ht0.up hp
  rw [hv] at c0
  clear B0 O0 ho0 ht0 ht ho hn hp
  go_enter Try.func80, Try.ntmps80
  go_wp2_with fail
  generalize w.alloc (.cells #[.int .i64 f, .int .i64 b] 35) = w1 at *
  clear c0 y0 y1
  obtain ⟨B1, O1, ho1, ht1⟩ := HK.out
  go_loopw [2, 32] (fun v' i wr => ∃ k : Nat, k ≤ 2 ∧ i = .int .i64 k ∧ Bx wr w.heap.size f b ∧ OffE R w wr ∧ Owns wr R v' (partL L C0 C1 k) ∧ TrieP wr base root φ V) (fun _ i _ => 2 - (intOf i).toNat)
  case atStart => exact ⟨0, by omega, rfl, B1, O1, ho1, ht1⟩
  case round =>
    obtain ⟨k, hk, rfl, B2, O2, ho2, ht2⟩ := hrel
    clear B1 O1 ho1 ht1 HK
    obtain ⟨x0, x1⟩ := B2.cells
    have H2 := Lib.hid (And.intro B2 (And.intro O2 (And.intro ho2 ht2)))
    have hX2 := B2.lt
    clear B2 O2 ho2 ht2
    have hk3 : k = 0 ∨ k = 1 ∨ k = 2 := by omega
    rcases hk3 with rfl | rfl | rfl
    · have ix := ix0 (φ f (b + 1)) (φ (f + sz (b + 1)) (b + 1))
      go_wp2_with fail
      refine (rhalf_lo hh _).mono ?_
      rintro e w3 ⟨rfl, b3⟩
      obtain ⟨B2, O2, ho2, ht2⟩ := H2.out
      have B3 := Lib.hid ((B2.later b3).alloc (.cells #[.int .i64 (f), .int .i64 (b + 1)] 35))
      have O3 := Lib.hid ((O2.later b3).alloc (.cells #[.int .i64 (f), .int .i64 (b + 1)] 35))
      have ho3 := Lib.hid ((owns_later ho2 b3).alloc (.cells #[.int .i64 (f), .int .i64 (b + 1)] 35))
      have ht3 := Lib.hid ((ht2.later b3).alloc (.cells #[.int .i64 (f), .int .i64 (b + 1)] 35))
      have s3 := b3.size
      clear B2 O2 ho2 ht2 b3 x0 x1
      go_wp2_with fail
      refine (k0 _ _ _ ht3.out (by simp; omega) ho3.out (by simp [partL] at hlen ⊢; omega)).mono ?_
      rintro e w4 ⟨v4, rfl, ho4, o4⟩
      have HZ := Lib.hid (And.intro (B3.out.off o4) (And.intro (O3.out.trans o4) (And.intro ho4 (ht3.out.below (o4.below (by simp; omega)) HN.out))))
      clear B3 O3 ho3 ht3 ho4 o4 H2
      go_wp2_with fail
      go_roundw
      case rel => exact ⟨0 + 1, by omega, by go_num, HZ.out.1, HZ.out.2.1, HZ.out.2.2.1, HZ.out.2.2.2⟩
      case measure => simp [intOf]
    · have ix := ix1 (φ f (b + 1)) (φ (f + sz (b + 1)) (b + 1))
      go_wp2_with fail
      refine (rhalf_up hh _).mono ?_
      rintro e w3 ⟨rfl, b3⟩
      obtain ⟨B2, O2, ho2, ht2⟩ := H2.out
      have B3 := Lib.hid ((B2.later b3).alloc (.cells #[.int .i64 (f + sz (b + 1)), .int .i64 (b + 1)] 35))
      have O3 := Lib.hid ((O2.later b3).alloc (.cells #[.int .i64 (f + sz (b + 1)), .int .i64 (b + 1)] 35))
      have ho3 := Lib.hid ((owns_later ho2 b3).alloc (.cells #[.int .i64 (f + sz (b + 1)), .int .i64 (b + 1)] 35))
      have ht3 := Lib.hid ((ht2.later b3).alloc (.cells #[.int .i64 (f + sz (b + 1)), .int .i64 (b + 1)] 35))
      have s3 := b3.size
      clear B2 O2 ho2 ht2 b3 x0 x1
      go_wp2_with fail
      refine (k1 _ _ _ ht3.out (by simp; omega) ho3.out (by simp [partL] at hlen ⊢; omega)).mono ?_
      rintro e w4 ⟨v4, rfl, ho4, o4⟩
      have HZ := Lib.hid (And.intro (B3.out.off o4) (And.intro (O3.out.trans o4) (And.intro ho4 (ht3.out.below (o4.below (by simp; omega)) HN.out))))
      clear B3 O3 ho3 ht3 ho4 o4 H2
      go_wp2_with fail
      go_roundw
      case rel => exact ⟨1 + 1, by omega, by go_num, HZ.out.1, HZ.out.2.1, HZ.out.2.2.1, HZ.out.2.2.2⟩
      case measure => simp [intOf]
    · clear x0 x1
      go_wp2_with fail
      go_ret
      exact ⟨_, rfl, H2.out.2.2.1, H2.out.2.1⟩

set_option maxRecDepth 100000 in
set_option maxHeartbeats 2000000 in
theorem coll_in_own (f b : Int) (w : World) (base root R p : Nat) (φ : Ph) (V : VV) (v : Value) (L C0 C1 : List E) (hh : halfB f b = true) (hv : V f b ≠ 0)
    (ht : TrieP w base root φ V) (hp : φ f b = some p) (hn : ∀ g c q, φ g c = some q → q < R) (hR : R ≤ w.heap.size) (ho : Owns w R v L) (hlen : ((L ++ [(f, b, V f b)]) ++ C0 ++ C1).length ≤ 1000)
    (k0 : KidC base root R φ V (φ f (b + 1)) f (b + 1) C0) (k1 : KidC base root R φ V (φ (f + sz (b + 1)) (b + 1)) (f + sz (b + 1)) (b + 1) C1) :
    Calls Try.prog 80 #[.pointer (some ⟨p, 0, none⟩), .agg #[.int .i64 f, .int .i64 b], v] w (Coll w R ((L ++ [(f, b, V f b)]) ++ C0 ++ C1)) := by
  have B0 := Bx.new w f b
  have O0 := (OffE.refl R w).alloc (.cells #[.int .i64 f, .int .i64 b] 35)
  have ho0 := ho.alloc (.cells #[.int .i64 f, .int .i64 b] 35)
  have ht0 := ht.alloc (.cells #[.int .i64 f, .int .i64 b] 35)
  have hX : w.heap.size < (w.alloc (.cells #[.int .i64 f, .int .i64 b] 35)).heap.size := by simp
  have HK := Lib.hid (And.intro B0 (And.intro O0 (And.intro ho0 ht0)))
  obtain ⟨c0, _⟩ := ht0.via hp
  have HN := Lib.hid hn
  have HP := Lib.hid hp
  obtain ⟨x0, x1⟩ := B0.cells
  have S0 := Lib.hid (And.intro x0 (And.intro x1 c0))
  have hvn : ¬ V f b = 0 := hv
  clear B0 O0 ho0 ht0 ht ho hn hp hv
  have hz : (V f b != 0) = true := by simpa using hvn
  obtain ⟨i0, hi, hz0, hz1, hz2⟩ := info_parts infoE
  go_enter Try.func80, Try.ntmps80
  go_wp2_with fail
  clear x0 x1 c0
  generalize hw0 : w.alloc (.cells #[.int .i64 f, .int .i64 b] 35) = w0 at *
  have HW0 := Lib.hid hw0
  clear hw0
  refine wp_region_held_drew (S := fun W => W.cell? ⟨w.heap.size, 0, none⟩ = some (.int .i64 f) ∧ W.cell? ⟨w.heap.size, 1, none⟩ = some (.int .i64 b) ∧ W.cell? ⟨p, 0, none⟩ = some (.int .i64 (V f b))) (by kernel_rfl) ?_ (fun hHeld => ?_)
  · exact S0.out
  refine takeH (i := 0) (v := ?_) rfl rfl (by kernel_rfl) (by kernel_rfl) (by kernel_rfl) (fun _ _ _ h => h) (by rfl) ?_ (by assumption) ?_
  rotate_left 1
  · intro w hSw
    (try dsimp only at hSw)
    go_simp
    try with_reducible rfl
  try simp only [List.setIfInBounds_toArray, List.set_cons_zero, List.set_cons_succ]
  refine takeH (i := 1) (v := ?_) rfl rfl (by kernel_rfl) (by kernel_rfl) (by kernel_rfl) (fun _ _ _ h => h) (by rfl) ?_ (by assumption) ?_
  rotate_left 1
  · intro w hSw
    (try dsimp only at hSw)
    go_simp
    try with_reducible rfl
  try simp only [List.setIfInBounds_toArray, List.set_cons_zero, List.set_cons_succ]
  refine takeH (i := 2) (v := ?_) rfl rfl (by kernel_rfl) (by kernel_rfl) (by kernel_rfl) (fun _ _ _ h => h) (by rfl) ?_ (by assumption) ?_
  rotate_left 1
  · intro w hSw
    (try dsimp only at hSw)
    go_simp
    try with_reducible rfl
  try simp only [List.setIfInBounds_toArray, List.set_cons_zero, List.set_cons_succ]
  refine takeH (i := 3) (v := ?_) rfl rfl (by kernel_rfl) (by kernel_rfl) (by kernel_rfl) (fun _ _ _ h => h) (by rfl) ?_ (by assumption) ?_
  rotate_left 1
  · intro w hSw
    (try dsimp only at hSw)
    go_simp
    try with_reducible rfl
  try simp only [List.setIfInBounds_toArray, List.set_cons_zero, List.set_cons_succ]
  refine takeH (i := 4) (v := ?_) rfl rfl (by kernel_rfl) (by kernel_rfl) (by kernel_rfl) (fun _ _ _ h => h) (by rfl) ?_ (by assumption) ?_
  rotate_left 1
  · intro w hSw
    (try dsimp only at hSw)
    go_simp
    try with_reducible rfl
  try simp only [List.setIfInBounds_toArray, List.set_cons_zero, List.set_cons_succ]
  refine takeH (i := 5) (v := ?_) rfl rfl (by kernel_rfl) (by kernel_rfl) (by kernel_rfl) (fun _ _ _ h => h) (by rfl) ?_ (by assumption) ?_
  rotate_left 1
  · intro w hSw
    (try dsimp only at hSw)
    go_simp
    try with_reducible rfl
  try simp only [List.setIfInBounds_toArray, List.set_cons_zero, List.set_cons_succ]
  refine takeH (i := 6) (v := ?_) rfl rfl (by kernel_rfl) (by kernel_rfl) (by kernel_rfl) (fun _ _ _ h => h) (by rfl) ?_ (by assumption) ?_
  rotate_left 1
  · intro w hSw
    (try dsimp only at hSw)
    go_simp
    try with_reducible rfl
  try simp only [List.setIfInBounds_toArray, List.set_cons_zero, List.set_cons_succ]
  refine wpAnyH_ready (rs := [7]) (by kernel_rfl) (by simp) ?_
  refine AllReadyH.cons rfl (fun K hK => ?_) (AllReadyH.nil)
  go_simp
  refine hK.out _ _ ?_ (fun hNew => ?_)
  · exact ⟨cellA hHeld.1 _, cellA hHeld.2.1 _, cellA hHeld.2.2 _⟩
  clear hK K hHeld
  have hHeld := hNew
  clear hNew
  try simp only [Act.put, List.setIfInBounds_toArray, List.set_cons_zero, List.set_cons_succ]
  refine wpAnyH_ready (rs := [8]) (by kernel_rfl) (by simp) ?_
  refine AllReadyH.cons rfl (fun K hK => ?_) (AllReadyH.nil)
  refine wp_append_own _ (.tmp 19) (.tmp 26) 25 rfl R 37 i0 (.agg #[.int .i64 0, .int .i64 0, .int .i64 0]) 3 24 Try.underlying25 hi hz0 hz1 hz2 rfl (by decide) v L.length (cellsT L) (by simp [Act.eval]) (HK.out.2.2.1.drew.alloc _) ⟨w0.heap.size, 0, none⟩ 1 1 (cellsT [(f, b, V f b)]) (by simp [Act.eval]) rfl (news3 w0 f b (V f b) _) (oneT _) (by simp at hlen; unfold maxLen; omega) (by simp at hlen; omega) (by simp; omega) ?_
  intro v1 w1 own1 grow1 _
  have O1' : OffE R w0 w1 := OffE.grown (T := L) ((OffE.refl R w0).drew.alloc _) grow1 (HK.out.2.2.1.drew.alloc _)
  have B1 := HK.out.1.off O1'
  have ht1 := HK.out.2.2.2.below (O1'.below (by omega)) HN.out
  have O1 := HK.out.2.1.trans O1'
  have ho1 := owns_app own1
  clear own1 grow1 O1'
  refine hK.out _ _ ?_ (fun hNew => ?_)
  · exact ⟨B1.cells.1, B1.cells.2, (ht1.via HP.out).1⟩
  clear hK K hHeld
  have hHeld := hNew
  clear hNew
  try simp only [Act.put, List.setIfInBounds_toArray, List.set_cons_zero, List.set_cons_succ]
  refine takeH (i := 9) (v := ?_) rfl rfl (by kernel_rfl) (by kernel_rfl) (by kernel_rfl) (fun _ _ _ h => h) (by rfl) ?_ (by assumption) ?_
  rotate_left 1
  · intro w hSw
    (try dsimp only at hSw)
    go_simp
    try with_reducible rfl
  try simp only [List.setIfInBounds_toArray, List.set_cons_zero, List.set_cons_succ]
  refine wpAnyH_done (by kernel_rfl) ?_ _
  clear hHeld S0 HW0
  obtain ⟨y0, _⟩ := ht1.lo HP.out
  obtain ⟨y1, _⟩ := ht1.up HP.out
  have HQ := Lib.hid (And.intro B1 (And.intro O1 (And.intro ho1 ht1)))
  have hX1 : w.heap.size < w1.heap.size := B1.lt
  clear B1 O1 ho1 ht1
  go_wp2_with fail
  clear y0 y1 hX HK
  obtain ⟨B1, O1, ho1, ht1⟩ := HQ.out
  go_loopw [2, 32] (fun v' i wr => ∃ k : Nat, k ≤ 2 ∧ i = .int .i64 k ∧ Bx wr w.heap.size f b ∧ OffE R w wr ∧ Owns wr R v' (partL (L ++ [(f, b, V f b)]) C0 C1 k) ∧ TrieP wr base root φ V) (fun _ i _ => 2 - (intOf i).toNat)
  case atStart => exact ⟨0, by omega, rfl, B1, O1, ho1, ht1⟩
  case round =>
    obtain ⟨k, hk, rfl, B2, O2, ho2, ht2⟩ := hrel
    clear B1 O1 ho1 ht1 HQ
    obtain ⟨x0, x1⟩ := B2.cells
    have H2 := Lib.hid (And.intro B2 (And.intro O2 (And.intro ho2 ht2)))
    have hX2 := B2.lt
    clear B2 O2 ho2 ht2
    have hk3 : k = 0 ∨ k = 1 ∨ k = 2 := by omega
    rcases hk3 with rfl | rfl | rfl
    · have ix := ix0 (φ f (b + 1)) (φ (f + sz (b + 1)) (b + 1))
      go_wp2_with fail
      refine (rhalf_lo hh _).mono ?_
      rintro e w3 ⟨rfl, b3⟩
      obtain ⟨B2, O2, ho2, ht2⟩ := H2.out
      have B3 := Lib.hid ((B2.later b3).alloc (.cells #[.int .i64 (f), .int .i64 (b + 1)] 35))
      have O3 := Lib.hid ((O2.later b3).alloc (.cells #[.int .i64 (f), .int .i64 (b + 1)] 35))
      have ho3 := Lib.hid ((owns_later ho2 b3).alloc (.cells #[.int .i64 (f), .int .i64 (b + 1)] 35))
      have ht3 := Lib.hid ((ht2.later b3).alloc (.cells #[.int .i64 (f), .int .i64 (b + 1)] 35))
      have s3 := b3.size
      clear B2 O2 ho2 ht2 b3 x0 x1
      go_wp2_with fail
      refine (k0 _ _ _ ht3.out (by simp; omega) ho3.out (by simp [partL] at hlen ⊢; omega)).mono ?_
      rintro e w4 ⟨v4, rfl, ho4, o4⟩
      have HZ := Lib.hid (And.intro (B3.out.off o4) (And.intro (O3.out.trans o4) (And.intro ho4 (ht3.out.below (o4.below (by simp; omega)) HN.out))))
      clear B3 O3 ho3 ht3 ho4 o4 H2
      go_wp2_with fail
      go_roundw
      case rel => exact ⟨0 + 1, by omega, by go_num, HZ.out.1, HZ.out.2.1, HZ.out.2.2.1, HZ.out.2.2.2⟩
      case measure => simp [intOf]
    · have ix := ix1 (φ f (b + 1)) (φ (f + sz (b + 1)) (b + 1))
      go_wp2_with fail
      refine (rhalf_up hh _).mono ?_
      rintro e w3 ⟨rfl, b3⟩
      obtain ⟨B2, O2, ho2, ht2⟩ := H2.out
      have B3 := Lib.hid ((B2.later b3).alloc (.cells #[.int .i64 (f + sz (b + 1)), .int .i64 (b + 1)] 35))
      have O3 := Lib.hid ((O2.later b3).alloc (.cells #[.int .i64 (f + sz (b + 1)), .int .i64 (b + 1)] 35))
      have ho3 := Lib.hid ((owns_later ho2 b3).alloc (.cells #[.int .i64 (f + sz (b + 1)), .int .i64 (b + 1)] 35))
      have ht3 := Lib.hid ((ht2.later b3).alloc (.cells #[.int .i64 (f + sz (b + 1)), .int .i64 (b + 1)] 35))
      have s3 := b3.size
      clear B2 O2 ho2 ht2 b3 x0 x1
      go_wp2_with fail
      refine (k1 _ _ _ ht3.out (by simp; omega) ho3.out (by simp [partL] at hlen ⊢; omega)).mono ?_
      rintro e w4 ⟨v4, rfl, ho4, o4⟩
      have HZ := Lib.hid (And.intro (B3.out.off o4) (And.intro (O3.out.trans o4) (And.intro ho4 (ht3.out.below (o4.below (by simp; omega)) HN.out))))
      clear B3 O3 ho3 ht3 ho4 o4 H2
      go_wp2_with fail
      go_roundw
      case rel => exact ⟨1 + 1, by omega, by go_num, HZ.out.1, HZ.out.2.1, HZ.out.2.2.1, HZ.out.2.2.2⟩
      case measure => simp [intOf]
    · clear x0 x1
      go_wp2_with fail
      go_ret
      exact ⟨_, rfl, H2.out.2.2.1, H2.out.2.1⟩

set_option maxRecDepth 100000 in
set_option maxHeartbeats 2000000 in
theorem coll_end_bare (f b : Int) (w : World) (base root R p : Nat) (φ : Ph) (V : VV) (v : Value) (L C0 C1 : List E) (hh : halfB f b = false) (hv : V f b = 0)
    (ht : TrieP w base root φ V) (hp : φ f b = some p) (hn : ∀ g c q, φ g c = some q → q < R) (hR : R ≤ w.heap.size) (ho : Owns w R v L) (hlen : (L ++ C0 ++ C1).length ≤ 1000)
    (e0 : C0 = []) (e1 : C1 = []) :
    Calls Try.prog 80 #[.pointer (some ⟨p, 0, none⟩), .agg #[.int .i64 f, .int .i64 b], v] w (Coll w R (L ++ C0 ++ C1)) := by
  have B0 := Bx.new w f b
  have O0 := (OffE.refl R w).alloc (.cells #[.int .i64 f, .int .i64 b] 35)
  have ho0 := ho.alloc (.cells #[.int .i64 f, .int .i64 b] 35)
  have ht0 := ht.alloc (.cells #[.int .i64 f, .int .i64 b] 35)
  have hX : w.heap.size < (w.alloc (.cells #[.int .i64 f, .int .i64 b] 35)).heap.size := by simp
  have HK := Lib.hid (And.intro B0 (And.intro O0 (And.intro ho0 ht0)))
  obtain ⟨c0, _⟩ := ht0.via hp
  have HN := Lib.hid hn
  have HP := Lib.hid hp
  obtain ⟨y0, _⟩ := ht0.lo hp
  obtain ⟨y1, _⟩ := ht0.up hp
  rw [hv] at c0
  clear B0 O0 ho0 ht0 ht ho hn hp
  go_enter Try.func80, Try.ntmps80
  go_wp2_with fail
  generalize w.alloc (.cells #[.int .i64 f, .int .i64 b] 35) = w1 at *
  clear c0 y0 y1
  obtain ⟨B1, O1, ho1, ht1⟩ := HK.out
  go_loopw [2, 32] (fun v' i wr => ∃ k : Nat, k ≤ 2 ∧ i = .int .i64 k ∧ Bx wr w.heap.size f b ∧ OffE R w wr ∧ Owns wr R v' (partL L C0 C1 k) ∧ TrieP wr base root φ V) (fun _ i _ => 2 - (intOf i).toNat)
  case atStart => exact ⟨0, by omega, rfl, B1, O1, ho1, ht1⟩
  case round =>
    obtain ⟨k, hk, rfl, B2, O2, ho2, ht2⟩ := hrel
    clear B1 O1 ho1 ht1 HK
    obtain ⟨x0, x1⟩ := B2.cells
    have H2 := Lib.hid (And.intro B2 (And.intro O2 (And.intro ho2 ht2)))
    have hX2 := B2.lt
    clear B2 O2 ho2 ht2
    have hk3 : k = 0 ∨ k = 1 ∨ k = 2 := by omega
    rcases hk3 with rfl | rfl | rfl
    · have ix := ix0 (φ f (b + 1)) (φ (f + sz (b + 1)) (b + 1))
      go_wp2_with fail
      refine (rhalf_no false hh _).mono ?_
      rintro e w3 ⟨rfl, b3⟩
      obtain ⟨B2, O2, ho2, ht2⟩ := H2.out
      have HZ := Lib.hid (And.intro ((B2.later b3).alloc (.cells #[.int .i64 0, .int .i64 0] 35)) (And.intro ((O2.later b3).alloc (.cells #[.int .i64 0, .int .i64 0] 35)) (And.intro ((owns_later ho2 b3).alloc (.cells #[.int .i64 0, .int .i64 0] 35)) ((ht2.later b3).alloc (.cells #[.int .i64 0, .int .i64 0] 35)))))
      clear B2 O2 ho2 ht2 b3 x0 x1 H2
      go_wp2_with fail
      go_roundw
      case rel => exact ⟨0 + 1, by omega, by go_num, HZ.out.1, HZ.out.2.1, by have := HZ.out.2.2.1; subst e0 e1; simpa [partL, Owns] using this, HZ.out.2.2.2⟩
      case measure => simp [intOf]
    · have ix := ix1 (φ f (b + 1)) (φ (f + sz (b + 1)) (b + 1))
      go_wp2_with fail
      refine (rhalf_no true hh _).mono ?_
      rintro e w3 ⟨rfl, b3⟩
      obtain ⟨B2, O2, ho2, ht2⟩ := H2.out
      have HZ := Lib.hid (And.intro ((B2.later b3).alloc (.cells #[.int .i64 0, .int .i64 0] 35)) (And.intro ((O2.later b3).alloc (.cells #[.int .i64 0, .int .i64 0] 35)) (And.intro ((owns_later ho2 b3).alloc (.cells #[.int .i64 0, .int .i64 0] 35)) ((ht2.later b3).alloc (.cells #[.int .i64 0, .int .i64 0] 35)))))
      clear B2 O2 ho2 ht2 b3 x0 x1 H2
      go_wp2_with fail
      go_roundw
      case rel => exact ⟨1 + 1, by omega, by go_num, HZ.out.1, HZ.out.2.1, by have := HZ.out.2.2.1; subst e0 e1; simpa [partL, Owns] using this, HZ.out.2.2.2⟩
      case measure => simp [intOf]
    · clear x0 x1
      go_wp2_with fail
      go_ret
      exact ⟨_, rfl, H2.out.2.2.1, H2.out.2.1⟩

set_option maxRecDepth 100000 in
set_option maxHeartbeats 2000000 in
theorem coll_end_own (f b : Int) (w : World) (base root R p : Nat) (φ : Ph) (V : VV) (v : Value) (L C0 C1 : List E) (hh : halfB f b = false) (hv : V f b ≠ 0)
    (ht : TrieP w base root φ V) (hp : φ f b = some p) (hn : ∀ g c q, φ g c = some q → q < R) (hR : R ≤ w.heap.size) (ho : Owns w R v L) (hlen : ((L ++ [(f, b, V f b)]) ++ C0 ++ C1).length ≤ 1000)
    (e0 : C0 = []) (e1 : C1 = []) :
    Calls Try.prog 80 #[.pointer (some ⟨p, 0, none⟩), .agg #[.int .i64 f, .int .i64 b], v] w (Coll w R ((L ++ [(f, b, V f b)]) ++ C0 ++ C1)) := by
  have B0 := Bx.new w f b
  have O0 := (OffE.refl R w).alloc (.cells #[.int .i64 f, .int .i64 b] 35)
  have ho0 := ho.alloc (.cells #[.int .i64 f, .int .i64 b] 35)
  have ht0 := ht.alloc (.cells #[.int .i64 f, .int .i64 b] 35)
  have hX : w.heap.size < (w.alloc (.cells #[.int .i64 f, .int .i64 b] 35)).heap.size := by simp
  have HK := Lib.hid (And.intro B0 (And.intro O0 (And.intro ho0 ht0)))
  obtain ⟨c0, _⟩ := ht0.via hp
  have HN := Lib.hid hn
  have HP := Lib.hid hp
  obtain ⟨x0, x1⟩ := B0.cells
  have S0 := Lib.hid (And.intro x0 (And.intro x1 c0))
  have hvn : ¬ V f b = 0 := hv
  clear B0 O0 ho0 ht0 ht ho hn hp hv
  have hz : (V f b != 0) = true := by simpa using hvn
  obtain ⟨i0, hi, hz0, hz1, hz2⟩ := info_parts infoE
  go_enter Try.func80, Try.ntmps80
  go_wp2_with fail
  clear x0 x1 c0
  generalize hw0 : w.alloc (.cells #[.int .i64 f, .int .i64 b] 35) = w0 at *
  have HW0 := Lib.hid hw0
  clear hw0
  refine wp_region_held_drew (S := fun W => W.cell? ⟨w.heap.size, 0, none⟩ = some (.int .i64 f) ∧ W.cell? ⟨w.heap.size, 1, none⟩ = some (.int .i64 b) ∧ W.cell? ⟨p, 0, none⟩ = some (.int .i64 (V f b))) (by kernel_rfl) ?_ (fun hHeld => ?_)
  · exact S0.out
  refine takeH (i := 0) (v := ?_) rfl rfl (by kernel_rfl) (by kernel_rfl) (by kernel_rfl) (fun _ _ _ h => h) (by rfl) ?_ (by assumption) ?_
  rotate_left 1
  · intro w hSw
    (try dsimp only at hSw)
    go_simp
    try with_reducible rfl
  try simp only [List.setIfInBounds_toArray, List.set_cons_zero, List.set_cons_succ]
  refine takeH (i := 1) (v := ?_) rfl rfl (by kernel_rfl) (by kernel_rfl) (by kernel_rfl) (fun _ _ _ h => h) (by rfl) ?_ (by assumption) ?_
  rotate_left 1
  · intro w hSw
    (try dsimp only at hSw)
    go_simp
    try with_reducible rfl
  try simp only [List.setIfInBounds_toArray, List.set_cons_zero, List.set_cons_succ]
  refine takeH (i := 2) (v := ?_) rfl rfl (by kernel_rfl) (by kernel_rfl) (by kernel_rfl) (fun _ _ _ h => h) (by rfl) ?_ (by assumption) ?_
  rotate_left 1
  · intro w hSw
    (try dsimp only at hSw)
    go_simp
    try with_reducible rfl
  try simp only [List.setIfInBounds_toArray, List.set_cons_zero, List.set_cons_succ]
  refine takeH (i := 3) (v := ?_) rfl rfl (by kernel_rfl) (by kernel_rfl) (by kernel_rfl) (fun _ _ _ h => h) (by rfl) ?_ (by assumption) ?_
  rotate_left 1
  · intro w hSw
    (try dsimp only at hSw)
    go_simp
    try with_reducible rfl
  try simp only [List.setIfInBounds_toArray, List.set_cons_zero, List.set_cons_succ]
  refine takeH (i := 4) (v := ?_) rfl rfl (by kernel_rfl) (by kernel_rfl) (by kernel_rfl) (fun _ _ _ h => h) (by rfl) ?_ (by assumption) ?_
  rotate_left 1
  · intro w hSw
    (try dsimp only at hSw)
    go_simp
    try with_reducible rfl
  try simp only [List.setIfInBounds_toArray, List.set_cons_zero, List.set_cons_succ]
  refine takeH (i := 5) (v := ?_) rfl rfl (by kernel_rfl) (by kernel_rfl) (by kernel_rfl) (fun _ _ _ h => h) (by rfl) ?_ (by assumption) ?_
  rotate_left 1
  · intro w hSw
    (try dsimp only at hSw)
    go_simp
    try with_reducible rfl
  try simp only [List.setIfInBounds_toArray, List.set_cons_zero, List.set_cons_succ]
  refine takeH (i := 6) (v := ?_) rfl rfl (by kernel_rfl) (by kernel_rfl) (by kernel_rfl) (fun _ _ _ h => h) (by rfl) ?_ (by assumption) ?_
  rotate_left 1
  · intro w hSw
    (try dsimp only at hSw)
    go_simp
    try with_reducible rfl
  try simp only [List.setIfInBounds_toArray, List.set_cons_zero, List.set_cons_succ]
  refine wpAnyH_ready (rs := [7]) (by kernel_rfl) (by simp) ?_
  refine AllReadyH.cons rfl (fun K hK => ?_) (AllReadyH.nil)
  go_simp
  refine hK.out _ _ ?_ (fun hNew => ?_)
  · exact ⟨cellA hHeld.1 _, cellA hHeld.2.1 _, cellA hHeld.2.2 _⟩
  clear hK K hHeld
  have hHeld := hNew
  clear hNew
  try simp only [Act.put, List.setIfInBounds_toArray, List.set_cons_zero, List.set_cons_succ]
  refine wpAnyH_ready (rs := [8]) (by kernel_rfl) (by simp) ?_
  refine AllReadyH.cons rfl (fun K hK => ?_) (AllReadyH.nil)
  refine wp_append_own _ (.tmp 19) (.tmp 26) 25 rfl R 37 i0 (.agg #[.int .i64 0, .int .i64 0, .int .i64 0]) 3 24 Try.underlying25 hi hz0 hz1 hz2 rfl (by decide) v L.length (cellsT L) (by simp [Act.eval]) (HK.out.2.2.1.drew.alloc _) ⟨w0.heap.size, 0, none⟩ 1 1 (cellsT [(f, b, V f b)]) (by simp [Act.eval]) rfl (news3 w0 f b (V f b) _) (oneT _) (by simp at hlen; unfold maxLen; omega) (by simp at hlen; omega) (by simp; omega) ?_
  intro v1 w1 own1 grow1 _
  have O1' : OffE R w0 w1 := OffE.grown (T := L) ((OffE.refl R w0).drew.alloc _) grow1 (HK.out.2.2.1.drew.alloc _)
  have B1 := HK.out.1.off O1'
  have ht1 := HK.out.2.2.2.below (O1'.below (by omega)) HN.out
  have O1 := HK.out.2.1.trans O1'
  have ho1 := owns_app own1
  clear own1 grow1 O1'
  refine hK.out _ _ ?_ (fun hNew => ?_)
  · exact ⟨B1.cells.1, B1.cells.2, (ht1.via HP.out).1⟩
  clear hK K hHeld
  have hHeld := hNew
  clear hNew
  try simp only [Act.put, List.setIfInBounds_toArray, List.set_cons_zero, List.set_cons_succ]
  refine takeH (i := 9) (v := ?_) rfl rfl (by kernel_rfl) (by kernel_rfl) (by kernel_rfl) (fun _ _ _ h => h) (by rfl) ?_ (by assumption) ?_
  rotate_left 1
  · intro w hSw
    (try dsimp only at hSw)
    go_simp
    try with_reducible rfl
  try simp only [List.setIfInBounds_toArray, List.set_cons_zero, List.set_cons_succ]
  refine wpAnyH_done (by kernel_rfl) ?_ _
  clear hHeld S0 HW0
  obtain ⟨y0, _⟩ := ht1.lo HP.out
  obtain ⟨y1, _⟩ := ht1.up HP.out
  have HQ := Lib.hid (And.intro B1 (And.intro O1 (And.intro ho1 ht1)))
  have hX1 : w.heap.size < w1.heap.size := B1.lt
  clear B1 O1 ho1 ht1
  go_wp2_with fail
  clear y0 y1 hX HK
  obtain ⟨B1, O1, ho1, ht1⟩ := HQ.out
  go_loopw [2, 32] (fun v' i wr => ∃ k : Nat, k ≤ 2 ∧ i = .int .i64 k ∧ Bx wr w.heap.size f b ∧ OffE R w wr ∧ Owns wr R v' (partL (L ++ [(f, b, V f b)]) C0 C1 k) ∧ TrieP wr base root φ V) (fun _ i _ => 2 - (intOf i).toNat)
  case atStart => exact ⟨0, by omega, rfl, B1, O1, ho1, ht1⟩
  case round =>
    obtain ⟨k, hk, rfl, B2, O2, ho2, ht2⟩ := hrel
    clear B1 O1 ho1 ht1 HQ
    obtain ⟨x0, x1⟩ := B2.cells
    have H2 := Lib.hid (And.intro B2 (And.intro O2 (And.intro ho2 ht2)))
    have hX2 := B2.lt
    clear B2 O2 ho2 ht2
    have hk3 : k = 0 ∨ k = 1 ∨ k = 2 := by omega
    rcases hk3 with rfl | rfl | rfl
    · have ix := ix0 (φ f (b + 1)) (φ (f + sz (b + 1)) (b + 1))
      go_wp2_with fail
      refine (rhalf_no false hh _).mono ?_
      rintro e w3 ⟨rfl, b3⟩
      obtain ⟨B2, O2, ho2, ht2⟩ := H2.out
      have HZ := Lib.hid (And.intro ((B2.later b3).alloc (.cells #[.int .i64 0, .int .i64 0] 35)) (And.intro ((O2.later b3).alloc (.cells #[.int .i64 0, .int .i64 0] 35)) (And.intro ((owns_later ho2 b3).alloc (.cells #[.int .i64 0, .int .i64 0] 35)) ((ht2.later b3).alloc (.cells #[.int .i64 0, .int .i64 0] 35)))))
      clear B2 O2 ho2 ht2 b3 x0 x1 H2
      go_wp2_with fail
      go_roundw
      case rel => exact ⟨0 + 1, by omega, by go_num, HZ.out.1, HZ.out.2.1, by have := HZ.out.2.2.1; subst e0 e1; simpa [partL, Owns] using this, HZ.out.2.2.2⟩
      case measure => simp [intOf]
    · have ix := ix1 (φ f (b + 1)) (φ (f + sz (b + 1)) (b + 1))
      go_wp2_with fail
      refine (rhalf_no true hh _).mono ?_
      rintro e w3 ⟨rfl, b3⟩
      obtain ⟨B2, O2, ho2, ht2⟩ := H2.out
      have HZ := Lib.hid (And.intro ((B2.later b3).alloc (.cells #[.int .i64 0, .int .i64 0] 35)) (And.intro ((O2.later b3).alloc (.cells #[.int .i64 0, .int .i64 0] 35)) (And.intro ((owns_later ho2 b3).alloc (.cells #[.int .i64 0, .int .i64 0] 35)) ((ht2.later b3).alloc (.cells #[.int .i64 0, .int .i64 0] 35)))))
      clear B2 O2 ho2 ht2 b3 x0 x1 H2
      go_wp2_with fail
      go_roundw
      case rel => exact ⟨1 + 1, by omega, by go_num, HZ.out.1, HZ.out.2.1, by have := HZ.out.2.2.1; subst e0 e1; simpa [partL, Owns] using this, HZ.out.2.2.2⟩
      case measure => simp [intOf]
    · clear x0 x1
      go_wp2_with fail
      go_ret
      exact ⟨_, rfl, H2.out.2.2.1, H2.out.2.1⟩

/-- under a node that is not there no node is -/
theorem TrieP.none_in {w : World} {base root : Nat} {φ : Ph} {V : VV} (h : TrieP w base root φ V) : ∀ (n : Nat) (f b : Int), okB f b = true → b + n = 8 → φ f b = none → ∀ g c, inB g c f b = true → φ g c = none
  | 0, f, b, ok, hb, hn, g, c, hi => by
    have k := (inB_iff _ _ _ _).1 hi
    have k2 := (okB_iff _ _).1 k.1
    have hc : c = b := by omega
    have := has_same (x := (g, c, 0)) (y := (f, b, 0)) (a := g) (first_has k.1) k.2.1 hc
    simp at this
    rw [this, hc]; exact hn
  | n + 1, f, b, ok, hb, hn, g, c, hi => by
    have h8 : b < 8 := by omega
    rcases (in_halves ((inB_iff _ _ _ _).1 hi).1 ok h8).1 hi with ⟨rfl, rfl⟩ | k | k
    · exact hn
    · exact TrieP.none_in h n f (b + 1) (ok_lower ok h8) (by omega) (h.closed ok h8 hn false) g c k
    · exact TrieP.none_in h n (f + sz (b + 1)) (b + 1) (ok_upper ok h8) (by omega) (h.closed ok h8 hn true) g c k

theorem coll_any (base root R : Nat) (φ : Ph) (V : VV) (hn : ∀ g c q, φ g c = some q → q < R) : ∀ (n : Nat) (f b : Int), okB f b = true → b + n = 8 → KidC base root R φ V (φ f b) f b (collV V n f b)
  | 0, f, b, ok, hb => fun W v L ht hR ho hl => by
    have hh : halfB f b = false := by rw [← Bool.not_eq_true, halfB_iff]; omega
    cases hp : φ f b with
    | none =>
      rw [coll_none V 0 f b ok hb (fun g c k => ht.zero (ht.none_in 0 f b ok hb hp g c k)), List.append_nil, ptrN_none]
      exact coll_nil f b W R v L ho
    | some p =>
      rw [ptrN_some]
      by_cases hv : V f b = 0
      · have e : L ++ collV V 0 f b = L ++ [] ++ [] := by simp [collV, ownL, hv]
        rw [e] at hl ⊢
        exact coll_end_bare f b W base root R p φ V v L [] [] hh hv ht hp hn hR ho hl rfl rfl
      · have e : L ++ collV V 0 f b = (L ++ [(f, b, V f b)]) ++ [] ++ [] := by simp [collV, ownL, hv]
        rw [e] at hl ⊢
        exact coll_end_own f b W base root R p φ V v L [] [] hh hv ht hp hn hR ho hl rfl rfl
  | n + 1, f, b, ok, hb => fun W v L ht hR ho hl => by
    have h8 : b < 8 := by omega
    have hh : halfB f b = true := (halfB_iff f b).2 ⟨ok, h8⟩
    cases hp : φ f b with
    | none =>
      rw [coll_none V (n + 1) f b ok hb (fun g c k => ht.zero (ht.none_in (n + 1) f b ok hb hp g c k)), List.append_nil, ptrN_none]
      exact coll_nil f b W R v L ho
    | some p =>
      rw [ptrN_some]
      have k0 := coll_any base root R φ V hn n f (b + 1) (ok_lower ok h8) (by omega)
      have k1 := coll_any base root R φ V hn n (f + sz (b + 1)) (b + 1) (ok_upper ok h8) (by omega)
      by_cases hv : V f b = 0
      · have e : L ++ collV V (n + 1) f b = L ++ collV V n f (b + 1) ++ collV V n (f + sz (b + 1)) (b + 1) := by simp [collV, ownL, hv]
        rw [e] at hl ⊢
        exact coll_in_bare f b W base root R p φ V v L _ _ hh hv ht hp hn hR ho hl k0 k1
      · have e : L ++ collV V (n + 1) f b = (L ++ [(f, b, V f b)]) ++ collV V n f (b + 1) ++ collV V n (f + sz (b + 1)) (b + 1) := by simp [collV, ownL, hv]
        rw [e] at hl ⊢
        exact coll_in_own f b W base root R p φ V v L _ _ hh hv ht hp hn hR ho hl k0 k1

set_option maxHeartbeats 1000000 in
/-- the entries of a trie that holds a table: a new slice of that table -/
theorem entries_any (w : World) (base root : Nat) (φ : Ph) (V : VV) (T : List E) (ht : TrieP w base root φ V) (hv : Vis V T) (hT : Good T) (hl : T.length ≤ 1000) :
    Calls Try.prog 61 #[.pointer (some ⟨root, 0, none⟩)] w fun e w' => ∃ v, e = .returned v ∧ Owns w' w.heap.size v T ∧ Below w.heap.size w w' := by
  have hc := coll_vis hv hT
  have K := coll_any base root w.heap.size φ V (fun g c q e => ht.lt e) 8 0 0 ok_all (by omega) w (.slice none 0 0) [] ht (Nat.le_refl _) (World.ownsRow_nil _ _ _ _) (by rw [hc]; simpa using hl)
  rw [hc, ht.root, ptrN_some, List.nil_append] at K
  go_enter Try.func61, Try.ntmps61
  go_wp2_with fail
  refine K.mono ?_
  rintro e w1 ⟨v, rfl, ho, off⟩
  have R := Lib.hid (And.intro ho (off.below (Nat.le_refl _)))
  clear ho off K
  go_wp2_with fail
  go_ret
  exact ⟨v, rfl, R.out.1, R.out.2⟩

end Go.Proofs.Ytmbcfdlemapppaa
