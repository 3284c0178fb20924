/-
  The entries of a trie, collected in order into a slice of the call's own.
-/
import Derived.Test.YtnabcffpficgcaaPlant
import Derived.Test.YtnabcffpficgcaaHalfR
namespace Go.Proofs.Ytnabcffpficgcaa
open Go.RowKit
set_option linter.unusedSimpArgs false
set_option linter.unusedVariables false

/-- the cells of entries -/
def cellsT (T : List E) : List Value := T.flatMap fun e => [.int .i64 e.1, .int .i64 e.2.1, .int .i64 e.2.2]
theorem cellsT_app (A B : List E) : cellsT (A ++ B) = cellsT A ++ cellsT B := List.flatMap_append
theorem cellsT_len (T : List E) : (cellsT T).length = T.length * 3 := by
  induction T with
  | nil => rfl
  | cons a l ih => simp only [cellsT, List.flatMap_cons, List.length_append, List.length_cons, List.length_nil] at ih ⊢; rw [ih]; omega
theorem cellsT_at {T : List E} {i : Nat} {e : E} (h : T[i]? = some e) : (cellsT T)[i * 3]? = some (.int .i64 e.1) ∧ (cellsT T)[i * 3 + 1]? = some (.int .i64 e.2.1) ∧ (cellsT T)[i * 3 + 2]? = some (.int .i64 e.2.2) := by
  induction T generalizing i with
  | nil => simp at h
  | cons a l ih =>
    have hc : cellsT (a :: l) = [.int .i64 a.1, .int .i64 a.2.1, .int .i64 a.2.2] ++ cellsT l := rfl
    cases i with
    | zero => simp at h; subst h; rw [hc]; simp
    | succ i =>
      have h' : l[i]? = some e := by simpa using h
      obtain ⟨h1, h2, h3⟩ := ih h'
      rw [hc, show (i + 1) * 3 = i * 3 + 3 by omega]
      refine ⟨?_, ?_, ?_⟩
      · rw [List.getElem?_append_right (by simp)]; simpa using h1
      · rw [List.getElem?_append_right (by simp)]; simpa using h2
      · rw [List.getElem?_append_right (by simp)]; simpa using h3

/-- a slice of entries of the call's own -/
abbrev Owns (w : World) (R : Nat) (v : Value) (T : List E) : Prop := w.ownsRow R 29 3 v T.length (cellsT T)

/-- all blocks are as they were but rows of entries from R on -/
structure OffE (R : Nat) (w w' : World) : Prop where
  os : w'.os = w.os
  tape : w'.tape = w.tape
  output : w'.output = w.output
  size : w.heap.size ≤ w'.heap.size
  block : ∀ i, i < w.heap.size → (i < R ∨ ∀ cur, w.heap[i]? ≠ some (.cells cur 29 (0, 0))) → w'.heap[i]? = w.heap[i]?
theorem OffE.refl (R : Nat) (w : World) : OffE R w w := ⟨rfl, rfl, rfl, Nat.le_refl _, fun _ _ _ => rfl⟩
theorem OffE.trans {R : Nat} {a b c : World} (h : OffE R a b) (k : OffE R b c) : OffE R a c :=
  ⟨k.os.trans h.os, k.tape.trans h.tape, k.output.trans h.output, Nat.le_trans h.size k.size, fun i hi hn => by
    have e := h.block i hi hn
    refine (k.block i (by have := h.size; omega) ?_).trans e
    rcases hn with hn | hn
    · exact .inl hn
    · exact .inr (fun cur => by rw [e]; exact hn cur)⟩
theorem OffE.later {R : Nat} {w w' w2 : World} (h : OffE R w w') (k : Below w'.heap.size w' w2) : OffE R w w2 :=
  ⟨k.os.trans h.os, k.tape.trans h.tape, k.output.trans h.output, Nat.le_trans h.size k.size, fun i hi hn => (k.block i (by have := h.size; omega)).trans (h.block i hi hn)⟩
theorem OffE.alloc {R : Nat} {w w' : World} (h : OffE R w w') (o : Obj) : OffE R w (w'.alloc o) := h.later ((Below.refl _ _).alloc (Nat.le_refl _) o)
theorem OffE.drew {R : Nat} {w w' : World} (h : OffE R w w') : OffE R w w'.drew := ⟨h.os, h.tape, h.output, h.size, h.block⟩
theorem OffE.below {R : Nat} {w w' : World} (h : OffE R w w') (hR : R ≤ w.heap.size) : Below R w w' := ⟨h.os, h.tape, h.output, h.size, fun i hi => h.block i (by omega) (.inl hi)⟩
theorem OffE.grown {R : Nat} {w w' w2 : World} {v : Value} {T : List E} (h : OffE R w w') (hg : w'.grownBy w2 v.ownBlock) (ho : Owns w' R v T) : OffE R w w2 := by
  refine h.trans ⟨hg.os, hg.tape, hg.output, hg.size, fun i hi hn => hg.block i hi fun e => ?_⟩
  rcases ho.2 with ⟨rfl, _⟩ | ⟨g, cap, cur, rfl, hb, hgg, _⟩
  · simp [Value.ownBlock] at e
  · simp [Value.ownBlock] at e
    subst e
    rcases hn with hn | hn
    · omega
    · exact hn cur hgg

/-- a range that lies alone in a block -/
def Bx (w : World) (X : Nat) (f b : Int) : Prop := w.heap[X]? = some (.cells #[.int .i64 f, .int .i64 b] 27)
theorem Bx.lt {w : World} {X : Nat} {f b : Int} (h : Bx w X f b) : X < w.heap.size := (Array.getElem?_eq_some_iff.1 h).1
theorem Bx.new (w : World) (f b : Int) : Bx (w.alloc (.cells #[.int .i64 f, .int .i64 b] 27)) w.heap.size f b := heap_alloc_new w _
theorem Bx.off {w w' : World} {R X : Nat} {f b : Int} (h : Bx w X f b) (k : OffE R w w') : Bx w' X f b :=
  (k.block X h.lt (.inr fun cur e => by rw [h] at e; simp at e)).trans h
theorem Bx.later {w w' : World} {X : Nat} {f b : Int} (h : Bx w X f b) (k : Below w.heap.size w w') : Bx w' X f b := (k.block X h.lt).trans h
theorem Bx.cells {w : World} {X : Nat} {f b : Int} (h : Bx w X f b) : w.cell? ⟨X, 0, none⟩ = some (.int .i64 f) ∧ w.cell? ⟨X, 1, none⟩ = some (.int .i64 b) :=
  ⟨by rw [cell_of_row w X 0 _ _ _ h]; rfl, by rw [cell_of_row w X 1 _ _ _ h]; rfl⟩

theorem infoE : (Try.prog.info? 29).map (fun i => (i.zero, i.size, i.bytes)) = some (some (.agg #[.int .i64 0, .int .i64 0, .int .i64 0]), 3, 24) := by kernel_rfl

/-- what collect leaves -/
def Coll (w : World) (R : Nat) (L : List E) (e : Ending) (w' : World) : Prop := ∃ v', e = .returned v' ∧ Owns w' R v' L ∧ OffE R w w'

theorem news3 (W : World) (f b v : Int) (t : TypeId) (j : Nat) (u : Value) (h : (cellsT [(f, b, v)])[j]? = some u) :
    (W.alloc (.cells #[.int .i64 f, .int .i64 b, .int .i64 v] t)).drew.cell? ((⟨W.heap.size, 0, none⟩ : Addr).add j) = some u := by
  match j, h with
  | 0, h => simp [cellsT] at h; subst h; simp [Addr.add]
  | 1, h => simp [cellsT] at h; subst h; simp [Addr.add]
  | 2, h => simp [cellsT] at h; subst h; simp [Addr.add]
  | j + 3, h => simp [cellsT] at h
theorem oneT (T : List E) : ∀ u ∈ cellsT T, u.oneCell' = true := by
  intro u hu
  simp only [cellsT, List.mem_flatMap] at hu
  obtain ⟨e, _, he⟩ := hu
  simp at he
  rcases he with rfl | rfl | rfl <;> rfl
theorem owns_app {w : World} {R : Nat} {v : Value} {L : List E} {e : E} (h : w.ownsRow R 29 3 v (L.length + 1) (cellsT L ++ cellsT [e])) : Owns w R v (L ++ [e]) := by
  rw [← cellsT_app] at h; simpa [Owns] using h

theorem owns_later {w w' : World} {R : Nat} {e : TypeId} {z n : Nat} {v : Value} {xs : List Value} (h : w.ownsRow R e z v n xs) (k : Below w.heap.size w w') : w'.ownsRow R e z v n xs :=
  h.kept (row := none) ⟨k.os, k.tape, k.output, k.size, fun i hi _ => k.block i hi⟩ (by cases v.ownBlock <;> simp)
theorem Bx.alloc {w : World} {X : Nat} {f b : Int} (h : Bx w X f b) (o : Obj) : Bx (w.alloc o) X f b := h.later ((Below.refl _ _).alloc (Nat.le_refl _) o)

def partL (L C0 C1 : List E) : Nat → List E
  | 0 => L
  | 1 => L ++ C0
  | _ => L ++ C0 ++ C1

/-- under a node that is not there no node is -/
theorem TrieP.none_in {w : World} {base root : Nat} {φ : Ph} {V : VV} (h : TrieP w base root φ V) : ∀ (n : Nat) (f b : Int), okB f b = true → b + n = 8 → φ f b = none → ∀ g c, inB g c f b = true → φ g c = none
  | 0, f, b, ok, hb, hn, g, c, hi => by
    have k := (inB_iff _ _ _ _).1 hi
    have k2 := (okB_iff _ _).1 k.1
    have hc : c = b := by omega
    have := has_same (x := (g, c, 0)) (y := (f, b, 0)) (a := g) (first_has k.1) k.2.1 hc
    simp at this
    rw [this, hc]; exact hn
  | n + 1, f, b, ok, hb, hn, g, c, hi => by
    have h8 : b < 8 := by omega
    rcases (in_halves ((inB_iff _ _ _ _).1 hi).1 ok h8).1 hi with ⟨rfl, rfl⟩ | k | k
    · exact hn
    · exact TrieP.none_in h n f (b + 1) (ok_lower ok h8) (by omega) (h.closed ok h8 hn false) g c k
    · exact TrieP.none_in h n (f + sz (b + 1)) (b + 1) (ok_upper ok h8) (by omega) (h.closed ok h8 hn true) g c k

end Go.Proofs.Ytnabcffpficgcaa
