/-
  What the helpers of the exact laws do: copies, comparisons, marks.
-/
import Derived.Test.YtnabcffpficgcaaSpecH
namespace Go.Proofs.Ytnabcffpficgcaa
open Go.RowKit
set_option linter.unusedSimpArgs false

def szI (l n : Nat) : Int := if n ≤ l then (l : Int) - (n : Int) else -1
theorem szI_yes {l n : Nat} (h : n ≤ l) : szI l n = ((l - n : Nat) : Int) := by simp [szI, h]; omega
theorem szI_no {l n : Nat} (h : ¬ n ≤ l) : szI l n = -1 := by simp [szI, h]
/-- an entry in a block that can be written -/
def At3w (w : World) (R : Nat) (f b v : Int) : Prop := At3 w R f b v ∧ w.frozen? ⟨R, 0, none⟩ = false ∧ w.frozen? ⟨R, 1, none⟩ = false ∧ w.frozen? ⟨R, 2, none⟩ = false
theorem At3w.new (w : World) (f b v : Int) (t : TypeId) : At3w (w.alloc (.cells #[.int .i64 f, .int .i64 b, .int .i64 v] t)) w.heap.size f b v := ⟨At3.new w f b v t, by simp, by simp, by simp⟩
theorem At3w.lt {w : World} {R : Nat} {f b v : Int} (h : At3w w R f b v) : R < w.heap.size := World.block_lt_of_cell? w _ h.1.1
theorem At3w.below {w w' : World} {R : Nat} {f b v : Int} (h : At3w w R f b v) (k : Below w.heap.size w w') : At3w w' R f b v :=
  ⟨h.1.below k, by rw [k.frozen (p := ⟨R, 0, none⟩) h.lt]; exact h.2.1, by rw [k.frozen (p := ⟨R, 1, none⟩) h.lt]; exact h.2.2.1, by rw [k.frozen (p := ⟨R, 2, none⟩) h.lt]; exact h.2.2.2⟩
theorem At3w.alloc {w : World} {R : Nat} {f b v : Int} (h : At3w w R f b v) (o : Obj) : At3w (w.alloc o) R f b v := h.below ((Below.refl _ _).alloc (Nat.le_refl _) o)
theorem At3w.far {w : World} {R : Nat} {f b v : Int} (h : At3w w R f b v) (q : Addr) (x : Value) (hne : q.block ≠ R) : At3w (w.setCell q x) R f b v :=
  ⟨h.1.far q x hne, by rw [World.frozen?_setCell]; exact h.2.1, by rw [World.frozen?_setCell]; exact h.2.2.1, by rw [World.frozen?_setCell]; exact h.2.2.2⟩
theorem At3w.put0 {w : World} {R : Nat} {f b v : Int} (h : At3w w R f b v) (x : Int) : At3w (w.setCell ⟨R, 0, none⟩ (.int .i64 x)) R x b v := by
  refine ⟨⟨World.cell?_setCell_same' _ _ _ (by rw [h.1.1]; rfl), ?_, ?_⟩, by rw [World.frozen?_setCell]; exact h.2.1, by rw [World.frozen?_setCell]; exact h.2.2.1, by rw [World.frozen?_setCell]; exact h.2.2.2⟩
  · rw [World.cell?_setCell_other _ _ _ _ (by simp)]; exact h.1.2.1
  · rw [World.cell?_setCell_other _ _ _ _ (by simp)]; exact h.1.2.2
theorem At3w.put1 {w : World} {R : Nat} {f b v : Int} (h : At3w w R f b v) (x : Int) : At3w (w.setCell ⟨R, 1, none⟩ (.int .i64 x)) R f x v := by
  refine ⟨⟨?_, World.cell?_setCell_same' _ _ _ (by rw [h.1.2.1]; rfl), ?_⟩, by rw [World.frozen?_setCell]; exact h.2.1, by rw [World.frozen?_setCell]; exact h.2.2.1, by rw [World.frozen?_setCell]; exact h.2.2.2⟩
  · rw [World.cell?_setCell_other _ _ _ _ (by simp)]; exact h.1.1
  · rw [World.cell?_setCell_other _ _ _ _ (by simp)]; exact h.1.2.2
theorem At3w.put2 {w : World} {R : Nat} {f b v : Int} (h : At3w w R f b v) (x : Int) : At3w (w.setCell ⟨R, 2, none⟩ (.int .i64 x)) R f b x := by
  refine ⟨⟨?_, ?_, World.cell?_setCell_same' _ _ _ (by rw [h.1.2.2]; rfl)⟩, by rw [World.frozen?_setCell]; exact h.2.1, by rw [World.frozen?_setCell]; exact h.2.2.1, by rw [World.frozen?_setCell]; exact h.2.2.2⟩
  · rw [World.cell?_setCell_other _ _ _ _ (by simp)]; exact h.1.1
  · rw [World.cell?_setCell_other _ _ _ _ (by simp)]; exact h.1.2.1

theorem Owns.tabN {w : World} {R : Nat} {v : Value} {T : List E} (h : Owns w R v T) : ∃ a cap, v = .slice a T.length cap ∧ TabA w a T ∧ (a = none → cap = 0) := by
  obtain ⟨_, h2⟩ := id h
  rcases h2 with ⟨rfl, h0⟩ | ⟨g, cap, cur, rfl, r⟩
  · exact ⟨none, 0, by rw [h0], .inl (List.eq_nil_of_length_eq_zero h0), fun _ => rfl⟩
  · obtain ⟨a, c, e, t⟩ := Owns.tab h
    exact ⟨a, c, e, t, fun ha => by subst ha; cases e⟩

theorem cellsT_cons (a : E) (l : List E) : cellsT (a :: l) = .int .i64 a.1 :: .int .i64 a.2.1 :: .int .i64 a.2.2 :: cellsT l := rfl
theorem cellsT_set0 (x : Int) : ∀ (L : List E) (k : Nat) (y : E), L[k]? = some y → (cellsT L).set (k * 3) (.int .i64 x) = cellsT (L.set k (x, y.2.1, y.2.2))
  | [], _, _, h => by simp at h
  | a :: l, 0, y, h => by simp at h; subst h; rfl
  | a :: l, k + 1, y, h => by
    have ih := cellsT_set0 x l k y (by simpa using h)
    rw [List.set_cons_succ, cellsT_cons, cellsT_cons, ← ih, show (k + 1) * 3 = k * 3 + 1 + 1 + 1 by omega]; rfl
theorem cellsT_set1 (x : Int) : ∀ (L : List E) (k : Nat) (y : E), L[k]? = some y → (cellsT L).set (k * 3 + 1) (.int .i64 x) = cellsT (L.set k (y.1, x, y.2.2))
  | [], _, _, h => by simp at h
  | a :: l, 0, y, h => by simp at h; subst h; rfl
  | a :: l, k + 1, y, h => by
    have ih := cellsT_set1 x l k y (by simpa using h)
    rw [List.set_cons_succ, cellsT_cons, cellsT_cons, ← ih, show (k + 1) * 3 + 1 = k * 3 + 1 + 1 + 1 + 1 by omega]; rfl
theorem cellsT_set2 (x : Int) : ∀ (L : List E) (k : Nat) (y : E), L[k]? = some y → (cellsT L).set (k * 3 + 2) (.int .i64 x) = cellsT (L.set k (y.1, y.2.1, x))
  | [], _, _, h => by simp at h
  | a :: l, 0, y, h => by simp at h; subst h; rfl
  | a :: l, k + 1, y, h => by
    have ih := cellsT_set2 x l k y (by simpa using h)
    rw [List.set_cons_succ, cellsT_cons, cellsT_cons, ← ih, show (k + 1) * 3 + 2 = k * 3 + 2 + 1 + 1 + 1 by omega]; rfl
/-- an entry of an own slice is written over -/
theorem Owns.put {w : World} {R g cap : Nat} {L : List E} {k : Nat} (h : Owns w R (.slice (some ⟨g, 0, none⟩) L.length cap) L) (hk : k < L.length) (x y z : Int) :
    Owns (((w.setCell ⟨g, k * 3, none⟩ (.int .i64 x)).setCell ⟨g, k * 3 + 1, none⟩ (.int .i64 y)).setCell ⟨g, k * 3 + 2, none⟩ (.int .i64 z)) R (.slice (some ⟨g, 0, none⟩) L.length cap) (L.set k (x, y, z)) ∧
    w.grownBy (((w.setCell ⟨g, k * 3, none⟩ (.int .i64 x)).setCell ⟨g, k * 3 + 1, none⟩ (.int .i64 y)).setCell ⟨g, k * 3 + 2, none⟩ (.int .i64 z)) (some g) := by
  have e0 : L[k]? = some L[k] := List.getElem?_eq_getElem hk
  have h1 := World.ownsRow.stored h (k * 3) (.int .i64 x)
  rw [cellsT_set0 x L k _ e0] at h1
  have h2 := World.ownsRow.stored h1.1 (k * 3 + 1) (.int .i64 y)
  rw [cellsT_set1 y _ k (x, L[k].2.1, L[k].2.2) (by simp [hk])] at h2
  have h3 := World.ownsRow.stored h2.1 (k * 3 + 2) (.int .i64 z)
  rw [cellsT_set2 z _ k (x, y, L[k].2.2) (by simp [hk])] at h3
  simp only [List.set_set] at h3
  refine ⟨?_, only_on (only_on h1.2 h2.2) h3.2⟩
  have := h3.1
  simpa [Owns] using this
theorem Owns.cells3 {w : World} {R g cap : Nat} {L : List E} {k : Nat} {e : E} (h : Owns w R (.slice (some ⟨g, 0, none⟩) L.length cap) L) (hk : L[k]? = some e) :
    w.cell? ⟨g, k * 3, none⟩ = some (.int .i64 e.1) ∧ w.cell? ⟨g, k * 3 + 1, none⟩ = some (.int .i64 e.2.1) ∧ w.cell? ⟨g, k * 3 + 2, none⟩ = some (.int .i64 e.2.2) := by
  obtain ⟨h1, h2, h3⟩ := cellsT_at hk
  obtain ⟨hi, _⟩ := List.getElem?_eq_some_iff.1 hk
  exact ⟨(h.cellAt (k * 3) (by omega)).trans h1, (h.cellAt (k * 3 + 1) (by omega)).trans h2, (h.cellAt (k * 3 + 2) (by omega)).trans h3⟩

theorem cellsT_rep : ∀ n : Nat, cellsT (List.replicate n (0, 0, 0)) = List.replicate (n * 3) (.int .i64 0)
  | 0 => rfl
  | n + 1 => by
    rw [List.replicate_succ, cellsT_cons, cellsT_rep n, show (n + 1) * 3 = n * 3 + 1 + 1 + 1 by omega]
    rfl
theorem madeT (n : Nat) : (madeCells #[Value.int .i64 0, .int .i64 0, .int .i64 0] (n * 3)).toList = cellsT (List.replicate n (0, 0, 0)) := by
  rw [cellsT_rep]
  refine List.eq_replicate_iff.2 ⟨by simp [size_madeCells], fun x hx => ?_⟩
  simp only [madeCells, Array.toList_map, List.mem_map] at hx
  obtain ⟨i, _, rfl⟩ := hx
  have h3 : i % 3 = 0 ∨ i % 3 = 1 ∨ i % 3 = 2 := by omega
  show (#[Value.int .i64 0, .int .i64 0, .int .i64 0] : Array Value)[i % 3]! = _
  rcases h3 with h | h | h <;> rw [h] <;> rfl

end Go.Proofs.Ytnabcffpficgcaa
