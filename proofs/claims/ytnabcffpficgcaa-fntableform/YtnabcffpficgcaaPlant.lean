/-
  What the other methods of a trie do: agrees, plant.
-/
import Derived.Test.YtnabcffpficgcaaReach
namespace Go.Proofs.Ytnabcffpficgcaa
open Go.RowKit

def agreeV (U V : VV) : Bool := (List.range 256).all fun n => viaV U (n : Int) 8 == viaV V (n : Int) 8
theorem agreeV_iff (U V : VV) : agreeV U V = true ↔ ∀ n : Nat, n < 256 → viaV U n 8 = viaV V n 8 := by
  unfold agreeV; rw [List.all_eq_true]
  constructor
  · intro h n hn; simpa using h n (by simpa using hn)
  · intro h n hn; simpa using h n (by simpa using hn)
theorem agreeV_no {U V : VV} {n : Nat} (hn : n < 256) (h : ¬ viaV U n 8 = viaV V n 8) : agreeV U V = false := by
  rw [← Bool.not_eq_true, agreeV_iff]; exact fun k => h (k n hn)

/-- a slice of entries, as it lies in memory -/
def TabA (w : World) (a : Option Addr) (T : List E) : Prop :=
  T = [] ∨ ∃ b off, a = some ⟨b, off, none⟩ ∧ ∀ i e, T[i]? = some e →
    w.cell? ⟨b, off + i * 3, none⟩ = some (.int .i64 e.1) ∧ w.cell? ⟨b, off + i * 3 + 1, none⟩ = some (.int .i64 e.2.1) ∧ w.cell? ⟨b, off + i * 3 + 2, none⟩ = some (.int .i64 e.2.2)
theorem TabA.at {w : World} {a : Option Addr} {T : List E} (h : TabA w a T) {k : Nat} (hk : k < T.length) :
    ∃ b off f c v, a = some ⟨b, off, none⟩ ∧ T[k]? = some (f, c, v) ∧ w.cell? ⟨b, off + k * 3, none⟩ = some (.int .i64 f) ∧ w.cell? ⟨b, off + k * 3 + 1, none⟩ = some (.int .i64 c) ∧ w.cell? ⟨b, off + k * 3 + 2, none⟩ = some (.int .i64 v) := by
  rcases h with rfl | ⟨b, off, rfl, h⟩
  · simp at hk
  · have e : T[k]? = some T[k] := List.getElem?_eq_getElem hk
    exact ⟨b, off, T[k].1, T[k].2.1, T[k].2.2, rfl, e, h k _ e⟩

theorem TabA.below {w w' : World} {a : Option Addr} {T : List E} (h : TabA w a T) (k : Below w.heap.size w w') : TabA w' a T := by
  rcases h with rfl | ⟨b, off, rfl, h⟩
  · exact .inl rfl
  · exact .inr ⟨b, off, rfl, fun i e hi => ⟨cell_later k (h i e hi).1, cell_later k (h i e hi).2.1, cell_later k (h i e hi).2.2⟩⟩
theorem plantV_take {T : List E} {k : Nat} {e : E} (h : T[k]? = some e) : plantV (T.take (k + 1)) = updV (plantV (T.take k)) e := by
  unfold plantV
  rw [List.take_add_one, h]
  simp
theorem mem_at {T : List E} {k : Nat} {e : E} (h : T[k]? = some e) : e ∈ T := List.mem_of_getElem? h

/-- an entry that lies in a block -/
def At3 (w : World) (R : Nat) (f b v : Int) : Prop :=
  w.cell? ⟨R, 0, none⟩ = some (.int .i64 f) ∧ w.cell? ⟨R, 1, none⟩ = some (.int .i64 b) ∧ w.cell? ⟨R, 2, none⟩ = some (.int .i64 v)
theorem At3.new (w : World) (f b v : Int) (t : TypeId) : At3 (w.alloc (.cells #[.int .i64 f, .int .i64 b, .int .i64 v] t)) w.heap.size f b v := ⟨by simp, by simp, by simp⟩
theorem At3.below {w w' : World} {R : Nat} {f b v : Int} (h : At3 w R f b v) (k : Below w.heap.size w w') : At3 w' R f b v := ⟨cell_later k h.1, cell_later k h.2.1, cell_later k h.2.2⟩
theorem At3.off {φ : Ph} {w w' : World} {R : Nat} {f b v : Int} (h : At3 w R f b v) (k : OffP φ w w') (hr : ∀ g c, φ g c ≠ some R) : At3 w' R f b v := ⟨k.cell h.1 hr, k.cell h.2.1 hr, k.cell h.2.2 hr⟩
theorem At3.far {w : World} {R : Nat} {f b v : Int} (h : At3 w R f b v) (q : Addr) (x : Value) (hne : q.block ≠ R) : At3 (w.setCell q x) R f b v :=
  ⟨by rw [World.cell?_setCell_far _ _ _ _ hne]; exact h.1, by rw [World.cell?_setCell_far _ _ _ _ hne]; exact h.2.1, by rw [World.cell?_setCell_far _ _ _ _ hne]; exact h.2.2⟩
theorem At3.alloc {w : World} {R : Nat} {f b v : Int} (h : At3 w R f b v) (o : Obj) : At3 (w.alloc o) R f b v := ⟨cellA h.1 o, cellA h.2.1 o, cellA h.2.2 o⟩
theorem At3.drew {w : World} {R : Nat} {f b v : Int} (h : At3 w R f b v) : At3 w.drew R f b v := h
theorem At3.drawn {w W : World} {R : Nat} {f b v : Int} (h : At3 w R f b v) (k : Drawn w W) : At3 W R f b v := by obtain ⟨m, rfl⟩ := k; exact h

end Go.Proofs.Ytnabcffpficgcaa
