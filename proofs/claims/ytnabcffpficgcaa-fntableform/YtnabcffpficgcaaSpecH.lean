/-
  What the model's TablePut, TableDrop, TableLess answer.
-/
import Derived.Test.YtnabcffpficgcaaSpecG
namespace Go.Proofs.Ytnabcffpficgcaa
open Go.RowKit
set_option linter.unusedSimpArgs false

/-- what the rounds of the model's TableLess keep -/
def LessS (w : World) (T : List E) (k : Nat) (v : Value) (W : World) : Prop := Owns W w.heap.size v (outK T k) ∧ Below w.heap.size w W

theorem TabA.cellsA {w : World} {ad : Addr} {T : List E} (h : TabA w (some ad) T) (j : Nat) (u : Value) (hj : (cellsT T)[j]? = some u) : w.cell? (ad.add j) = some u := by
  rcases id h with rfl | ⟨b, off, e, _⟩
  · simp [cellsT] at hj
  · obtain rfl : ad = ⟨b, off, none⟩ := by simpa using e
    exact h.cells j u hj

end Go.Proofs.Ytnabcffpficgcaa
