/-
  What the program's functions on tables answer: put, drop.
-/
import Derived.Test.YtnabcffpficgcaaTabI
namespace Go.Proofs.Ytnabcffpficgcaa
open Go.RowKit
set_option linter.unusedSimpArgs false

theorem owns_mono {w : World} {R R' : Nat} {v : Value} {T : List E} (h : Owns w R v T) (hR : R' ≤ R) : Owns w R' v T := by
  refine ⟨h.1, ?_⟩
  rcases h.2 with h2 | ⟨g, cap, cur, h1, hb, r⟩
  · exact .inl h2
  · exact .inr ⟨g, cap, cur, h1, by omega, r⟩
/-- a new slice of entries, and whether -/
def OwnB (w : World) (L : List E) (ok : Bool) (e : Ending) (w' : World) : Prop := ∃ x, e = .returned (.tuple #[x, .bool ok]) ∧ Owns w' w.heap.size x L ∧ Below w.heap.size w w'

/-- what TablePut answers -/
def tputM (T : List E) (e : E) : List E × Bool := if tabOk T = true ∧ entOk e = true then (if (putM T e).length ≤ 12 then (putM T e, true) else (T, false)) else ([], false)

/-- what TableDrop answers -/
def tdropM (T : List E) (f b : Int) : List E × Bool := if tabOk T = true ∧ okB f b = true then (dropM T f b, decide ((dropM T f b).length < T.length)) else ([], false)

end Go.Proofs.Ytnabcffpficgcaa
