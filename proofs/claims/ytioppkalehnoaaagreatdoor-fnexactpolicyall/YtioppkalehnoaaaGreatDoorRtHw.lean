/-
  The document's RouteBest.
-/
import Derived.Test.YtioppkalehnoaaaGreatDoorRtHv
import Derived.Test.YtioppkalehnoaaaGreatDoorRtLw
namespace Go.Proofs.YtioppkalehnoaaaGreatDoor
open Go.RowKit
set_option linter.unusedSimpArgs false
set_option linter.unusedVariables false

theorem map_at {L : List RV} {k : Nat} {v : RV} (h : L[k]? = some v) : (L.map RV.rt)[k]? = some v.rt := by rw [List.getElem?_map, h]; rfl
/-- how far the model has come -/
def BestT (l : List Rt) (k : Nat) (z : Int) : Prop := k = 0 ∧ z = -1 ∨ ∃ j : Nat, z = (j : Int) ∧ BestU l k j

end Go.Proofs.YtioppkalehnoaaaGreatDoor
