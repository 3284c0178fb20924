/-
  The library's heap over routes: down, Push, Pop.
-/
import Derived.Test.YtioppkalehnoaaaGreatDoorRtHs
namespace Go.Proofs.YtioppkalehnoaaaGreatDoor
open Go.RowKit
set_option linter.unusedSimpArgs false
set_option linter.unusedVariables false

/-- some answer, yes or no -/
def IsRet (e : Ending) : Prop := ∃ b, e = .returned (.bool b)
theorem isRet (b : Bool) : IsRet (.returned (.bool b)) := ⟨b, rfl⟩

end Go.Proofs.YtioppkalehnoaaaGreatDoor
