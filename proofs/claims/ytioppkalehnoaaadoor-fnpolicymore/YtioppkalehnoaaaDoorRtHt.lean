/-
  The library's heap over routes: down, Push, Pop.
-/
import Derived.Test.YtioppkalehnoaaaDoorRtHs
namespace Go.Proofs.YtioppkalehnoaaaDoor
open Go.RowKit
set_option linter.unusedSimpArgs false
set_option linter.unusedVariables false

/-- some answer, yes or no -/
def IsRet (e : Ending) : Prop := ∃ b, e = .returned (.bool b)
theorem isRet (b : Bool) : IsRet (.returned (.bool b)) := ⟨b, rfl⟩

end Go.Proofs.YtioppkalehnoaaaDoor
