/-
  Routes by the document's model: are they ok, a copy of one.
-/
import Derived.Test.YtnnmgbgkgnejlaaRtMem
namespace Go.Proofs.Ytnnmgbgkgnejlaa
open Go.RowKit
set_option linter.unusedSimpArgs false
set_option linter.unusedVariables false

theorem rtOk_all {f b l : Int} {P M : List Int} : rtOk (f, b, P, l, M) = (okB f b && pOk P && decide (P ≠ []) && inR l 0 9 && mkOk M) := rfl

end Go.Proofs.Ytnnmgbgkgnejlaa
