/-
  Drawn routes: l91Route.
-/
import Derived.Test.YtnnmgbgkgnejlaaRtDr
namespace Go.Proofs.Ytnnmgbgkgnejlaa
open Go.RowKit
set_option linter.unusedSimpArgs false
set_option linter.unusedVariables false

end Go.Proofs.Ytnnmgbgkgnejlaa
