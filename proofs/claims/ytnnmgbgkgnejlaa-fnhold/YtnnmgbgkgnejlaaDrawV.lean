/-
  The draws of two ranges.
-/
import Derived.Test.YtnnmgbgkgnejlaaDrawU
namespace Go.Proofs.Ytnnmgbgkgnejlaa
open Go.RowKit
set_option linter.unusedSimpArgs false

end Go.Proofs.Ytnnmgbgkgnejlaa
