/-
  Which addresses a range has; which range is in which.
-/
import Derived.Test.YthkaaamgkmmeeaaWalksB
namespace Go.Proofs.Ythkaaamgkmmeeaa
open Go.RowKit
set_option linter.unusedSimpArgs false

end Go.Proofs.Ythkaaamgkmmeeaa
