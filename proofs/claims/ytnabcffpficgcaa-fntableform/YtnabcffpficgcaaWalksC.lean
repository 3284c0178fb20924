/-
  Which addresses a range has; which range is in which.
-/
import Derived.Test.YtnabcffpficgcaaWalksB
namespace Go.Proofs.Ytnabcffpficgcaa
open Go.RowKit
set_option linter.unusedSimpArgs false

end Go.Proofs.Ytnabcffpficgcaa
