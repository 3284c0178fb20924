/-
  Which addresses a range has; which range is in which.
-/
import Derived.Test.YtglmoacgaacmeaaDoorWalksB
namespace Go.Proofs.YtglmoacgaacmeaaDoor
open Go.RowKit
set_option linter.unusedSimpArgs false

end Go.Proofs.YtglmoacgaacmeaaDoor
