/-
  Which addresses a range has; which range is in which.
-/
import Derived.Test.YtfjfcdifnfffbaaDoorWalksB
namespace Go.Proofs.YtfjfcdifnfffbaaDoor
open Go.RowKit
set_option linter.unusedSimpArgs false

end Go.Proofs.YtfjfcdifnfffbaaDoor
