/-
  The draws of two ranges.
-/
import Derived.Test.YtfjfcdifnfffbaaDoorDrawU
namespace Go.Proofs.YtfjfcdifnfffbaaDoor
open Go.RowKit
set_option linter.unusedSimpArgs false

end Go.Proofs.YtfjfcdifnfffbaaDoor
