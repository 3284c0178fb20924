/-
  The laws of two ranges: their walks.
-/
import Derived.Test.YtfjfcdifnfffbaaDoorDrawV
import Derived.Test.YtfjfcdifnfffbaaDoorMathB
import Derived.Test.YtfjfcdifnfffbaaDoorLawB
namespace Go.Proofs.YtfjfcdifnfffbaaDoor
open Go.RowKit
set_option linter.unusedSimpArgs false

end Go.Proofs.YtfjfcdifnfffbaaDoor
