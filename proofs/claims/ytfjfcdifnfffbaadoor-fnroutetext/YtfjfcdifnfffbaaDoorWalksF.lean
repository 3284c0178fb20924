/-
  The laws 'the program answers as the model does': RangeHas, RangeIn, RangeMany, RangeCmp: their walks.
-/
import Derived.Test.YtfjfcdifnfffbaaDoorWalksE
namespace Go.Proofs.YtfjfcdifnfffbaaDoor
open Go.RowKit
set_option linter.unusedSimpArgs false

end Go.Proofs.YtfjfcdifnfffbaaDoor
