/-
  The laws 'the program answers as the model does': RangeHas, RangeIn, RangeMany, RangeCmp: their walks.
-/
import Derived.Test.YtglmoacgaacmeaaDoorWalksE
namespace Go.Proofs.YtglmoacgaacmeaaDoor
open Go.RowKit
set_option linter.unusedSimpArgs false

end Go.Proofs.YtglmoacgaacmeaaDoor
