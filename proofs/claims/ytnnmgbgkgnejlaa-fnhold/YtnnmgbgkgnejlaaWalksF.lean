/-
  The laws 'the program answers as the model does': RangeHas, RangeIn, RangeMany, RangeCmp: their walks.
-/
import Derived.Test.YtnnmgbgkgnejlaaJ1
namespace Go.Proofs.Ytnnmgbgkgnejlaa
open Go.RowKit
set_option linter.unusedSimpArgs false

end Go.Proofs.Ytnnmgbgkgnejlaa
