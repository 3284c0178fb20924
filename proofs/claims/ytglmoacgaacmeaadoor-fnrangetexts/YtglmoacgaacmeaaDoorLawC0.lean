/-
  The laws of two ranges: their walks.
-/
import Derived.Test.YtglmoacgaacmeaaDoorDrawV
import Derived.Test.YtglmoacgaacmeaaDoorMathB
import Derived.Test.YtglmoacgaacmeaaDoorLawB
namespace Go.Proofs.YtglmoacgaacmeaaDoor
open Go.RowKit
set_option linter.unusedSimpArgs false

end Go.Proofs.YtglmoacgaacmeaaDoor
