/-
  Contracts of chapter 1's functions that call the small ones.
-/
import Derived.Test.YtnabcffpficgcaaDoorWalksA
namespace Go.Proofs.YtnabcffpficgcaaDoor
open Go.RowKit

end Go.Proofs.YtnabcffpficgcaaDoor
