/-
  Contracts of chapter 1's functions that call the small ones.
-/
import Derived.Test.YtnabcffpficgcaaWalksA
namespace Go.Proofs.Ytnabcffpficgcaa
open Go.RowKit

end Go.Proofs.Ytnabcffpficgcaa
