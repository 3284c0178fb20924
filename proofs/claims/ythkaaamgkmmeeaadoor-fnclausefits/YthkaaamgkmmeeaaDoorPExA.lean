/-
  The exact laws of PathOk, PathHas, PathAdd, PathCmp: the walks.
-/
import Derived.Test.YthkaaamgkmmeeaaDoorPEx
namespace Go.Proofs.YthkaaamgkmmeeaaDoor
open Go.RowKit
set_option linter.unusedSimpArgs false
set_option linter.unusedVariables false

theorem padd_len (L : List Int) (h : Int) : (padd L h).1.length ≤ 5 := by
  by_cases k : Path (h :: L)
  · rw [padd_yes k]; exact k.len
  · rw [padd_no k]; simp

end Go.Proofs.YthkaaamgkmmeeaaDoor
