/-
  The laws of a range's addresses: their walks.
-/
import Derived.Test.YtnnmgbgkgnejlaaDrawT
import Derived.Test.YtnnmgbgkgnejlaaLawA
namespace Go.Proofs.Ytnnmgbgkgnejlaa
open Go.RowKit
set_option linter.unusedSimpArgs false

theorem has_all {a : Int} (h0 : 0 ≤ a) (h1 : a ≤ 255) : hasB 0 0 a = true := by
  rw [hasB_iff]; refine ⟨okB_of (by omega) (by omega) (by omega) (by omega) (by simp), h0, ?_⟩; simp [sz]; omega
theorem many_ok {f b : Int} (ho : okB f b = true) : manyI f b = sz b := by simp [manyI, ho]

end Go.Proofs.Ytnnmgbgkgnejlaa
