/-
  The laws of two ranges: their walks.
-/
import Derived.Test.YtnnmgbgkgnejlaaDrawV
import Derived.Test.YtnnmgbgkgnejlaaMathB
import Derived.Test.YtnnmgbgkgnejlaaLawB
namespace Go.Proofs.Ytnnmgbgkgnejlaa
open Go.RowKit
set_option linter.unusedSimpArgs false

theorem rin_is {f b g c : Int} {v : Bool} (h : inB f b g c = v) (w : World) :
    Calls Try.prog 9 #[.agg #[.int .i64 f, .int .i64 b], .agg #[.int .i64 g, .int .i64 c]] w fun e w' => e = .returned (.bool v) ∧ Below w.heap.size w w' := by
  rw [← h]; exact rin_any f b g c w

end Go.Proofs.Ytnnmgbgkgnejlaa
