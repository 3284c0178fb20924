/-
  Contracts of chapter 1's functions that call the small ones.
-/
import Derived.Test.YthkaaamgkmmeeaaWalksA
namespace Go.Proofs.Ythkaaamgkmmeeaa
open Go.RowKit

set_option maxHeartbeats 400000 in
theorem to_any (f b : Int) (w : World) :
    Calls Try.prog 27 #[.agg #[.int .i64 f, .int .i64 b]] w fun e w' => e = .returned (.agg #[.int .i64 f, .int .i64 b]) ∧ Below w.heap.size w w' := by
  go_enter Try.func27, Try.ntmps27
  go_wp2
  go_returns
  exact ⟨rfl, by go_grown⟩

end Go.Proofs.Ythkaaamgkmmeeaa
