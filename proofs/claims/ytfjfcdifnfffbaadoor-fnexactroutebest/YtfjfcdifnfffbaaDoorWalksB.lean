/-
  Contracts of chapter 1's functions that call the small ones.
-/
import Derived.Test.YtfjfcdifnfffbaaDoorWalksA
namespace Go.Proofs.YtfjfcdifnfffbaaDoor
open Go.RowKit

set_option maxHeartbeats 400000 in
theorem to_any (f b : Int) (w : World) :
    Calls Tryd.prog 84 #[.agg #[.int .i64 f, .int .i64 b]] w fun e w' => e = .returned (.agg #[.int .i64 f, .int .i64 b]) ∧ Below w.heap.size w w' := by
  go_enter Tryd.func84, Tryd.ntmps84
  go_wp2
  go_returns
  exact ⟨rfl, by go_grown⟩

end Go.Proofs.YtfjfcdifnfffbaaDoor
