/-
  Contracts of chapter 1's functions that call the small ones.
-/
import Derived.Test.YtglmoacgaacmeaaDoorWalksA
namespace Go.Proofs.YtglmoacgaacmeaaDoor
open Go.RowKit

set_option maxHeartbeats 400000 in
theorem to_any (f b : Int) (w : World) :
    Calls Tryd.prog 9 #[.agg #[.int .i64 f, .int .i64 b]] w fun e w' => e = .returned (.agg #[.int .i64 f, .int .i64 b]) ∧ Below w.heap.size w w' := by
  go_enter Tryd.func9, Tryd.ntmps9
  go_wp2
  go_returns
  exact ⟨rfl, by go_grown⟩

set_option maxHeartbeats 400000 in
theorem rok_any (f b : Int) (w : World) :
    Calls Tryd.prog 15 #[.agg #[.int .i64 f, .int .i64 b]] w fun e w' => e = .returned (.bool (okB f b)) ∧ Below w.heap.size w w' := by
  go_enter Tryd.func15, Tryd.ntmps15
  go_wp2_with fail
  refine (iok_any f b _).mono ?_
  rintro e w1 ⟨rfl, hb1⟩
  go_wp2
  go_ret
  exact ⟨rfl, below_box hb1 (by simp)⟩

end Go.Proofs.YtglmoacgaacmeaaDoor
