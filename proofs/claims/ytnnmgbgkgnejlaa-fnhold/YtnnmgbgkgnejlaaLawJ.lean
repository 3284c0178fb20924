/-
  RangeHalf answers as the model does: the walk of the law.
-/
import Derived.Test.YtnnmgbgkgnejlaaHalfR
import Derived.Test.YtnnmgbgkgnejlaaJ1
namespace Go.Proofs.Ytnnmgbgkgnejlaa
open Go.RowKit
set_option linter.unusedSimpArgs false

set_option maxHeartbeats 400000 in
theorem eq_same (f b : Int) (w : World) :
    Calls Try.prog 34 #[.agg #[.int .i64 f, .int .i64 b], .agg #[.int .i64 f, .int .i64 b]] w fun e w' => e = .returned (.bool true) ∧ Below w.heap.size w w' := by
  have h1 : (f != f) = false := by simp
  have h2 : (b != b) = false := by simp
  go_enter Try.func34, Try.ntmps34
  go_wp2
  go_ret
  exact ⟨rfl, alloc2 _ _ _⟩
theorem shalf_is {f b : Int} {u v : Bool} {F c : Int} (h : halfV f b u = .tuple #[.agg #[.int .i64 F, .int .i64 c], .bool v]) (w : World) :
    Calls Try.prog 18 #[.agg #[.int .i64 f, .int .i64 b], .bool u] w fun e w' => e = .returned (.tuple #[.agg #[.int .i64 F, .int .i64 c], .bool v]) ∧ Below w.heap.size w w' := by
  rw [← h]
  by_cases hn : halfB f b = true
  · rw [halfV_yes u hn]; exact shalf_yes f b u w hn
  · rw [halfV_no u (by simpa using hn)]; exact shalf_no f b u w (by simpa using hn)
theorem rhalf_is {f b : Int} {u v : Bool} {F c : Int} (h : halfV f b u = .tuple #[.agg #[.int .i64 F, .int .i64 c], .bool v]) (w : World) :
    Calls Try.prog 10 #[.agg #[.int .i64 f, .int .i64 b], .bool u] w fun e w' => e = .returned (.tuple #[.agg #[.int .i64 F, .int .i64 c], .bool v]) ∧ Below w.heap.size w w' := by
  rw [← h]; exact rhalf_any f b u w
/-- RangeHalf answers some range and a bool -/
theorem half_some (f b : Int) (u : Bool) : ∃ F c v, halfV f b u = .tuple #[.agg #[.int .i64 F, .int .i64 c], .bool v] := by
  by_cases hn : halfB f b = true
  · exact ⟨_, _, _, halfV_yes u hn⟩
  · exact ⟨_, _, _, halfV_no u (by simpa using hn)⟩

end Go.Proofs.Ytnnmgbgkgnejlaa
