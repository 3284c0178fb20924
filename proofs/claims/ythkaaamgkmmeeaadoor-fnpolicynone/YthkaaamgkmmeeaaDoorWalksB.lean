/-
  Contracts of chapter 1's functions that call the small ones.
-/
import Derived.Test.YthkaaamgkmmeeaaDoorWalksA
namespace Go.Proofs.YthkaaamgkmmeeaaDoor
open Go.RowKit

set_option maxHeartbeats 400000 in
theorem to_any (f b : Int) (w : World) :
    Calls Tryd.prog 67 #[.agg #[.int .i64 f, .int .i64 b]] w fun e w' => e = .returned (.agg #[.int .i64 f, .int .i64 b]) ∧ Below w.heap.size w w' := by
  go_enter Tryd.func67, Tryd.ntmps67
  go_wp2
  go_returns
  exact ⟨rfl, by go_grown⟩

set_option maxHeartbeats 400000 in
theorem lhas_any (f b a : Int) (w : World) (b0 : 0 ≤ b) (b8 : b ≤ 8) (f0 : 0 ≤ f) (a0 : 0 ≤ a) (f1 : f ≤ 255) (a1 : a ≤ 255) :
    Calls Tryd.prog 100 #[.agg #[.int .i64 f, .int .i64 b], .int .i64 a] w fun e w' => e = .returned (.bool (a / sz b == f / sz b)) ∧ Below w.heap.size w w' := by
  obtain ⟨s1, s2⟩ := sz_bd b0 b8
  have s0 : ¬ sz b = 0 := by omega
  go_enter Tryd.func100, Tryd.ntmps100
  go_wp2_with fail
  go_quiet (first | (go_at_call 81; exact quietL (size_any _ _ b0 b8)))
  go_wp2
  go_ret
  exact ⟨rfl, below_drewN ((Below.refl _ _).alloc (Nat.le_refl _) _) _⟩

end Go.Proofs.YthkaaamgkmmeeaaDoor
