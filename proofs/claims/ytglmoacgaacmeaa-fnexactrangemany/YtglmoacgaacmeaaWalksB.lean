/-
  Contracts of chapter 1's functions that call the small ones.
-/
import Derived.Test.YtglmoacgaacmeaaWalksA
namespace Go.Proofs.Ytglmoacgaacmeaa
open Go.RowKit

set_option maxHeartbeats 400000 in
theorem to_any (f b : Int) (w : World) :
    Calls Try.prog 21 #[.agg #[.int .i64 f, .int .i64 b]] w fun e w' => e = .returned (.agg #[.int .i64 f, .int .i64 b]) ∧ Below w.heap.size w w' := by
  go_enter Try.func21, Try.ntmps21
  go_wp2
  go_returns
  exact ⟨rfl, by go_grown⟩

set_option maxHeartbeats 400000 in
theorem rok_any (f b : Int) (w : World) :
    Calls Try.prog 22 #[.agg #[.int .i64 f, .int .i64 b]] w fun e w' => e = .returned (.bool (okB f b)) ∧ Below w.heap.size w w' := by
  go_enter Try.func22, Try.ntmps22
  go_wp2_with fail
  refine (iok_any f b _).mono ?_
  rintro e w1 ⟨rfl, hb1⟩
  go_wp2
  go_ret
  exact ⟨rfl, below_box hb1 (by simp)⟩

set_option maxHeartbeats 400000 in
theorem lhas_any (f b a : Int) (w : World) (b0 : 0 ≤ b) (b8 : b ≤ 8) (f0 : 0 ≤ f) (a0 : 0 ≤ a) (f1 : f ≤ 255) (a1 : a ≤ 255) :
    Calls Try.prog 44 #[.agg #[.int .i64 f, .int .i64 b], .int .i64 a] w fun e w' => e = .returned (.bool (a / sz b == f / sz b)) ∧ Below w.heap.size w w' := by
  obtain ⟨s1, s2⟩ := sz_bd b0 b8
  have s0 : ¬ sz b = 0 := by omega
  go_enter Try.func44, Try.ntmps44
  go_wp2_with fail
  go_quiet (first | (go_at_call 42; exact quietL (size_any _ _ b0 b8)))
  go_wp2
  go_ret
  exact ⟨rfl, below_drewN ((Below.refl _ _).alloc (Nat.le_refl _) _) _⟩

set_option maxHeartbeats 400000 in
theorem exactOk_walk (f b : Int) (w : World) :
    Calls Try.prog 3 #[.agg #[.int .i64 f, .int .i64 b]] w fun e w' => e = .returned (.bool true) ∧ Below w.heap.size w w' := by
  go_enter Try.func3, Try.ntmps3
  go_wp2_with fail
  refine (to_any f b _).mono ?_
  rintro e w1 ⟨rfl, hb1⟩
  go_wp2_with fail
  refine (sok_any f b _).mono ?_
  rintro e w2 ⟨rfl, hb2⟩
  have c0 := cell_later hb2 (cell_later (a := ⟨w.heap.size, 0, none⟩) (v := .int .i64 f) hb1 (by simp))
  have c1 := cell_later hb2 (cell_later (a := ⟨w.heap.size, 1, none⟩) (v := .int .i64 b) hb1 (by simp))
  go_wp2_with fail
  refine (to_any f b _).mono ?_
  rintro e w3 ⟨rfl, hb3⟩
  go_wp2_with fail
  refine (rok_any f b _).mono ?_
  rintro e w4 ⟨rfl, hb4⟩
  go_wp2
  go_ret
  exact ⟨rfl, next (next (next (below_box hb1 (by simp)) hb2) hb3) hb4⟩

end Go.Proofs.Ytglmoacgaacmeaa
