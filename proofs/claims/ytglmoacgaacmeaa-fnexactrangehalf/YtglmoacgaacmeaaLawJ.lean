/-
  RangeHalf answers as the model does: the walk of the law.
-/
import Derived.Test.YtglmoacgaacmeaaHalfR
import Derived.Test.YtglmoacgaacmeaaWalksE
namespace Go.Proofs.Ytglmoacgaacmeaa
open Go.RowKit
set_option linter.unusedSimpArgs false

set_option maxHeartbeats 400000 in
theorem eq_same (f b : Int) (w : World) :
    Calls Try.prog 29 #[.agg #[.int .i64 f, .int .i64 b], .agg #[.int .i64 f, .int .i64 b]] w fun e w' => e = .returned (.bool true) ∧ Below w.heap.size w w' := by
  have h1 : (f != f) = false := by simp
  have h2 : (b != b) = false := by simp
  go_enter Try.func29, Try.ntmps29
  go_wp2
  go_ret
  exact ⟨rfl, alloc2 _ _ _⟩
theorem shalf_is {f b : Int} {u v : Bool} {F c : Int} (h : halfV f b u = .tuple #[.agg #[.int .i64 F, .int .i64 c], .bool v]) (w : World) :
    Calls Try.prog 27 #[.agg #[.int .i64 f, .int .i64 b], .bool u] w fun e w' => e = .returned (.tuple #[.agg #[.int .i64 F, .int .i64 c], .bool v]) ∧ Below w.heap.size w w' := by
  rw [← h]
  by_cases hn : halfB f b = true
  · rw [halfV_yes u hn]; exact shalf_yes f b u w hn
  · rw [halfV_no u (by simpa using hn)]; exact shalf_no f b u w (by simpa using hn)
theorem rhalf_is {f b : Int} {u v : Bool} {F c : Int} (h : halfV f b u = .tuple #[.agg #[.int .i64 F, .int .i64 c], .bool v]) (w : World) :
    Calls Try.prog 28 #[.agg #[.int .i64 f, .int .i64 b], .bool u] w fun e w' => e = .returned (.tuple #[.agg #[.int .i64 F, .int .i64 c], .bool v]) ∧ Below w.heap.size w w' := by
  rw [← h]; exact rhalf_any f b u w
/-- RangeHalf answers some range and a bool -/
theorem half_some (f b : Int) (u : Bool) : ∃ F c v, halfV f b u = .tuple #[.agg #[.int .i64 F, .int .i64 c], .bool v] := by
  by_cases hn : halfB f b = true
  · exact ⟨_, _, _, halfV_yes u hn⟩
  · exact ⟨_, _, _, halfV_no u (by simpa using hn)⟩

set_option maxHeartbeats 800000 in
theorem exactHalf_walk (f b : Int) (u : Bool) (w : World) :
    Calls Try.prog 6 #[.agg #[.int .i64 f, .int .i64 b], .bool u] w fun e w' => e = .returned (.bool true) ∧ Below w.heap.size w w' := by
  obtain ⟨F, c, v, hv⟩ := half_some f b u
  have HV := Lib.hid hv
  clear hv
  have rA := At.new w f b 23
  have B1 : Below w.heap.size w (w.alloc (.cells #[.int .i64 f, .int .i64 b] 23)) := (Below.refl _ _).alloc (Nat.le_refl _) _
  have hd : (v != v) = false := by simp
  go_enter Try.func6, Try.ntmps6
  go_wp2_with fail
  generalize w.alloc (.cells #[.int .i64 f, .int .i64 b] 23) = W0 at *
  refine (to_any f b _).mono ?_
  rintro e w1 ⟨rfl, hb⟩
  replace rA := rA.below hb
  replace B1 := next B1 hb
  clear hb
  go_wp2_with fail
  refine (shalf_is HV.out _).mono ?_
  rintro e w2 ⟨rfl, hb⟩
  replace rA := rA.below hb
  replace B1 := next B1 hb
  clear hb
  obtain ⟨rA0, rA1, _, _⟩ := id rA
  have lA0 := rA.lt
  go_wp2_with fail
  clear rA0 rA1
  clear lA0
  have rW := At.new w2 F c 25
  have lrA := rA.lt
  replace rA := rA.alloc (.cells #[.int .i64 F, .int .i64 c] 25)
  replace B1 := B1.alloc B1.size (.cells #[.int .i64 F, .int .i64 c] 25)
  generalize w2.alloc (.cells #[.int .i64 F, .int .i64 c] 25) = W2 at *
  generalize w2.heap.size = D1 at *
  refine (to_any f b _).mono ?_
  rintro e w3 ⟨rfl, hb⟩
  replace rA := rA.below hb
  replace rW := rW.below hb
  replace B1 := next B1 hb
  clear hb
  go_wp2_with fail
  refine (rhalf_is HV.out _).mono ?_
  rintro e w4 ⟨rfl, hb⟩
  replace rA := rA.below hb
  replace rW := rW.below hb
  replace B1 := next B1 hb
  clear hb
  obtain ⟨rW0, rW1, _, _⟩ := id rW
  have lW0 := rW.lt
  go_wp2_with fail
  clear rW0 rW1
  clear lW0
  have rG := At.new w4 F c 25
  have lrA := rA.lt
  have lrW := rW.lt
  replace rA := rA.alloc (.cells #[.int .i64 F, .int .i64 c] 25)
  replace rW := rW.alloc (.cells #[.int .i64 F, .int .i64 c] 25)
  replace B1 := B1.alloc B1.size (.cells #[.int .i64 F, .int .i64 c] 25)
  generalize w4.alloc (.cells #[.int .i64 F, .int .i64 c] 25) = W4 at *
  generalize w4.heap.size = D2 at *
  refine (eq_same F c _).mono ?_
  rintro e w5 ⟨rfl, hb⟩
  replace rA := rA.below hb
  replace rW := rW.below hb
  replace rG := rG.below hb
  replace B1 := next B1 hb
  clear hb
  go_wp2
  go_ret
  exact ⟨rfl, B1⟩

theorem exactHalf_args (x y : Int) (u : Bool) (w : World) (_ : (Lit.int .i64 x).wf = true) (_ : (Lit.int .i64 y).wf = true) :
    Calls Try.prog 6 #[.agg #[.int .i64 x, .int .i64 y], .bool u] w fun e w' => e = .returned (.bool true) ∧ Below w.heap.size w w' := exactHalf_walk x y u w

end Go.Proofs.Ytglmoacgaacmeaa
