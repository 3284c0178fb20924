/-
  Which of two ranges stands ahead; a range made of a number.
-/
import Derived.Test.YtfjfcdifnfffbaaDoorLawC0
namespace Go.Proofs.YtfjfcdifnfffbaaDoor
open Go.RowKit
set_option linter.unusedSimpArgs false

theorem cmp3 (f b g c : Int) : cmpI f b g c = -1 ∨ cmpI f b g c = 0 ∨ cmpI f b g c = 1 := by
  unfold cmpI; repeat (first | split | omega)
theorem cmp_neg (f b g c : Int) : cmpI g c f b = - cmpI f b g c := by
  unfold cmpI; repeat (first | split | omega)
theorem cmp_zero {f b g c : Int} (h : cmpI f b g c = 0) : f = g ∧ b = c := by
  unfold cmpI at h; repeat (first | split at h | omega)
theorem cmp_self (f b : Int) : cmpI f b f b = 0 := by simp [cmpI]
theorem cmp_trans {f b g c h d : Int} (h1 : cmpI f b g c = -1) (h2 : cmpI g c h d = -1) : cmpI f b h d = -1 := by
  unfold cmpI at *; repeat (first | split at h1 | split at h2 | split | omega)
theorem cmp_in {f b g c : Int} (hf : okB f b = true) (hg : okB g c = true) (h : inB f b g c = true) : cmpI f b g c ≠ -1 := by
  have k1 := (in_iff hf hg).1 h
  have k2 := ((inB_iff f b g c).1 h).2.2
  unfold cmpI; repeat (first | split | omega)
theorem rcmp_is {f b g c v : Int} (h : cmpOk f b g c = v) (w : World) :
    Calls Tryd.prog 101 #[.agg #[.int .i64 f, .int .i64 b], .agg #[.int .i64 g, .int .i64 c]] w fun e w' => e = .returned (.int .i64 v) ∧ Below w.heap.size w w' := by
  rw [← h]; exact rcmp_any f b g c w
def Lied (w : World) (e : Ending) (w' : World) : Prop := ∃ h d : Int, e = .returned (.agg #[.int .i64 h, .int .i64 d]) ∧ Below w.heap.size w w'

end Go.Proofs.YtfjfcdifnfffbaaDoor
