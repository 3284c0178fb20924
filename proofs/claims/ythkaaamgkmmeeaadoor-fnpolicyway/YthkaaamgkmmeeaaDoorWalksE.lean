/-
  Which of two ranges stands ahead; whether two are the same; the laws 'the program answers as the model does' of chapter 1 (but for halves).
-/
import Derived.Test.YthkaaamgkmmeeaaDoorWalksD
namespace Go.Proofs.YthkaaamgkmmeeaaDoor
open Go.RowKit
set_option linter.unusedSimpArgs false

/-- -1, 0, 1 -/
def cmp2 (x y : Int) : Int := if x < y then -1 else if y < x then 1 else 0

set_option maxHeartbeats 400000 in
theorem nan_any (x : Int) (w : World) :
    Calls Tryd.prog 103 #[.int .i64 x] w fun e w' => e = .returned (.bool false) ∧ w = w' := by
  have hx : (x != x) = false := by simp
  go_enter Tryd.func103, Tryd.ntmps103
  go_wp2
  go_ret
  exact ⟨by simp, rfl⟩

theorem cmpOk_no1 {f b g c : Int} (h : okB f b = false) : cmpOk f b g c = 0 := by simp [cmpOk, h]
theorem cmpOk_no2 {f b g c : Int} (h : okB g c = false) : cmpOk f b g c = 0 := by simp [cmpOk, h]
theorem cmpOk_yes {f b g c : Int} (h : okB f b = true) (k : okB g c = true) : cmpOk f b g c = cmpI f b g c := by simp [cmpOk, h, k]
theorem cmpI_ne {f b g c : Int} (h : f ≠ g) : cmpI f b g c = cmp2 f g := by
  unfold cmpI cmp2
  by_cases h1 : f < g
  · simp [h1]
  · have h2 : g < f := by omega
    simp [h1, h2]
theorem cmpI_eq {f b g c : Int} (h : f = g) : cmpI f b g c = cmp2 b c := by
  subst h; simp [cmpI, cmp2]

end Go.Proofs.YthkaaamgkmmeeaaDoor
