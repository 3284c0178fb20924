/-
  The exact laws of RouteOk and RouteCmp: the walks.
-/
import Derived.Test.YtioppkalehnoaaaGreatDoorRtTo
import Derived.Test.YtioppkalehnoaaaGreatDoorRtIk
namespace Go.Proofs.YtioppkalehnoaaaGreatDoor
open Go.RowKit
set_option linter.unusedSimpArgs false
set_option linter.unusedVariables false

theorem rtMark_len (r : Rt) (m : Int) : (rtMark r m).1.2.2.1.length ≤ 5 ∧ (rtMark r m).1.2.2.2.2.length ≤ 10 := by
  unfold rtMark
  split
  · rename_i h
    have hG := (rtOk_iff r).1 (by simp at h; exact h.1)
    exact ⟨hG.path.len, by have := hG.marks.len; have := mins_len r.2.2.2.2 m; dsimp only; omega⟩
  · simp [zRt]
theorem rtClear_len (r : Rt) (m : Int) : (rtClear r m).1.2.2.1.length ≤ 5 ∧ (rtClear r m).1.2.2.2.2.length ≤ 10 := by
  unfold rtClear
  split
  · rename_i h
    have hG := (rtOk_iff r).1 (by simp at h; exact h.1)
    exact ⟨hG.path.len, by have := hG.marks.len; have := mdel_len r.2.2.2.2 m; dsimp only; omega⟩
  · simp [zRt]
theorem OwnI_mark {w : World} {R s n : Nat} {a : Option Addr} {c : Nat} (h : OwnI w R (.slice a n c) (pmarkG s n)) : IntA w a (pmarkG s n) := (OwnI.intA h).2.2

end Go.Proofs.YtioppkalehnoaaaGreatDoor
