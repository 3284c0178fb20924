/-
  The law that the best route is the best of all, and the first of its like: the walk.
-/
import Derived.Test.YtioppkalehnoaaaGreatDoorRtVr
import Derived.Test.YtioppkalehnoaaaGreatDoorRtHw
import Derived.Test.YtioppkalehnoaaaGreatDoorRtCmp
namespace Go.Proofs.YtioppkalehnoaaaGreatDoor
open Go.RowKit
set_option linter.unusedSimpArgs false
set_option linter.unusedVariables false

theorem bestu_ex (l : List Rt) : ∀ n, 0 < n → n ≤ l.length → ∃ k, BestU l n k
  | 0, h, _ => by omega
  | 1, _, h => ⟨0, BestU.one (List.getElem?_eq_getElem (by omega))⟩
  | n + 2, _, h => by
    obtain ⟨k, hk⟩ := bestu_ex l (n + 1) (by omega) (by omega)
    obtain ⟨r, hr, _⟩ := id hk
    have hx : l[n + 1]? = some l[n + 1] := List.getElem?_eq_getElem (by omega)
    by_cases hc : rtCmp0 l[n + 1] r = -1
    · exact ⟨n + 1, hk.turn hr hx hc⟩
    · exact ⟨k, hk.stay hr hx hc⟩
theorem best_ex (l : List Rt) : ∃ z, BestIs l z := by
  by_cases h : l ≠ [] ∧ ∀ r ∈ l, rtOk r = true
  · obtain ⟨k, hk⟩ := bestu_ex l l.length (List.length_pos_iff.2 h.1) (Nat.le_refl _)
    exact ⟨k, .inl ⟨h.1, h.2, k, rfl, hk.all⟩⟩
  · refine ⟨-1, .inr ⟨?_, rfl⟩⟩
    by_cases e : l = []
    · exact .inl e
    · refine .inr ?_
      apply Classical.byContradiction
      intro hc
      exact h ⟨e, fun r hr => by
        cases c : rtOk r with
        | true => rfl
        | false => exact (hc ⟨r, hr, c⟩).elim⟩
/-- the best one of a list that has one -/
theorem best_pos {l : List Rt} {z : Int} (h : BestIs l z) (hz : ¬ z < 0) : ∃ t : Nat, z = (t : Int) ∧ IsBest l t ∧ t < l.length ∧ ∀ r ∈ l, rtOk r = true := by
  rcases h with ⟨_, h2, k, rfl, h3⟩ | ⟨_, rfl⟩
  · refine ⟨k, rfl, h3, ?_, h2⟩
    obtain ⟨r, hr, _⟩ := h3
    exact (List.getElem?_eq_some_iff.1 hr).1
  · omega

end Go.Proofs.YtioppkalehnoaaaGreatDoor
