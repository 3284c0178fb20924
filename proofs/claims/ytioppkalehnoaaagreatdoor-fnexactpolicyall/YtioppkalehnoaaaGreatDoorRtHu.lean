/-
  The library's heap over routes: Push, Pop, as a whole.
-/
import Derived.Test.YtioppkalehnoaaaGreatDoorRtHt
namespace Go.Proofs.YtioppkalehnoaaaGreatDoor
open Go.RowKit
set_option linter.unusedSimpArgs false
set_option linter.unusedVariables false

theorem upi_new {l : List Rt} {K : List Nat} (h : K = [] ∨ TopIs l K) (p : Nat) : ∃ r, UpI l (K ++ [p]) K.length p r := by
  have e1 : (K ++ [p])[K.length]? = some p := by rw [List.getElem?_append_right (Nat.le_refl _)]; simp
  rcases h with rfl | ⟨t, h1, h2⟩
  · refine ⟨0, e1, fun _ k y hy => ?_, fun h => (h rfl).elim⟩
    match k, hy with
    | 0, hy => simp at hy; subst hy; exact hless_irr l _
    | k + 1, hy => simp at hy
  · have hlt : 0 < K.length := (List.getElem?_eq_some_iff.1 h1).1
    refine ⟨t, e1, fun h => by omega, fun _ => ⟨by rw [List.getElem?_append_left hlt]; exact h1, fun k y hy hk => ?_⟩⟩
    have hkl : k < (K ++ [p]).length := (List.getElem?_eq_some_iff.1 hy).1
    rw [List.length_append, List.length_singleton] at hkl
    rw [List.getElem?_append_left (by omega)] at hy
    exact h2 k y hy

end Go.Proofs.YtioppkalehnoaaaGreatDoor
