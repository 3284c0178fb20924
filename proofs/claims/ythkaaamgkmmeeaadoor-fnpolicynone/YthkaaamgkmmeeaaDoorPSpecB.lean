/-
  What the model's functions on paths answer: has, add, which stands ahead.
-/
import Derived.Test.YthkaaamgkmmeeaaDoorPSpec
namespace Go.Proofs.YthkaaamgkmmeeaaDoor
open Go.RowKit
set_option linter.unusedSimpArgs false
set_option linter.unusedVariables false

/-- what PathAdd answers -/
def padd (L : List Int) (h : Int) : List Int × Bool := if pOk (h :: L) = true then (h :: L, true) else ([], false)
theorem padd_yes {L : List Int} {h : Int} (k : Path (h :: L)) : padd L h = (h :: L, true) := by simp [padd, pOk_yes k]
theorem padd_no {L : List Int} {h : Int} (k : ¬ Path (h :: L)) : padd L h = ([], false) := by simp [padd, pOk_no k]
def OwnA (w : World) (r : List Int × Bool) (e : Ending) (w' : World) : Prop := ∃ v, e = .returned (.tuple #[v, .bool r.2]) ∧ OwnI w' w.heap.size v r.1 ∧ Below w.heap.size w w'

theorem cmpL_step {L M : List Int} {k : Nat} {x y : Int} (hx : L[k]? = some x) (hy : M[k]? = some y) (h : x = y) : cmpL (L.drop k) (M.drop k) = cmpL (L.drop (k + 1)) (M.drop (k + 1)) := by
  obtain ⟨h1, e1⟩ := List.getElem?_eq_some_iff.1 hx
  obtain ⟨h2, e2⟩ := List.getElem?_eq_some_iff.1 hy
  rw [List.drop_eq_getElem_cons h1, List.drop_eq_getElem_cons h2, e1, e2, h]
  simp [cmpL]
theorem cmpL_here {L M : List Int} {k : Nat} {x y : Int} (hx : L[k]? = some x) (hy : M[k]? = some y) : cmpL (L.drop k) (M.drop k) = if x < y then -1 else if y < x then 1 else cmpL (L.drop (k + 1)) (M.drop (k + 1)) := by
  obtain ⟨h1, e1⟩ := List.getElem?_eq_some_iff.1 hx
  obtain ⟨h2, e2⟩ := List.getElem?_eq_some_iff.1 hy
  rw [List.drop_eq_getElem_cons h1, List.drop_eq_getElem_cons h2, e1, e2]
  simp [cmpL]

end Go.Proofs.YthkaaamgkmmeeaaDoor
