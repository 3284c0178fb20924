/-
  FnTableForm: what is needed of lists (the walk is not written yet).
-/
import Derived.Test.YtnabcffpficgcaaDrawTabs
import Derived.Test.YtnabcffpficgcaaMathU
namespace Go.Proofs.Ytnabcffpficgcaa
open Go.RowKit
set_option linter.unusedSimpArgs false
set_option linter.unusedVariables false

theorem lt_irr {x : E} : ¬ ltE x x := fun h => by unfold ltE at h; omega
theorem lt_asym {x y : E} (h : ltE x y) : ¬ ltE y x := fun k => by unfold ltE at h k; omega
theorem bad_at {L : List E} {i j : Nat} {x y : E} (hi : L[i]? = some x) (hj : L[j]? = some y) (h : i < j) (hn : ¬ ltE x y) : tabOk L = false := by
  cases ho : tabOk L with
  | false => rfl
  | true => exact absurd (good_lt (tab_good ho).1 hi hj h) hn
theorem ok_take {T : List E} (h : tabOk T = true) (k : Nat) : tabOk (T.take k) = true :=
  (tabOk_iff _).2 ⟨take_good (tab_good h).1 k, by have := (tab_good h).2; rw [List.length_take]; omega⟩
theorem ok_nil : tabOk [] = true := (tabOk_iff _).2 ⟨⟨fun _ h => (by cases h), List.Pairwise.nil⟩, by simp⟩
theorem bad_swap {T : List E} (h : tabOk T = true) {k : Nat} {x y : E} (hx : T[k]? = some x) (hy : T[k + 1]? = some y) : tabOk ((T.set k y).set (k + 1) x) = false := by
  have h1 := (List.getElem?_eq_some_iff.1 hy).1
  refine bad_at (i := k) (j := k + 1) (x := y) (y := x) ?_ ?_ (by omega) (lt_asym (good_lt (tab_good h).1 hx hy (by omega)))
  · rw [List.getElem?_set_ne (by omega), List.getElem?_set_self (by omega)]
  · rw [List.getElem?_set_self (by rw [List.length_set]; omega)]
theorem bad_twice {T : List E} {k : Nat} {x : E} (hx : T[k]? = some x) : tabOk (T.take (k + 1) ++ T.drop k) = false := by
  have h1 := (List.getElem?_eq_some_iff.1 hx).1
  have hl : (T.take (k + 1)).length = k + 1 := by rw [List.length_take]; omega
  refine bad_at (i := k) (j := k + 1) (x := x) (y := x) ?_ ?_ (by omega) lt_irr
  · rw [List.getElem?_append_left (by omega), List.getElem?_take_of_lt (by omega)]; exact hx
  · rw [List.getElem?_append_right (by omega), hl]; simpa using hx
/-- a table's first entries, and its last ones, as slices of it -/
theorem tabA_take {w : World} {a : Option Addr} {T : List E} (h : TabA w a T) (k : Nat) : TabA w a (T.take k) := by
  rcases h with rfl | ⟨b, off, rfl, h⟩
  · exact .inl (by simp)
  · refine .inr ⟨b, off, rfl, fun i e hi => h i e ?_⟩
    rw [List.getElem?_take] at hi
    split at hi
    · exact hi
    · cases hi
theorem tabA_drop {w : World} {b off : Nat} {T : List E} (h : TabA w (some ⟨b, off, none⟩) T) (k : Nat) : TabA w (some ⟨b, off + k * 3, none⟩) (T.drop k) := by
  by_cases hT : T.drop k = []
  · exact .inl hT
  · refine .inr ⟨b, off + k * 3, rfl, fun i e hi => ?_⟩
    rw [List.getElem?_drop] at hi
    have := tabA_get h hi
    rw [show off + (k + i) * 3 = off + k * 3 + i * 3 by omega] at this
    exact this
end Go.Proofs.Ytnabcffpficgcaa
