/-
  Which of two routes is better: the program's answer.
-/
import Derived.Test.YtnnmgbgkgnejlaaDoorRtMem
namespace Go.Proofs.YtnnmgbgkgnejlaaDoor
open Go.RowKit
set_option linter.unusedSimpArgs false
set_option linter.unusedVariables false

theorem cmpG_at {L M : List Int} {k : Nat} {x y : Int} (hx : L[k]? = some x) (hy : M[k]? = some y) : cmpG (L.drop k) (M.drop k) = if x < y then -1 else if y < x then 1 else cmpG (L.drop (k + 1)) (M.drop (k + 1)) := by
  obtain ⟨h1, e1⟩ := List.getElem?_eq_some_iff.1 hx
  obtain ⟨h2, e2⟩ := List.getElem?_eq_some_iff.1 hy
  rw [List.drop_eq_getElem_cons h1, List.drop_eq_getElem_cons h2, e1, e2]
  rfl
theorem cmpG_past {L M : List Int} {k : Nat} (h1 : k < L.length) (h2 : M.length ≤ k) : cmpG (L.drop k) (M.drop k) = 1 := by
  rw [List.drop_eq_getElem_cons h1, List.drop_eq_nil_of_le h2]; rfl
theorem cmpG_short {L M : List Int} (h : L.length < M.length) : cmpG (L.drop L.length) (M.drop L.length) = -1 := by
  rw [List.drop_length, List.drop_eq_getElem_cons h]; rfl
theorem cmpG_end {L M : List Int} (h : ¬ L.length < M.length) : cmpG (L.drop L.length) (M.drop L.length) = 0 := by
  rw [List.drop_length, List.drop_eq_nil_of_le (by omega)]; rfl

theorem firstNZ_at {L : List Int} {k : Nat} {x : Int} (h : L[k]? = some x) : firstNZ (L.drop k) = if x ≠ 0 then x else firstNZ (L.drop (k + 1)) := by
  obtain ⟨h1, e1⟩ := List.getElem?_eq_some_iff.1 h
  rw [List.drop_eq_getElem_cons h1, e1]; rfl
theorem five_intA (W : World) (x0 x1 x2 x3 x4 : Int) : IntA (W.alloc (.cells #[.int .i64 x0, .int .i64 x1, .int .i64 x2, .int .i64 x3, .int .i64 x4] 3)) (some ⟨W.heap.size, 0, none⟩) [x0, x1, x2, x3, x4] := by
  refine .inr ⟨_, _, rfl, fun i x h => ?_⟩
  match i, h with
  | 0, h => simp at h; subst h; simp
  | 1, h => simp at h; subst h; simp
  | 2, h => simp at h; subst h; simp
  | 3, h => simp at h; subst h; simp
  | 4, h => simp at h; subst h; simp
  | i + 5, h => simp at h
end Go.Proofs.YtnnmgbgkgnejlaaDoor
