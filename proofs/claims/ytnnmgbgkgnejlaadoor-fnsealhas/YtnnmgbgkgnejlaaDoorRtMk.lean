/-
  Marks put and cleared, by the document's model.
-/
import Derived.Test.YtnnmgbgkgnejlaaDoorRtOwn
import Derived.Test.YtnnmgbgkgnejlaaDoorJ2
namespace Go.Proofs.YtnnmgbgkgnejlaaDoor
open Go.RowKit
set_option linter.unusedSimpArgs false
set_option linter.unusedVariables false

theorem mins_snoc {T : List Int} {m x : Int} (h : m < x) : mins (T ++ [x]) m = mins T m ++ [x] := by
  unfold mins
  rw [List.filter_append, List.filter_append, List.filter_cons_of_neg (by simp; omega), List.filter_cons_of_pos (by simpa using h)]
  simp
theorem mins_end {T : List Int} {m : Int} (h : ∀ y ∈ T, y < m) : mins T m = T ++ [m] := by
  unfold mins
  rw [filter_full (fun y hy => by simpa using h y hy), filter_none (fun y hy => by have := h y hy; simp; omega)]
theorem mins_self {T : List Int} {m : Int} (h : ∀ y ∈ T, y < m) : mins (T ++ [m]) m = T ++ [m] := by
  unfold mins
  rw [List.filter_append, List.filter_append, filter_full (fun y hy => by simpa using h y hy), filter_none (M := T) (fun y hy => by have := h y hy; simp; omega)]
  simp
/-- what has been put out, of the first marks -/
def MkI (T : List Int) (m : Int) (put : Bool) (U : List Int) : Prop := (put = false ∧ U = T ∧ ∀ y ∈ T, y < m) ∨ (put = true ∧ U = mins T m ∧ ∃ y ∈ T, m ≤ y)
theorem mins_len (T : List Int) (m : Int) : (mins T m).length ≤ T.length + 1 := by
  have h : ∀ T : List Int, (T.filter (fun x => decide (x < m))).length + (T.filter (fun x => decide (m < x))).length ≤ T.length := by
    intro T
    induction T with
    | nil => simp
    | cons a l ih =>
      by_cases h1 : a < m
      · rw [List.filter_cons_of_pos (by simpa using h1), List.filter_cons_of_neg (by simp; omega)]; simp only [List.length_cons]; omega
      · by_cases h2 : m < a
        · rw [List.filter_cons_of_neg (by simpa using h1), List.filter_cons_of_pos (by simpa using h2)]; simp only [List.length_cons]; omega
        · rw [List.filter_cons_of_neg (by simpa using h1), List.filter_cons_of_neg (by simpa using h2)]; simp only [List.length_cons]; omega
  have := h T
  unfold mins
  simp only [List.length_append, List.length_cons]; omega
theorem MkI.len {T : List Int} {m : Int} {put : Bool} {U : List Int} (h : MkI T m put U) : U.length ≤ T.length + 1 := by
  rcases h with ⟨_, rfl, _⟩ | ⟨_, rfl, _⟩
  · omega
  · exact mins_len T m
theorem take_snoc {L : List Int} {k : Nat} {x : Int} (h : L[k]? = some x) : L.take (k + 1) = L.take k ++ [x] := by rw [List.take_add_one, h]; rfl
theorem asc_at {L : List Int} {k : Nat} {x y : Int} (hp : L.Pairwise (· < ·)) (hx : L[k]? = some x) (hy : y ∈ L.take k) : y < x := by
  rw [← List.take_append_drop k L] at hp
  have := (List.pairwise_append.1 hp).2.2 y hy x
  obtain ⟨h1, e1⟩ := List.getElem?_eq_some_iff.1 hx
  exact this (by rw [List.drop_eq_getElem_cons h1, e1]; simp)
theorem MkI.lt {L : List Int} {k : Nat} {m x : Int} {U : List Int} (h : MkI (L.take k) m false U) (hx : L[k]? = some x) (hlt : x < m) : MkI (L.take (k + 1)) m false (U ++ [x]) := by
  rcases h with ⟨_, rfl, h⟩ | ⟨h, _⟩
  · rw [take_snoc hx]
    refine .inl ⟨rfl, rfl, fun y hy => ?_⟩
    rcases List.mem_append.1 hy with q | q
    · exact h y q
    · simp at q; omega
  · cases h
theorem MkI.eq {L : List Int} {k : Nat} {m x : Int} {U : List Int} (h : MkI (L.take k) m false U) (hx : L[k]? = some x) (he : x = m) : MkI (L.take (k + 1)) m true (U ++ [m]) := by
  subst he
  rcases h with ⟨_, rfl, h⟩ | ⟨h, _⟩
  · rw [take_snoc hx]
    exact .inr ⟨rfl, (mins_self h).symm, x, by simp, by omega⟩
  · cases h
theorem MkI.gt {L : List Int} {k : Nat} {m x : Int} {U : List Int} (h : MkI (L.take k) m false U) (hx : L[k]? = some x) (he : m < x) : MkI (L.take (k + 1)) m true ((U ++ [m]) ++ [x]) := by
  rcases h with ⟨_, rfl, h⟩ | ⟨h, _⟩
  · rw [take_snoc hx]
    exact .inr ⟨rfl, by rw [mins_snoc he, mins_end h], x, by simp, by omega⟩
  · cases h
theorem MkI.past {L : List Int} {k : Nat} {m x : Int} {U : List Int} (hp : L.Pairwise (· < ·)) (h : MkI (L.take k) m true U) (hx : L[k]? = some x) : m < x ∧ MkI (L.take (k + 1)) m true (U ++ [x]) := by
  rcases h with ⟨h, _⟩ | ⟨_, rfl, y, hy, hm⟩
  · cases h
  · have hlt : m < x := by have := asc_at hp hx hy; omega
    refine ⟨hlt, .inr ⟨rfl, ?_, y, ?_, hm⟩⟩
    · rw [take_snoc hx, mins_snoc hlt]
    · rw [take_snoc hx]; simp [hy]
theorem MkI.fin {L : List Int} {m : Int} {put : Bool} {U : List Int} (h : MkI L m put U) : (put = true ∧ U = mins L m) ∨ (put = false ∧ U ++ [m] = mins L m) := by
  rcases h with ⟨h, rfl, h2⟩ | ⟨h, rfl, _⟩
  · exact .inr ⟨h, (mins_end h2).symm⟩
  · exact .inl ⟨h, rfl⟩
/-- a slice of ints of the call's own comes back -/
def OwnL (w : World) (U : List Int) (e : Ending) (w' : World) : Prop := ∃ v, e = .returned v ∧ OwnI w' w.heap.size v U ∧ Below w.heap.size w w'
/-- an own slice, seen from before -/
def LvI (w : World) (U : List Int) (v : Value) (W : World) : Prop := OwnI W w.heap.size v U ∧ Below w.heap.size w W
theorem LvI.app {w W W' : World} {U : List Int} {v v' : Value} {x : Int} (h : LvI w U v W) (own : OwnI W' w.heap.size v' (U ++ [x])) (grow : (W.alloc (.cells #[.int .i64 x] 3)).grownBy W' v.ownBlock) : LvI w (U ++ [x]) v' W' :=
  ⟨own, (h.2.alloc h.2.size _).grown grow (by have := h.2.size; simp; omega) (OwnI.lt' h.1)⟩

theorem mdel_snoc_yes {T : List Int} {m x : Int} (h : x ≠ m) : mdel (T ++ [x]) m = mdel T m ++ [x] := by
  unfold mdel; rw [List.filter_append, List.filter_cons_of_pos (by simpa using h)]; rfl
theorem mdel_snoc_no {T : List Int} {m x : Int} (h : x = m) : mdel (T ++ [x]) m = mdel T m := by
  unfold mdel; rw [List.filter_append, List.filter_cons_of_neg (by simpa using h)]; simp
theorem mdel_len (T : List Int) (m : Int) : (mdel T m).length ≤ T.length := List.length_filter_le _ _

end Go.Proofs.YtnnmgbgkgnejlaaDoor
