/-
  What the model's functions on tables answer.
-/
import Derived.Test.YtnabcffpficgcaaSpecF
import Derived.Laws.AppendOwnNone
namespace Go.Proofs.Ytnabcffpficgcaa
open Go.RowKit
set_option linter.unusedSimpArgs false

theorem stok_is {a : Option Addr} {cap : Nat} {T : List E} {x : Bool} (h : tabOk T = x) (w : World) (hT : TabA w a T) (hl : T.length ≤ 2000000) :
    Calls Try.prog 6 #[.slice a T.length cap] w fun e w' => e = .returned (.bool x) ∧ Below w.heap.size w w' := by
  rw [← h]; exact stok_any a cap T w hT hl

/-- the cells of a slice of entries, one by one -/
theorem TabA.cells {w : World} {b off : Nat} {T : List E} (h : TabA w (some ⟨b, off, none⟩) T) (j : Nat) (u : Value) (hj : (cellsT T)[j]? = some u) : w.cell? ((⟨b, off, none⟩ : Addr).add j) = some u := by
  have hadd : (⟨b, off, none⟩ : Addr).add j = ⟨b, off + j, none⟩ := by unfold Addr.add; split <;> simp_all
  rw [hadd]
  have hlen : j < (cellsT T).length := (List.getElem?_eq_some_iff.1 hj).1
  rw [cellsT_len] at hlen
  obtain ⟨i, r, hij, hr, hi⟩ : ∃ i r, j = i * 3 + r ∧ r < 3 ∧ i < T.length := ⟨j / 3, j % 3, by omega, by omega, by omega⟩
  obtain ⟨x, e⟩ : ∃ x, T[i]? = some x := ⟨_, List.getElem?_eq_getElem hi⟩
  obtain ⟨k1, k2, k3⟩ := cellsT_at e
  subst hij
  rcases h with rfl | ⟨b', off', e', h⟩
  · simp at hi
  · obtain ⟨rfl, rfl⟩ : b = b' ∧ off = off' := by simpa using e'
    obtain ⟨d1, d2, d3⟩ := h _ _ e
    have hr3 : r = 0 ∨ r = 1 ∨ r = 2 := by omega
    rcases hr3 with rfl | rfl | rfl
    · simp only [Nat.add_zero] at hj ⊢; rw [k1] at hj; rw [← hj]; exact d1
    · rw [k2] at hj; rw [← hj, ← Nat.add_assoc]; exact d2
    · rw [k3] at hj; rw [← hj, ← Nat.add_assoc]; exact d3

end Go.Proofs.Ytnabcffpficgcaa
