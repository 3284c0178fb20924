/-
  What the model's l2Find and l2Same answer.
-/
import Derived.Test.YtnabcffpficgcaaSpecD
namespace Go.Proofs.Ytnabcffpficgcaa
open Go.RowKit
set_option linter.unusedSimpArgs false

/-- the place of the best entry so far -/
def BI (T : List E) (a : Int) (k : Nat) (j : Int) : Prop :=
  (bestM (T.take k) a = none ∧ j = -1) ∨ ∃ (m : Nat) (e : E), m < k ∧ j = m ∧ T[m]? = some e ∧ bestM (T.take k) a = some e
theorem best_succ {T : List E} {a : Int} {k : Nat} {e : E} (h : T[k]? = some e) : bestM (T.take (k + 1)) a = bestStep a (bestM (T.take k) a) e := by
  unfold bestM; rw [List.take_add_one, h]; simp
theorem BI.zero (T : List E) (a : Int) : BI T a 0 (-1) := .inl ⟨by simp [bestM], rfl⟩
theorem BI.stay {T : List E} {a j : Int} {k : Nat} {e : E} (h : BI T a k j) (he : T[k]? = some e) (hs : bestStep a (bestM (T.take k) a) e = bestM (T.take k) a) : BI T a (k + 1) j := by
  rcases h with ⟨h1, h2⟩ | ⟨m, x, h1, h2, h3, h4⟩
  · exact .inl ⟨by rw [best_succ he, hs, h1], h2⟩
  · exact .inr ⟨m, x, by omega, h2, h3, by rw [best_succ he, hs, h4]⟩
theorem BI.take {T : List E} {a : Int} {k : Nat} {e : E} (he : T[k]? = some e) (hs : bestStep a (bestM (T.take k) a) e = some e) : BI T a (k + 1) k :=
  .inr ⟨k, e, by omega, rfl, he, by rw [best_succ he, hs]⟩
theorem step_no {a : Int} {o : Option E} {e : E} (h : hasE e a = false) : bestStep a o e = o := by simp [bestStep, h]
theorem step_first {a : Int} {e : E} (h : hasE e a = true) : bestStep a none e = some e := by simp [bestStep, h, longer]
theorem step_longer {a : Int} {x e : E} (h : hasE e a = true) (hl : x.2.1 < e.2.1) : bestStep a (some x) e = some e := by simp [bestStep, h, longer, hl]
theorem step_not {a : Int} {x e : E} (hl : ¬ x.2.1 < e.2.1) : bestStep a (some x) e = some x := by simp [bestStep, longer, hl]

end Go.Proofs.Ytnabcffpficgcaa
