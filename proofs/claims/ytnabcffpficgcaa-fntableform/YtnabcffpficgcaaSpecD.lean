/-
  What the model's l2Drop and l2Find answer.
-/
import Derived.Test.YtnabcffpficgcaaSpecP
namespace Go.Proofs.Ytnabcffpficgcaa
open Go.RowKit
set_option linter.unusedSimpArgs false

theorem neqR (g c f b : Int) (w : World) : (binOp .neq 27 (.agg #[.int .i64 g, .int .i64 c]) (.agg #[.int .i64 f, .int .i64 b])).run Try.prog w = .ok (.bool (!(decide (g = f ∧ c = b)))) w := by
  by_cases h1 : g = f
  · subst h1
    by_cases h2 : c = b
    · subst h2
      go_simp
    · go_simp
  · go_simp
theorem eqlR (g c f b : Int) (w : World) : (binOp .eql 27 (.agg #[.int .i64 g, .int .i64 c]) (.agg #[.int .i64 f, .int .i64 b])).run Try.prog w = .ok (.bool (decide (g = f ∧ c = b))) w := by
  by_cases h1 : g = f
  · subst h1
    by_cases h2 : c = b
    · subst h2
      go_simp
    · go_simp
  · go_simp
theorem eqlE (x y : E) (w : World) : (binOp .eql 29 (.agg #[.int .i64 x.1, .int .i64 x.2.1, .int .i64 x.2.2]) (.agg #[.int .i64 y.1, .int .i64 y.2.1, .int .i64 y.2.2])).run Try.prog w = .ok (.bool (decide (x = y))) w := by
  obtain ⟨a, b, c⟩ := x
  obtain ⟨d, e, f⟩ := y
  by_cases h1 : a = d
  · subst h1
    by_cases h2 : b = e
    · subst h2
      by_cases h3 : c = f
      · subst h3
        go_simp
      · go_simp
    · go_simp
  · go_simp
theorem neqE (x y : E) (w : World) : (binOp .neq 29 (.agg #[.int .i64 x.1, .int .i64 x.2.1, .int .i64 x.2.2]) (.agg #[.int .i64 y.1, .int .i64 y.2.1, .int .i64 y.2.2])).run Try.prog w = .ok (.bool (!(decide (x = y)))) w := by
  obtain ⟨a, b, c⟩ := x
  obtain ⟨d, e, f⟩ := y
  by_cases h1 : a = d
  · subst h1
    by_cases h2 : b = e
    · subst h2
      by_cases h3 : c = f
      · subst h3
        go_simp
      · go_simp
    · go_simp
  · go_simp

def keepD (f b : Int) (a : E) : Bool := !(decide (a.1 = f ∧ a.2.1 = b))
def DS (T : List E) (f b : Int) (k : Nat) : List E := (T.take k).filter (keepD f b)
theorem DS_end (T : List E) (f b : Int) : dropM T f b = DS T f b T.length := by unfold DS dropM; rw [List.take_length]; rfl
theorem DS_keep {T : List E} {f b : Int} {k : Nat} {a : E} (h : T[k]? = some a) (hn : ¬ (a.1 = f ∧ a.2.1 = b)) : DS T f b (k + 1) = DS T f b k ++ [a] := by
  unfold DS; rw [List.take_add_one, h]; simp only [Option.toList_some, List.filter_append]
  congr 1
  simp [keepD, hn]
theorem DS_drop {T : List E} {f b : Int} {k : Nat} {a : E} (h : T[k]? = some a) (hn : a.1 = f ∧ a.2.1 = b) : DS T f b (k + 1) = DS T f b k := by
  unfold DS; rw [List.take_add_one, h]; simp only [Option.toList_some, List.filter_append]
  simp [keepD, hn]
theorem DS_len (T : List E) (f b : Int) (k : Nat) : (DS T f b k).length ≤ k := by
  unfold DS; exact Nat.le_trans (List.length_filter_le _ _) (by simp; omega)

end Go.Proofs.Ytnabcffpficgcaa
