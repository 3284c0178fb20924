/-
  The laws of a range's size and form: their walks.
-/
import Derived.Test.YtnnmgbgkgnejlaaDrawS
import Derived.Test.YtnnmgbgkgnejlaaWalksF
namespace Go.Proofs.Ytnnmgbgkgnejlaa
open Go.RowKit
set_option linter.unusedSimpArgs false

/-- how many of the first k addresses a range has -/
def cnt (f b : Int) (k : Nat) : Int := if (k : Int) ≤ f then 0 else if (k : Int) - f ≤ sz b then (k : Int) - f else sz b
theorem cnt_zero {f b : Int} (h : okB f b = true) : cnt f b 0 = 0 := by
  obtain ⟨b0, b8, f0, f1, _⟩ := (okB_iff f b).1 h
  simp [cnt, f0]
theorem cnt_bd {f b : Int} (h : okB f b = true) (k : Nat) : 0 ≤ cnt f b k ∧ cnt f b k ≤ 256 := by
  obtain ⟨b0, b8, f0, f1, _⟩ := (okB_iff f b).1 h
  have := sz_bd b0 b8
  unfold cnt; split
  · omega
  · split <;> omega
theorem cnt_yes {f b : Int} {k : Nat} (h : hasB f b k = true) : cnt f b (k + 1) = cnt f b k + 1 := by
  obtain ⟨h1, h2, h3⟩ := (hasB_iff f b k).1 h
  unfold cnt
  by_cases e : (k : Int) = f
  · rw [if_neg (by omega), if_pos (by omega), if_pos (by omega)]; omega
  · rw [if_neg (by omega), if_pos (by omega), if_neg (by omega), if_pos (by omega)]; omega
theorem cnt_no {f b : Int} {k : Nat} (ho : okB f b = true) (h : hasB f b k = false) : cnt f b (k + 1) = cnt f b k := by
  obtain ⟨b0, b8, f0, f1, _⟩ := (okB_iff f b).1 ho
  have s := sz_bd b0 b8
  have h' : ¬ (okB f b = true ∧ f ≤ k ∧ (k : Int) - f < sz b) := by rw [← hasB_iff, h]; simp
  simp only [ho, true_and] at h'
  unfold cnt
  by_cases e : (k : Int) < f
  · rw [if_pos (by omega), if_pos (by omega)]
  · rw [if_neg (by omega), if_neg (by omega)]
    by_cases e2 : (k : Int) ≤ f
    · omega
    · rw [if_neg e2]
      by_cases e3 : (k : Int) - f ≤ sz b
      · rw [if_pos e3]; omega
      · rw [if_neg e3]
theorem cnt_all {f b : Int} (ho : okB f b = true) : cnt f b 256 = sz b := by
  obtain ⟨b0, b8, f0, f1, hm⟩ := (okB_iff f b).1 ho
  have hf : f + sz b ≤ 256 := by
    rcases sz_cases b0 b8 with h | h | h | h | h | h | h | h | h <;> obtain ⟨_, e⟩ := h <;> rw [e] at hm ⊢ <;> omega
  have s := sz_bd b0 b8
  unfold cnt
  rw [if_neg (by omega)]
  by_cases e3 : ((256 : Nat) : Int) - f ≤ sz b
  · rw [if_pos e3]; omega
  · rw [if_neg e3]

end Go.Proofs.Ytnnmgbgkgnejlaa
