/-
  Halves of halves: the walk of the law.
-/
import Derived.Test.YtnnmgbgkgnejlaaLawJ
import Derived.Test.YtnnmgbgkgnejlaaLawC0
namespace Go.Proofs.Ytnnmgbgkgnejlaa
open Go.RowKit
set_option linter.unusedSimpArgs false

theorem sz_half {b : Int} (b0 : 0 ≤ b) (h : b < 8) : sz b = 2 * sz (b + 1) := by
  rcases sz_cases b0 (by omega) with h1 | h1 | h1 | h1 | h1 | h1 | h1 | h1 | h1 <;> obtain ⟨rfl, e⟩ := h1 <;> first | omega | (rw [e]; simp [sz])
/-- a half is a range, in the whole -/
theorem half_ok {f b : Int} (u : Bool) (h : halfB f b = true) : okB (halfF f b u) (b + 1) = true := by
  obtain ⟨ho, hlt⟩ := (halfB_iff f b).1 h
  obtain ⟨b0, b8, f0, f1, hm⟩ := (okB_iff f b).1 ho
  have e := sz_half b0 hlt
  have s := sz_bd (b := b + 1) (by omega) (by omega)
  refine okB_of (by omega) (by omega) ?_ ?_ ?_
  · unfold halfF; split <;> omega
  · unfold halfF
    rcases sz_cases b0 b8 with h1 | h1 | h1 | h1 | h1 | h1 | h1 | h1 | h1 <;> obtain ⟨rfl, e1⟩ := h1 <;> rw [e1] at hm e <;> split <;> omega
  · unfold halfF
    rcases sz_cases (b := b + 1) (by omega) (by omega) with h1 | h1 | h1 | h1 | h1 | h1 | h1 | h1 | h1 <;> obtain ⟨e0, e1⟩ := h1 <;> rw [e1] at e ⊢ <;> rw [e] at hm <;> split <;> omega
theorem half_in {f b : Int} (u : Bool) (h : halfB f b = true) : inB (halfF f b u) (b + 1) f b = true := by
  obtain ⟨ho, hlt⟩ := (halfB_iff f b).1 h
  obtain ⟨b0, b8, f0, f1, hm⟩ := (okB_iff f b).1 ho
  have e := sz_half b0 hlt
  have s := sz_bd (b := b + 1) (by omega) (by omega)
  refine (in_iff (half_ok u h) ho).2 ?_
  unfold halfF; split <;> omega
/-- the two halves share nothing -/
theorem half_apart {f b : Int} (h : halfB f b = true) : inB (halfF f b false) (b + 1) (halfF f b true) (b + 1) = false := by
  obtain ⟨ho, hlt⟩ := (halfB_iff f b).1 h
  obtain ⟨b0, b8, f0, f1, hm⟩ := (okB_iff f b).1 ho
  have s := sz_bd (b := b + 1) (by omega) (by omega)
  by_cases k : inB (halfF f b false) (b + 1) (halfF f b true) (b + 1) = true
  · have := (in_iff (half_ok false h) (half_ok true h)).1 k
    simp [halfF] at this
    omega
  · simpa using k
theorem half_b (f b : Int) (u v : Bool) (h : halfB f b = true) : halfB (halfF f b u) (b + 1) = halfB (halfF f b v) (b + 1) := by
  simp [halfB, half_ok u h, half_ok v h]

end Go.Proofs.Ytnnmgbgkgnejlaa
