/-
  A matrix of ints as an argument: from what the statement reads to what the walks ask.
-/
import Derived.Test.YtnljcppefnaapaaChecked
import Derived.Test.YtnljcppefnaapaaHoMem
import Derived.ProofKit
import Derived.OpenShut
import Derived.ShutString
import Derived.ChangeOld
import Derived.Below
import Derived.Lib.SmallJoins
import Derived.Deep.Slices
namespace Go.Proofs.Ytnljcppefnaapaa
open Go.ChangeShapes Go.WideShapes Go.ChangeAt Go.RowKit Go.Joins Go.Deep
set_option linter.unusedVariables false

theorem ccI1 : Try.prog.cellsOf 3 = 1 := by kernel_rfl
theorem ccS1 : Try.prog.cellsOf 33 = 1 := by kernel_rfl
section
variable {H : Type} {enc : TypeId × Value → H} {W : World} {base : Nat} {spare : Nat → Bool} {held : Bool}
/-- a cell that reads as a slice of ints -/
theorem open_intX {fuel : Nat} {c : Value} {x : DataW H × List MemPlace} (hf : DataW.trod enc Try.prog W base spare held fuel 33 [c] = some x) :
    ∃ e : IR, c = e.v ∧ IntA W e.a e.P ∧ e.P.length ≤ e.c ∧ e.P.length ≤ 9223372036854775807 := by
  rcases open_ints Try.underlying33 Try.underlying3 ccI1 hf with ⟨hcs, _⟩ | ⟨x, l, c', zs, hcs, _, hl, hm, hz, _, hcell, _⟩
  · simp at hcs
    exact ⟨⟨none, 0, []⟩, hcs, .inl rfl, Nat.le_refl _, by simp⟩
  · simp at hcs
    have hlm : l ≤ zs.length := by rw [hz]; split <;> omega
    have hlen : (zs.take l).length = l := by rw [List.length_take]; omega
    refine ⟨⟨some x, c', zs.take l⟩, by rw [hcs]; simp only [IR.v, hlen], ?_, by rw [hlen]; exact hl, by rw [hlen]; unfold maxLen at hm; omega⟩
    by_cases h0 : l = 0
    · subst h0; exact .inl (by simp)
    · obtain ⟨b, off, spot⟩ := x
      have hspot : spot = none := by simpa [Addr.add] using World.cell?_spot (hcell 0 (by omega))
      subst hspot
      refine .inr ⟨b, off, rfl, fun i e hi => ?_⟩
      rw [List.getElem?_take] at hi
      split at hi
      · obtain ⟨h1, h2⟩ := List.getElem?_eq_some_iff.1 hi
        have := hcell i h1
        rw [Addr.add_lit] at this
        rw [this, List.getD_eq_getElem?_getD, hi]
        rfl
      · cases hi
/-- a matrix that came in -/
theorem open_intSS {a : Option Addr} {len cap : Nat} {dd : DataW H} {p : List MemPlace} (h : DataW.Trod enc Try.prog W base spare held 23 (.slice a len cap) dd p) :
    ∃ L : List IR, len = L.length ∧ MatA W a L ∧ (∀ x ∈ L, x.P.length ≤ 9223372036854775807) ∧ len ≤ 9223372036854775807 := by
  obtain ⟨fuel, hf⟩ := h
  rcases open_slice Try.underlying23 hf with ⟨hcs, _⟩ | ⟨x, l, c, m, n, D, Pl, hcs, _, hl, hm, hmm, _, hx⟩
  · simp [Value.cells] at hcs
    obtain ⟨rfl, rfl, rfl⟩ := hcs
    exact ⟨[], rfl, ⟨.inl rfl, fun v hv => (by cases hv)⟩, fun x hx => (by cases hx), by omega⟩
  · simp [Value.cells] at hcs
    obtain ⟨rfl, rfl, rfl⟩ := hcs
    have hlm : len ≤ m := by rw [hmm]; split <;> omega
    obtain ⟨F, hF⟩ := choose_lt (α := IR) (n := len) (p := fun i e => W.cell? ((x.add (i * 1)).add 0) = some e.v ∧ (IntA W e.a e.P ∧ e.P.length ≤ e.c) ∧ e.P.length ≤ 9223372036854775807) (fun i hi => by
      obtain ⟨cs', h1, h2⟩ := hx i (by omega)
      rw [ccS1] at h1
      obtain ⟨hlen, _, h3⟩ := World.cells?_some h1
      match cs', hlen with
      | [c0], _ =>
        obtain ⟨e, rfl, r1, r2, r3⟩ := open_intX h2
        exact ⟨e, h3 0 (by omega), ⟨r1, r2⟩, r3⟩)
    refine ⟨(List.range len).map F, by simp, ⟨?_, fun v hv => ?_⟩, fun v hv => ?_, by unfold maxLen at hm; omega⟩
    · by_cases h0 : len = 0
      · subst h0; exact .inl rfl
      · obtain ⟨b, off, spot⟩ := x
        have hspot : spot = none := by simpa [Addr.add] using World.cell?_spot (hF 0 (by omega)).1
        subst hspot
        refine .inr ⟨b, off, rfl, fun i e hi => ?_⟩
        have hi' : i < len := by
          have := (List.getElem?_eq_some_iff.1 hi).1; simpa using this
        obtain rfl : F i = e := by simpa [hi'] using hi
        have q0 := (hF i hi').1
        simp only [add_plain, Nat.mul_one, Nat.add_zero] at q0
        exact q0
    · obtain ⟨i, hi, rfl⟩ := List.mem_map.1 hv
      exact (hF i (by simpa using hi)).2.1
    · obtain ⟨i, hi, rfl⟩ := List.mem_map.1 hv
      exact (hF i (by simpa using hi)).2.2
end
end Go.Proofs.Ytnljcppefnaapaa
