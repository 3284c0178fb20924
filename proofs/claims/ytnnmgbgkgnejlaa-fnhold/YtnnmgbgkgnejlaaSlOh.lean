/-
  Holdings as arguments: from what the statement reads to what the walks ask.
-/
import Derived.Test.YtnnmgbgkgnejlaaChecked
import Derived.Test.YtnnmgbgkgnejlaaSlMem
import Derived.ProofKit
import Derived.OpenShut
import Derived.ShutString
import Derived.ChangeOld
import Derived.Below
import Derived.Lib.SmallJoins
import Derived.Deep.Slices
namespace Go.Proofs.Ytnnmgbgkgnejlaa
open Go.ChangeShapes Go.WideShapes Go.ChangeAt Go.RowKit Go.Joins Go.Deep
set_option linter.unusedSimpArgs false
set_option linter.unusedVariables false

theorem cellsLHo : Try.prog.cellsOf 58 = 3 := by kernel_rfl
theorem hcInt : Try.prog.cellsOf 3 = 1 := by kernel_rfl
theorem hcRg : Try.prog.cellsOf 37 = 2 := by kernel_rfl
instance : Inhabited HV := ⟨⟨0, 0, 0⟩⟩
section
variable {H : Type} {enc : TypeId × Value → H} {W : World} {base : Nat} {spare : Nat → Bool} {held : Bool}
set_option maxRecDepth 100000 in
theorem ho_cells {fuel : Nat} {cs : List Value} {x : DataW H × List MemPlace} (h : DataW.trod enc Try.prog W base spare held fuel 58 cs = some x) : ∃ v : HV, cs = v.cells := by
  obtain ⟨y0, y1, n, _, hl, h0, h1⟩ := trod_struct2 Try.underlying58 h
  rw [cellsLHo] at hl
  match cs, hl with
  | [c0, c1, c2], _ =>
    simp only [hcRg, hcInt, List.drop_zero, List.take_succ_cons, List.take_zero, List.drop_succ_cons] at h0 h1
    obtain ⟨z0, z1, m, _, _, k0, k1⟩ := trod_struct2 Try.underlying37 h1
    simp only [hcInt, List.drop_zero, List.take_succ_cons, List.take_zero, List.drop_succ_cons] at k0 k1
    obtain ⟨y, e0, _, _⟩ := DataW.trod_int Try.underlying3 h0
    obtain ⟨f, e2, _, _⟩ := DataW.trod_int Try.underlying3 k0
    obtain ⟨b, e3, _, _⟩ := DataW.trod_int Try.underlying3 k1
    simp at e0 e2 e3
    exact ⟨⟨y, f, b⟩, by rw [e0, e2, e3]; rfl⟩
set_option maxRecDepth 100000 in
/-- a slice of holdings that came in -/
theorem open_hvS {a : Option Addr} {len cap : Nat} {dd : DataW H} {p : List MemPlace} (h : DataW.Trod enc Try.prog W base spare held 36 (.slice a len cap) dd p) :
    ∃ L : List HV, len = L.length ∧ HvA W a L ∧ len ≤ 9223372036854775807 := by
  obtain ⟨fuel, hf⟩ := h
  rcases open_slice Try.underlying36 hf with ⟨hcs, _⟩ | ⟨x, l, c, m, n, D, Pl, hcs, _, hl, hm, hmm, _, hx⟩
  · simp [Value.cells] at hcs
    obtain ⟨rfl, rfl, rfl⟩ := hcs
    exact ⟨[], rfl, .inl rfl, by omega⟩
  · simp [Value.cells] at hcs
    obtain ⟨rfl, rfl, rfl⟩ := hcs
    have hlm : len ≤ m := by rw [hmm]; split <;> omega
    obtain ⟨F, hF⟩ := choose_lt (α := HV) (n := len) (p := fun i e => W.cell? ((x.add (i * 3)).add 0) = some (.int .i64 e.h) ∧ W.cell? ((x.add (i * 3)).add 1) = some (.int .i64 e.f) ∧ W.cell? ((x.add (i * 3)).add 2) = some (.int .i64 e.b)) (fun i hi => by
      obtain ⟨cs', h1, h2⟩ := hx i (by omega)
      rw [cellsLHo] at h1
      obtain ⟨v, rfl⟩ := ho_cells h2
      obtain ⟨_, _, h3⟩ := World.cells?_some h1
      exact ⟨v, h3 0 (by omega), h3 1 (by omega), h3 2 (by omega)⟩)
    refine ⟨(List.range len).map F, by simp, ?_, by unfold maxLen at hm; omega⟩
    by_cases h0 : len = 0
    · subst h0; exact .inl rfl
    · obtain ⟨b, off, spot⟩ := x
      have hspot : spot = none := by simpa [Addr.add] using World.cell?_spot (hF 0 (by omega)).1
      subst hspot
      refine .inr ⟨b, off, rfl, fun i e hi => ?_⟩
      have hi' : i < len := by
        have := (List.getElem?_eq_some_iff.1 hi).1; simpa using this
      obtain rfl : F i = e := by simpa [hi'] using hi
      obtain ⟨q0, q1, q2⟩ := hF i hi'
      simp only [add_plain] at q0 q1 q2
      exact ⟨q0, q1, q2⟩
end
end Go.Proofs.Ytnnmgbgkgnejlaa
