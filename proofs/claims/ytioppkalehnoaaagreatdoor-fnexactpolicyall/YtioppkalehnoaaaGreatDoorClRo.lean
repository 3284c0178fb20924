/-
  A slice of routes as an argument.
-/
import Derived.Test.YtioppkalehnoaaaGreatDoorRtVu
import Derived.Test.YtioppkalehnoaaaGreatDoorROpen
import Derived.Deep.Slices
namespace Go.Proofs.YtioppkalehnoaaaGreatDoor
open Go.ChangeShapes Go.WideShapes Go.ChangeAt Go.RowKit Go.Joins Go.Deep
set_option linter.unusedSimpArgs false
set_option linter.unusedVariables false

instance : Inhabited RV := ⟨zRV⟩
section
variable {H : Type} {enc : TypeId × Value → H} {W : World} {base : Nat} {spare : Nat → Bool} {held : Bool}
/-- a slice of routes that came in -/
theorem open_rtS {a : Option Addr} {len cap : Nat} {dd : DataW H} {p : List MemPlace} (h : DataW.Trod enc Tryz.prog W base spare held 43 (.slice a len cap) dd p) :
    ∃ L : List RV, len = L.length ∧ RsB W a L ∧ len ≤ 9223372036854775807 := by
  obtain ⟨fuel, hf⟩ := h
  rcases open_slice Tryz.underlying43 hf with ⟨hcs, _⟩ | ⟨x, l, c, m, n, D, Pl, hcs, _, hl, hm, hmm, _, hx⟩
  · simp [Value.cells] at hcs
    obtain ⟨rfl, rfl, rfl⟩ := hcs
    exact ⟨[], rfl, ⟨.inl rfl, fun v hv => by cases hv⟩, by omega⟩
  · simp [Value.cells] at hcs
    obtain ⟨rfl, rfl, rfl⟩ := hcs
    have hlm : len ≤ m := by rw [hmm]; split <;> omega
    obtain ⟨F, hF⟩ := choose_lt (α := RV) (n := len) (p := fun i e => (W.cell? ((x.add (i * 5)).add 0) = some (.int .i64 e.f) ∧ W.cell? ((x.add (i * 5)).add 1) = some (.int .i64 e.b) ∧ W.cell? ((x.add (i * 5)).add 2) = some (.slice e.a e.P.length e.c) ∧ W.cell? ((x.add (i * 5)).add 3) = some (.int .i64 e.l) ∧ W.cell? ((x.add (i * 5)).add 4) = some (.slice e.d e.M.length e.e)) ∧ ((IntA W e.a e.P ∧ IntA W e.d e.M) ∧ e.P.length ≤ e.c ∧ e.M.length ≤ e.e) ∧ e.P.length ≤ 9223372036854775807 ∧ e.M.length ≤ 9223372036854775807) (fun i hi => by
      obtain ⟨cs', h1, h2⟩ := hx i (by omega)
      rw [cellsLRt] at h1
      obtain ⟨f, b, a, n', c', P, l', d, m', e, M, rfl, ⟨r1, r2⟩, ⟨rfl, rfl⟩, ⟨r3, r4⟩, r5, r6⟩ := rt_cells h2
      obtain ⟨_, _, h3⟩ := World.cells?_some h1
      exact ⟨⟨f, b, a, c', P, l', d, e, M⟩, ⟨h3 0 (by omega), h3 1 (by omega), h3 2 (by omega), h3 3 (by omega), h3 4 (by omega)⟩, ⟨⟨r1, r2⟩, r3, r4⟩, r5, r6⟩)
    refine ⟨(List.range len).map F, by simp, ⟨?_, fun v hv => ?_⟩, by unfold maxLen at hm; omega⟩
    · by_cases h0 : len = 0
      · subst h0; exact .inl rfl
      · obtain ⟨b, off, spot⟩ := x
        have hspot : spot = none := by simpa [Addr.add] using World.cell?_spot (hF 0 (by omega)).1.1
        subst hspot
        refine .inr ⟨b, off, rfl, fun i e hi => ?_⟩
        have hi' : i < len := by
          have := (List.getElem?_eq_some_iff.1 hi).1; simpa using this
        obtain rfl : F i = e := by simpa [hi'] using hi
        obtain ⟨⟨q0, q1, q2, q3, q4⟩, _⟩ := hF i hi'
        simp only [add_plain] at q0 q1 q2 q3 q4
        exact ⟨q0, q1, q2, q3, q4⟩
    · obtain ⟨i, hi, rfl⟩ := List.mem_map.1 hv
      exact (hF i (by simpa using hi)).2
end

end Go.Proofs.YtioppkalehnoaaaGreatDoor
