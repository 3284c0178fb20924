/-
  A clause, and a slice of clauses, as arguments: from what the statement reads to what the walks ask.
-/
import Derived.Test.YtioppkalehnoaaaGreatDoorChecked
import Derived.Test.YtioppkalehnoaaaGreatDoorClMem
import Derived.ProofKit
import Derived.OpenShut
import Derived.ShutString
import Derived.ChangeOld
import Derived.Below
import Derived.Lib.SmallJoins
import Derived.Deep.Slices
namespace Go.Proofs.YtioppkalehnoaaaGreatDoor
open Go.ChangeShapes Go.WideShapes Go.ChangeAt Go.RowKit Go.Joins Go.Deep
set_option linter.unusedVariables false

theorem cellsLCl : Tryz.prog.cellsOf 62 = 8 := by kernel_rfl
theorem ccInt : Tryz.prog.cellsOf 3 = 1 := by kernel_rfl
theorem ccRg : Tryz.prog.cellsOf 24 = 2 := by kernel_rfl
theorem cellsBool : Tryz.prog.cellsOf 4 = 1 := by kernel_rfl
section
variable {H : Type} {enc : TypeId × Value → H} {W : World} {base : Nat} {spare : Nat → Bool} {held : Bool}
theorem trod_struct7 {P : Program} {t : TypeId} {f0 f1 f2 f3 f4 f5 f6 : Field} {fuel : Nat} {cs : List Value} {x : DataW H × List MemPlace} (ht : P.underlying t = some (.struct #[f0, f1, f2, f3, f4, f5, f6])) (h : DataW.trod enc P W base spare held fuel t cs = some x) :
    ∃ y0 y1 y2 y3 y4 y5 y6 n, cs.length = P.cellsOf t ∧ DataW.trod enc P W base spare held n f0.type ((cs.drop f0.offset).take (P.cellsOf f0.type)) = some y0 ∧ DataW.trod enc P W base spare held n f1.type ((cs.drop f1.offset).take (P.cellsOf f1.type)) = some y1 ∧ DataW.trod enc P W base spare held n f2.type ((cs.drop f2.offset).take (P.cellsOf f2.type)) = some y2 ∧
      DataW.trod enc P W base spare held n f3.type ((cs.drop f3.offset).take (P.cellsOf f3.type)) = some y3 ∧ DataW.trod enc P W base spare held n f4.type ((cs.drop f4.offset).take (P.cellsOf f4.type)) = some y4 ∧ DataW.trod enc P W base spare held n f5.type ((cs.drop f5.offset).take (P.cellsOf f5.type)) = some y5 ∧ DataW.trod enc P W base spare held n f6.type ((cs.drop f6.offset).take (P.cellsOf f6.type)) = some y6 := by
  obtain ⟨xs, n, _, rfl, hl, hlen, hf⟩ := DataW.trod_struct ht h
  match xs, hlen with
  | [y0, y1, y2, y3, y4, y5, y6], _ => exact ⟨y0, y1, y2, y3, y4, y5, y6, n, hl, by simpa using hf 0 f0 rfl, by simpa using hf 1 f1 rfl, by simpa using hf 2 f2 rfl, by simpa using hf 3 f3 rfl, by simpa using hf 4 f4 rfl, by simpa using hf 5 f5 rfl, by simpa using hf 6 f6 rfl⟩
set_option maxRecDepth 100000 in
theorem cl_cells {fuel : Nat} {cs : List Value} {x : DataW H × List MemPlace} (h : DataW.trod enc Tryz.prog W base spare held fuel 62 cs = some x) : ∃ c : CL, cs = c.cells := by
  obtain ⟨y0, y1, y2, y3, y4, y5, y6, n, hl, h0, h1, h2, h3, h4, h5, h6⟩ := trod_struct7 Tryz.underlying62 h
  rw [cellsLCl] at hl
  match cs, hl with
  | [c0, c1, c2, c3, c4, c5, c6, c7], _ =>
    simp only [ccRg, ccInt, cellsBool, List.drop_zero, List.take_succ_cons, List.take_zero, List.drop_succ_cons] at h0 h1 h2 h3 h4 h5 h6
    obtain ⟨z0, z1, m, _, _, k0, k1⟩ := trod_struct2 Tryz.underlying24 h2
    simp only [ccInt, List.drop_zero, List.take_succ_cons, List.take_zero, List.drop_succ_cons] at k0 k1
    obtain ⟨i, e0, _, _⟩ := DataW.trod_int Tryz.underlying3 h0
    obtain ⟨n', e1, _, _⟩ := DataW.trod_int Tryz.underlying3 h1
    obtain ⟨f, e2, _, _⟩ := DataW.trod_int Tryz.underlying3 k0
    obtain ⟨b, e3, _, _⟩ := DataW.trod_int Tryz.underlying3 k1
    obtain ⟨x', e4, _⟩ := DataW.trod_bool Tryz.underlying4 h3
    obtain ⟨l, e5, _, _⟩ := DataW.trod_int Tryz.underlying3 h4
    obtain ⟨m', e6, _, _⟩ := DataW.trod_int Tryz.underlying3 h5
    obtain ⟨k, e7, _, _⟩ := DataW.trod_int Tryz.underlying3 h6
    simp at e0 e1 e2 e3 e4 e5 e6 e7
    exact ⟨⟨i, n', f, b, x', l, m', k⟩, by rw [e0, e1, e2, e3, e4, e5, e6, e7]; rfl⟩
set_option maxRecDepth 100000 in
/-- a clause that came in -/
theorem open_cl {r : Reach} {b0 : Nat} {v : Value} {dd : DataW H} {p : List MemPlace} (hv : Value.okWide Tryz.prog W r b0 62 v) (h : DataW.Trod enc Tryz.prog W base spare held 62 v dd p) : ∃ c : CL, v = clV c := by
  obtain ⟨cs, rfl, hsz⟩ := okWide_struct Tryz.underlying62 hv
  obtain ⟨fuel, hf⟩ := h
  obtain ⟨c, hcs⟩ := cl_cells hf
  refine ⟨c, ?_⟩
  simp only [Value.cells] at hcs
  congr 1
  rw [← Array.toList_inj, hcs]; rfl
set_option maxRecDepth 100000 in
/-- a slice of clauses that came in -/
theorem open_clS {a : Option Addr} {len cap : Nat} {dd : DataW H} {p : List MemPlace} (h : DataW.Trod enc Tryz.prog W base spare held 22 (.slice a len cap) dd p) :
    ∃ L : List CL, len = L.length ∧ CsA W a L ∧ len ≤ 9223372036854775807 := by
  obtain ⟨fuel, hf⟩ := h
  rcases open_slice Tryz.underlying22 hf with ⟨hcs, _⟩ | ⟨x, l, c, m, n, D, Pl, hcs, _, hl, hm, hmm, _, hx⟩
  · simp [Value.cells] at hcs
    obtain ⟨rfl, rfl, rfl⟩ := hcs
    exact ⟨[], rfl, .inl rfl, by omega⟩
  · simp [Value.cells] at hcs
    obtain ⟨rfl, rfl, rfl⟩ := hcs
    have hlm : len ≤ m := by rw [hmm]; split <;> omega
    obtain ⟨F, hF⟩ := choose_lt (α := CL) (n := len) (p := fun i e => ∀ (j : Nat) v, e.cells[j]? = some v → W.cell? ((x.add (i * 8)).add j) = some v) (fun i hi => by
      obtain ⟨cs', h1, h2⟩ := hx i (by omega)
      rw [cellsLCl] at h1
      obtain ⟨c, rfl⟩ := cl_cells h2
      obtain ⟨_, h0, h3⟩ := World.cells?_some h1
      refine ⟨c, fun j v hj => ?_⟩
      have hj8 : j < 8 := by have := (List.getElem?_eq_some_iff.1 hj).1; rwa [eight_len] at this
      have := h3 j (by first | exact hj8 | (simpa using hj8) | (rw [eight_len]; exact hj8))
      rw [this]
      obtain ⟨q1, q2⟩ := List.getElem?_eq_some_iff.1 hj
      first | (rw [← q2]; done) | (rw [← q2]; simp) | simp [← q2])
    refine ⟨(List.range len).map F, by simp, ?_, by unfold maxLen at hm; omega⟩
    by_cases h0 : len = 0
    · subst h0; exact .inl rfl
    · obtain ⟨b, off, spot⟩ := x
      have hspot : spot = none := by simpa [Addr.add] using World.cell?_spot (hF 0 (by omega) 0 _ rfl)
      subst hspot
      refine .inr ⟨b, off, rfl, fun i e hi => ?_⟩
      have hi' : i < len := by
        have := (List.getElem?_eq_some_iff.1 hi).1; simpa using this
      obtain rfl : F i = e := by simpa [hi'] using hi
      have q := hF i hi'
      simp only [add_plain] at q
      exact ⟨q 0 _ rfl, q 1 _ rfl, q 2 _ rfl, q 3 _ rfl, q 4 _ rfl, q 5 _ rfl, q 6 _ rfl, q 7 _ rfl⟩
end
end Go.Proofs.YtioppkalehnoaaaGreatDoor
