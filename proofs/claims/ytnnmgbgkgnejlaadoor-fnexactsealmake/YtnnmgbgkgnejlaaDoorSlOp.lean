/-
  Seals and holdings as arguments: from what the statement reads to what the walks ask.
-/
import Derived.Test.YtnnmgbgkgnejlaaDoorROpen
import Derived.Test.YtnnmgbgkgnejlaaDoorSlMk
import Derived.Deep.Slices
import Derived.OpenShut
namespace Go.Proofs.YtnnmgbgkgnejlaaDoor
open Go.ChangeShapes Go.WideShapes Go.ChangeAt Go.RowKit Go.Joins Go.Deep
set_option linter.unusedSimpArgs false
set_option linter.unusedVariables false

theorem cellsLSl : Tryd.prog.cellsOf 67 = 5 := by kernel_rfl
theorem cellsLHv : Tryd.prog.cellsOf 117 = 3 := by kernel_rfl
theorem iv_of {p : Int} (h : (Lit.int .i64 p).wf = true) : Iv p := bounds_i64 h
/-- holdings -/
instance : Inhabited HV := ⟨⟨0, 0, 0⟩⟩
/-- seals that came in: nothing is said yet of how long the paths are -/
def SlB (w : World) (a : Option Addr) (L : List SV) : Prop :=
  (L = [] ∨ ∃ b off, a = some ⟨b, off, none⟩ ∧ ∀ (i : Nat) v, L[i]? = some v → SlC w b (off + i * 5) v) ∧ ∀ v ∈ L, (IntA w v.a v.P ∧ v.P.length ≤ v.c) ∧ v.P.length ≤ 9223372036854775807 ∧ SpW v.p
theorem SlB.below {w w' : World} {a : Option Addr} {L : List SV} (h : SlB w a L) (k : Below w.heap.size w w') : SlB w' a L := by
  refine ⟨?_, fun v hv => ⟨⟨(h.2 v hv).1.1.below k, (h.2 v hv).1.2⟩, (h.2 v hv).2⟩⟩
  rcases h.1 with h1 | ⟨b, off, e, h1⟩
  · exact .inl h1
  · exact .inr ⟨b, off, e, fun i v hi => (h1 i v hi).below k⟩
theorem SlB.sla {w : World} {a : Option Addr} {L : List SV} (h : SlB w a L) (hs : ∀ v ∈ L, v.P.length ≤ 2000000) : SlA w a L :=
  ⟨h.1, fun v hv => ⟨(h.2 v hv).1.1, (h.2 v hv).1.2, hs v hv⟩⟩
section
variable {H : Type} {enc : TypeId × Value → H} {W : World} {base : Nat} {spare : Nat → Bool} {held : Bool}
/-- a cell that reads as a slice of ints, with numbers that fit -/
theorem open_intV {fuel : Nat} {c : Value} {x : DataW H × List MemPlace} (hf : DataW.trod enc Tryd.prog W base spare held fuel 25 [c] = some x) :
    ∃ (a : Option Addr) (n cap : Nat) (P : List Int), c = .slice a n cap ∧ IntA W a P ∧ n = P.length ∧ n ≤ cap ∧ n ≤ 9223372036854775807 ∧ ∀ x ∈ P, Iv x := by
  rcases open_ints Tryd.underlying25 Tryd.underlying3 cellsInt hf with ⟨hcs, _⟩ | ⟨x, l, c', zs, hcs, _, hl, hm, hz, _, hcell, hwz⟩
  · simp at hcs
    exact ⟨none, 0, 0, [], hcs, .inl rfl, rfl, Nat.le_refl _, by omega, fun x hx => by cases hx⟩
  · simp at hcs
    have hlm : l ≤ zs.length := by rw [hz]; split <;> omega
    refine ⟨some x, l, c', zs.take l, hcs, ?_, by rw [List.length_take]; omega, hl, by unfold maxLen at hm; omega, fun x hx => ?_⟩
    · by_cases h0 : l = 0
      · subst h0; exact .inl (by simp)
      · obtain ⟨b, off, spot⟩ := x
        have hspot : spot = none := by simpa [Addr.add] using World.cell?_spot (hcell 0 (by omega))
        subst hspot
        refine .inr ⟨b, off, rfl, fun i e hi => ?_⟩
        rw [List.getElem?_take] at hi
        split at hi
        · obtain ⟨h1, h2⟩ := List.getElem?_eq_some_iff.1 hi
          have := hcell i h1
          rw [Addr.add_lit] at this
          rw [this, List.getD_eq_getElem?_getD, hi]
          rfl
        · cases hi
    · exact iv_of (hwz x (List.mem_of_mem_take hx))
set_option maxRecDepth 100000 in
theorem sl_cells {fuel : Nat} {cs : List Value} {x : DataW H × List MemPlace} (h : DataW.trod enc Tryd.prog W base spare held fuel 67 cs = some x) :
    ∃ v : SV, cs = v.cells ∧ (IntA W v.a v.P ∧ v.P.length ≤ v.c) ∧ v.P.length ≤ 9223372036854775807 ∧ SpW v.p := by
  obtain ⟨y0, y1, y2, y3, n, _, hl, h0, h1, h2, h3⟩ := trod_struct4 Tryd.underlying67 h
  rw [cellsLSl] at hl
  match cs, hl with
  | [c0, c1, c2, c3, c4], _ =>
    simp only [cellsLRg, cellsInt, cellsIS, List.drop_zero, List.take_succ_cons, List.take_zero, List.drop_succ_cons] at h0 h1 h2 h3
    obtain ⟨z0, z1, m, _, _, k0, k1⟩ := trod_struct2 Tryd.underlying56 h2
    simp only [cellsInt, List.drop_zero, List.take_succ_cons, List.take_zero, List.drop_succ_cons] at k0 k1
    obtain ⟨y, e0, _, wy⟩ := DataW.trod_int Tryd.underlying3 h0
    obtain ⟨t, e1, _, wt⟩ := DataW.trod_int Tryd.underlying3 h1
    obtain ⟨f, e2, _, wf⟩ := DataW.trod_int Tryd.underlying3 k0
    obtain ⟨b, e3, _, wb⟩ := DataW.trod_int Tryd.underlying3 k1
    obtain ⟨a, np, cp, P, e4, i1, i2, i3, i4, i5⟩ := open_intV h3
    simp at e0 e1 e2 e3
    subst i2
    exact ⟨⟨y, t, f, b, a, cp, P⟩, by rw [e0, e1, e2, e3, e4]; rfl, ⟨i1, i3⟩, i4, ⟨iv_of wy, iv_of wt, iv_of wf, iv_of wb, i5⟩⟩
set_option maxRecDepth 100000 in
theorem hv_cells {fuel : Nat} {cs : List Value} {x : DataW H × List MemPlace} (h : DataW.trod enc Tryd.prog W base spare held fuel 117 cs = some x) : ∃ v : HV, cs = v.cells := by
  obtain ⟨y0, y1, n, _, hl, h0, h1⟩ := trod_struct2 Tryd.underlying117 h
  rw [cellsLHv] at hl
  match cs, hl with
  | [c0, c1, c2], _ =>
    simp only [cellsLRg, cellsInt, List.drop_zero, List.take_succ_cons, List.take_zero, List.drop_succ_cons] at h0 h1
    obtain ⟨z0, z1, m, _, _, k0, k1⟩ := trod_struct2 Tryd.underlying56 h1
    simp only [cellsInt, List.drop_zero, List.take_succ_cons, List.take_zero, List.drop_succ_cons] at k0 k1
    obtain ⟨y, e0, _, _⟩ := DataW.trod_int Tryd.underlying3 h0
    obtain ⟨f, e2, _, _⟩ := DataW.trod_int Tryd.underlying3 k0
    obtain ⟨b, e3, _, _⟩ := DataW.trod_int Tryd.underlying3 k1
    simp at e0 e2 e3
    exact ⟨⟨y, f, b⟩, by rw [e0, e2, e3]; rfl⟩
set_option maxRecDepth 100000 in
/-- a seal that came in -/
theorem open_sl {r : Reach} {b0 : Nat} {v : Value} {dd : DataW H} {p : List MemPlace} (hv : Value.okWide Tryd.prog W r b0 67 v) (h : DataW.Trod enc Tryd.prog W base spare held 67 v dd p) :
    ∃ s : SV, v = slV s ∧ (IntA W s.a s.P ∧ s.P.length ≤ s.c) ∧ s.P.length ≤ 9223372036854775807 ∧ SpW s.p := by
  obtain ⟨cs, rfl, hsz⟩ := okWide_struct Tryd.underlying67 hv
  obtain ⟨fuel, hf⟩ := h
  obtain ⟨s, hcs, r1, r2, r3⟩ := sl_cells hf
  refine ⟨s, ?_, r1, r2, r3⟩
  simp only [Value.cells] at hcs
  congr 1
  rw [← Array.toList_inj, hcs]; rfl
set_option maxRecDepth 100000 in
/-- a slice of holdings that came in -/
theorem open_hvS {a : Option Addr} {len cap : Nat} {dd : DataW H} {p : List MemPlace} (h : DataW.Trod enc Tryd.prog W base spare held 74 (.slice a len cap) dd p) :
    ∃ L : List HV, len = L.length ∧ HvA W a L ∧ len ≤ 9223372036854775807 := by
  obtain ⟨fuel, hf⟩ := h
  rcases open_slice Tryd.underlying74 hf with ⟨hcs, _⟩ | ⟨x, l, c, m, n, D, Pl, hcs, _, hl, hm, hmm, _, hx⟩
  · simp [Value.cells] at hcs
    obtain ⟨rfl, rfl, rfl⟩ := hcs
    exact ⟨[], rfl, .inl rfl, by omega⟩
  · simp [Value.cells] at hcs
    obtain ⟨rfl, rfl, rfl⟩ := hcs
    have hlm : len ≤ m := by rw [hmm]; split <;> omega
    obtain ⟨F, hF⟩ := choose_lt (α := HV) (n := len) (p := fun i e => W.cell? ((x.add (i * 3)).add 0) = some (.int .i64 e.h) ∧ W.cell? ((x.add (i * 3)).add 1) = some (.int .i64 e.f) ∧ W.cell? ((x.add (i * 3)).add 2) = some (.int .i64 e.b)) (fun i hi => by
      obtain ⟨cs', h1, h2⟩ := hx i (by omega)
      rw [cellsLHv] at h1
      obtain ⟨v, rfl⟩ := hv_cells h2
      obtain ⟨_, _, h3⟩ := World.cells?_some h1
      exact ⟨v, h3 0 (by omega), h3 1 (by omega), h3 2 (by omega)⟩)
    refine ⟨(List.range len).map F, by simp, ?_, by unfold maxLen at hm; omega⟩
    by_cases h0 : len = 0
    · subst h0; exact .inl rfl
    · obtain ⟨b, off, spot⟩ := x
      have hspot : spot = none := by simpa [Addr.add] using World.cell?_spot (hF 0 (by omega)).1
      subst hspot
      refine .inr ⟨b, off, rfl, fun i e hi => ?_⟩
      have hi' : i < len := by
        have := (List.getElem?_eq_some_iff.1 hi).1; simpa using this
      obtain rfl : F i = e := by simpa [hi'] using hi
      obtain ⟨q0, q1, q2⟩ := hF i hi'
      simp only [add_plain] at q0 q1 q2
      exact ⟨q0, q1, q2⟩
set_option maxRecDepth 100000 in
/-- a slice of seals that came in -/
theorem open_slS {a : Option Addr} {len cap : Nat} {dd : DataW H} {p : List MemPlace} (h : DataW.Trod enc Tryd.prog W base spare held 65 (.slice a len cap) dd p) :
    ∃ L : List SV, len = L.length ∧ SlB W a L ∧ len ≤ 9223372036854775807 := by
  obtain ⟨fuel, hf⟩ := h
  rcases open_slice Tryd.underlying65 hf with ⟨hcs, _⟩ | ⟨x, l, c, m, n, D, Pl, hcs, _, hl, hm, hmm, _, hx⟩
  · simp [Value.cells] at hcs
    obtain ⟨rfl, rfl, rfl⟩ := hcs
    exact ⟨[], rfl, ⟨.inl rfl, fun v hv => by cases hv⟩, by omega⟩
  · simp [Value.cells] at hcs
    obtain ⟨rfl, rfl, rfl⟩ := hcs
    have hlm : len ≤ m := by rw [hmm]; split <;> omega
    obtain ⟨F, hF⟩ := choose_lt (α := SV) (n := len) (p := fun i e => (W.cell? ((x.add (i * 5)).add 0) = some (.int .i64 e.y) ∧ W.cell? ((x.add (i * 5)).add 1) = some (.int .i64 e.t) ∧ W.cell? ((x.add (i * 5)).add 2) = some (.int .i64 e.f) ∧ W.cell? ((x.add (i * 5)).add 3) = some (.int .i64 e.b) ∧ W.cell? ((x.add (i * 5)).add 4) = some (.slice e.a e.P.length e.c)) ∧ (IntA W e.a e.P ∧ e.P.length ≤ e.c) ∧ e.P.length ≤ 9223372036854775807 ∧ SpW e.p) (fun i hi => by
      obtain ⟨cs', h1, h2⟩ := hx i (by omega)
      rw [cellsLSl] at h1
      obtain ⟨v, rfl, r1, r2, r3⟩ := sl_cells h2
      obtain ⟨_, _, h3⟩ := World.cells?_some h1
      exact ⟨v, ⟨h3 0 (by omega), h3 1 (by omega), h3 2 (by omega), h3 3 (by omega), h3 4 (by omega)⟩, r1, r2, r3⟩)
    refine ⟨(List.range len).map F, by simp, ⟨?_, fun v hv => ?_⟩, by unfold maxLen at hm; omega⟩
    · by_cases h0 : len = 0
      · subst h0; exact .inl rfl
      · obtain ⟨b, off, spot⟩ := x
        have hspot : spot = none := by simpa [Addr.add] using World.cell?_spot (hF 0 (by omega)).1.1
        subst hspot
        refine .inr ⟨b, off, rfl, fun i e hi => ?_⟩
        have hi' : i < len := by
          have := (List.getElem?_eq_some_iff.1 hi).1; simpa using this
        obtain rfl : F i = e := by simpa [hi'] using hi
        obtain ⟨⟨q0, q1, q2, q3, q4⟩, _⟩ := hF i hi'
        simp only [add_plain] at q0 q1 q2 q3 q4
        exact ⟨q0, q1, q2, q3, q4⟩
    · obtain ⟨i, hi, rfl⟩ := List.mem_map.1 hv
      exact (hF i (by simpa using hi)).2
end
end Go.Proofs.YtnnmgbgkgnejlaaDoor
