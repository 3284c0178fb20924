/-
  A slice of entries, and an entry, as arguments: from what the statement reads to what the walks ask.
-/
import Derived.Test.YtmbcfdlemapppaaChecked
import Derived.Test.YtmbcfdlemapppaaPlant
import Derived.ProofKit
import Derived.OpenShut
import Derived.ShutString
import Derived.ChangeOld
import Derived.Below
import Derived.Lib.SmallJoins
import Derived.Deep.Slices
namespace Go.Proofs.Ytmbcfdlemapppaa
open Go.ChangeShapes Go.WideShapes Go.ChangeAt Go.RowKit Go.Joins Go.Deep

theorem cellsLE : Try.prog.cellsOf 32 = 3 := by kernel_rfl
theorem cellsLR : Try.prog.cellsOf 30 = 2 := by kernel_rfl
theorem cellsInt : Try.prog.cellsOf 3 = 1 := by kernel_rfl

section
variable {H : Type} {enc : TypeId × Value → H} {W : World} {base : Nat} {spare : Nat → Bool} {held : Bool}
theorem ent_cells {fuel : Nat} {cs : List Value} {x : DataW H × List MemPlace} (h : DataW.trod enc Try.prog W base spare held fuel 32 cs = some x) :
    ∃ f b v : Int, cs = [.int .i64 f, .int .i64 b, .int .i64 v] := by
  obtain ⟨y0, y1, n, _, hl, h0, h1⟩ := trod_struct2 Try.underlying32 h
  rw [cellsLE] at hl
  match cs, hl with
  | [c0, c1, c2], _ =>
    simp only [cellsLR, cellsInt, List.drop_zero, List.take_succ_cons, List.take_zero, List.drop_succ_cons] at h0 h1
    obtain ⟨z0, z1, m, _, _, k0, k1⟩ := trod_struct2 Try.underlying30 h0
    simp only [cellsInt, List.drop_zero, List.take_succ_cons, List.take_zero, List.drop_succ_cons] at k0 k1
    obtain ⟨f, e0, _, _⟩ := DataW.trod_int Try.underlying3 k0
    obtain ⟨b, e1, _, _⟩ := DataW.trod_int Try.underlying3 k1
    obtain ⟨v, e2, _, _⟩ := DataW.trod_int Try.underlying3 h1
    simp at e0 e1 e2
    exact ⟨f, b, v, by rw [e0, e1, e2]⟩

/-- a slice of entries that came in -/
theorem open_entS {a : Option Addr} {len cap : Nat} {d : DataW H} {p : List MemPlace} (h : DataW.Trod enc Try.prog W base spare held 22 (.slice a len cap) d p) :
    ∃ T : List E, T.length = len ∧ TabA W a T ∧ len ≤ 9223372036854775807 := by
  obtain ⟨fuel, hf⟩ := h
  rcases open_slice Try.underlying22 hf with ⟨hcs, _⟩ | ⟨x, l, c, m, n, D, Pl, hcs, _, hl, hm, hmm, _, hx⟩
  · simp [Value.cells] at hcs
    obtain ⟨rfl, rfl, rfl⟩ := hcs
    exact ⟨[], rfl, .inl rfl, by omega⟩
  · simp [Value.cells] at hcs
    obtain ⟨rfl, rfl, rfl⟩ := hcs
    have hlm : len ≤ m := by rw [hmm]; split <;> omega
    obtain ⟨F, hF⟩ := choose_lt (α := E) (n := len) (p := fun i e => W.cell? ((x.add (i * 3)).add 0) = some (.int .i64 e.1) ∧ W.cell? ((x.add (i * 3)).add 1) = some (.int .i64 e.2.1) ∧ W.cell? ((x.add (i * 3)).add 2) = some (.int .i64 e.2.2)) (fun i hi => by
      obtain ⟨cs', h1, h2⟩ := hx i (by omega)
      rw [cellsLE] at h1
      obtain ⟨f, b, v, rfl⟩ := ent_cells h2
      obtain ⟨_, _, h3⟩ := World.cells?_some h1
      exact ⟨(f, b, v), h3 0 (by omega), h3 1 (by omega), h3 2 (by omega)⟩)
    refine ⟨(List.range len).map F, by simp, ?_, by unfold maxLen at hm; omega⟩
    by_cases h0 : len = 0
    · subst h0; exact .inl rfl
    · obtain ⟨b, off, spot⟩ := x
      have hspot : spot = none := by simpa [Addr.add] using World.cell?_spot (hF 0 (by omega)).1
      subst hspot
      refine .inr ⟨b, off, rfl, fun i e hi => ?_⟩
      have hi' : i < len := by
        have := (List.getElem?_eq_some_iff.1 hi).1; simpa using this
      obtain rfl : F i = e := by simpa [hi'] using hi
      obtain ⟨q0, q1, q2⟩ := hF i hi'
      simp only [add_plain] at q0 q1 q2
      exact ⟨q0, q1, q2⟩

/-- an entry that came in -/
theorem open_ent {r : Reach} {b0 : Nat} {v : Value} {d : DataW H} {p : List MemPlace} (hv : Value.okWide Try.prog W r b0 32 v) (h : DataW.Trod enc Try.prog W base spare held 32 v d p) :
    ∃ f b x : Int, v = .agg #[.int .i64 f, .int .i64 b, .int .i64 x] := by
  obtain ⟨cs, rfl, hsz⟩ := okWide_struct Try.underlying32 hv
  obtain ⟨fuel, hf⟩ := h
  obtain ⟨f, b, x, e⟩ := ent_cells hf
  refine ⟨f, b, x, ?_⟩
  simp only [Value.cells] at e
  congr 1
  rw [← Array.toList_inj, e]
end
end Go.Proofs.Ytmbcfdlemapppaa
