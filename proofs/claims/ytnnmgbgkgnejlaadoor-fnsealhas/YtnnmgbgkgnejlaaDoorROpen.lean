/-
  A route, and a slice of routes, as arguments: from what the statement reads to what the walks ask.
-/
import Derived.Test.YtnnmgbgkgnejlaaDoorPOpen
import Derived.Test.YtnnmgbgkgnejlaaDoorRtMem
namespace Go.Proofs.YtnnmgbgkgnejlaaDoor
open Go.ChangeShapes Go.WideShapes Go.ChangeAt Go.RowKit Go.Joins Go.Deep
set_option linter.unusedVariables false

theorem cellsLRt : Tryd.prog.cellsOf 58 = 5 := by kernel_rfl
theorem cellsLRg : Tryd.prog.cellsOf 56 = 2 := by kernel_rfl
theorem cellsIS : Tryd.prog.cellsOf 25 = 1 := by kernel_rfl
section
variable {H : Type} {enc : TypeId × Value → H} {W : World} {base : Nat} {spare : Nat → Bool} {held : Bool}
/-- a cell that reads as a slice of ints -/
theorem open_intC {fuel : Nat} {c : Value} {x : DataW H × List MemPlace} (hf : DataW.trod enc Tryd.prog W base spare held fuel 25 [c] = some x) :
    ∃ (a : Option Addr) (n cap : Nat) (L : List Int), c = .slice a n cap ∧ IntA W a L ∧ n = L.length ∧ n ≤ cap ∧ n ≤ 9223372036854775807 := by
  rcases open_ints Tryd.underlying25 Tryd.underlying3 cellsInt hf with ⟨hcs, _⟩ | ⟨x, l, c', zs, hcs, _, hl, hm, hz, _, hcell, _⟩
  · simp at hcs
    exact ⟨none, 0, 0, [], hcs, .inl rfl, rfl, Nat.le_refl _, by omega⟩
  · simp at hcs
    have hlm : l ≤ zs.length := by rw [hz]; split <;> omega
    refine ⟨some x, l, c', zs.take l, hcs, ?_, by rw [List.length_take]; omega, hl, by unfold maxLen at hm; omega⟩
    by_cases h0 : l = 0
    · subst h0; exact .inl (by simp)
    · obtain ⟨b, off, spot⟩ := x
      have hspot : spot = none := by simpa [Addr.add] using World.cell?_spot (hcell 0 (by omega))
      subst hspot
      refine .inr ⟨b, off, rfl, fun i e hi => ?_⟩
      rw [List.getElem?_take] at hi
      split at hi
      · obtain ⟨h1, h2⟩ := List.getElem?_eq_some_iff.1 hi
        have := hcell i h1
        rw [Addr.add_lit] at this
        rw [this, List.getD_eq_getElem?_getD, hi]
        rfl
      · cases hi
/-- the cells of a route that came in -/
def RtIn (W : World) (f b : Int) (a : Option Addr) (n c : Nat) (P : List Int) (l : Int) (d : Option Addr) (m e : Nat) (M : List Int) : Prop :=
  (IntA W a P ∧ IntA W d M) ∧ (n = P.length ∧ m = M.length) ∧ (n ≤ c ∧ m ≤ e) ∧ n ≤ 9223372036854775807 ∧ m ≤ 9223372036854775807
set_option maxRecDepth 100000 in
theorem rt_cells {fuel : Nat} {cs : List Value} {x : DataW H × List MemPlace} (h : DataW.trod enc Tryd.prog W base spare held fuel 58 cs = some x) :
    ∃ (f b : Int) (a : Option Addr) (n c : Nat) (P : List Int) (l : Int) (d : Option Addr) (m e : Nat) (M : List Int), cs = [.int .i64 f, .int .i64 b, .slice a n c, .int .i64 l, .slice d m e] ∧ RtIn W f b a n c P l d m e M := by
  obtain ⟨y0, y1, y2, y3, n, _, hl, h0, h1, h2, h3⟩ := trod_struct4 Tryd.underlying58 h
  rw [cellsLRt] at hl
  match cs, hl with
  | [c0, c1, c2, c3, c4], _ =>
    simp only [cellsLRg, cellsInt, cellsIS, List.drop_zero, List.take_succ_cons, List.take_zero, List.drop_succ_cons] at h0 h1 h2 h3
    obtain ⟨z0, z1, m, _, _, k0, k1⟩ := trod_struct2 Tryd.underlying56 h0
    simp only [cellsInt, List.drop_zero, List.take_succ_cons, List.take_zero, List.drop_succ_cons] at k0 k1
    obtain ⟨f, e0, _, _⟩ := DataW.trod_int Tryd.underlying3 k0
    obtain ⟨b, e1, _, _⟩ := DataW.trod_int Tryd.underlying3 k1
    obtain ⟨a, np, cp, P, e2, i1, i2, i3, i4⟩ := open_intC h1
    obtain ⟨l, e3, _, _⟩ := DataW.trod_int Tryd.underlying3 h2
    obtain ⟨d, nm, cm, M, e4, j1, j2, j3, j4⟩ := open_intC h3
    simp at e0 e1 e3
    exact ⟨f, b, a, np, cp, P, l, d, nm, cm, M, by rw [e0, e1, e2, e3, e4], ⟨i1, j1⟩, ⟨i2, j2⟩, ⟨i3, j3⟩, i4, j4⟩
set_option maxRecDepth 100000 in
/-- a route that came in -/
theorem open_rt {r : Reach} {b0 : Nat} {v : Value} {dd : DataW H} {p : List MemPlace} (hv : Value.okWide Tryd.prog W r b0 58 v) (h : DataW.Trod enc Tryd.prog W base spare held 58 v dd p) :
    ∃ (f b : Int) (a : Option Addr) (n c : Nat) (P : List Int) (l : Int) (d : Option Addr) (m e : Nat) (M : List Int), v = .agg #[.int .i64 f, .int .i64 b, .slice a n c, .int .i64 l, .slice d m e] ∧ RtIn W f b a n c P l d m e M := by
  obtain ⟨cs, rfl, hsz⟩ := okWide_struct Tryd.underlying58 hv
  obtain ⟨fuel, hf⟩ := h
  obtain ⟨f, b, a, n, c, P, l, d, m, e, M, hcs, hR⟩ := rt_cells hf
  refine ⟨f, b, a, n, c, P, l, d, m, e, M, ?_, hR⟩
  simp only [Value.cells] at hcs
  congr 1
  rw [← Array.toList_inj, hcs]
end
end Go.Proofs.YtnnmgbgkgnejlaaDoor
