/-
  Halves by the program: the caller of the iterator.
-/
import Derived.Test.YtnabcffpficgcaaIterY
namespace Go.Proofs.Ytnabcffpficgcaa
open Go.RowKit Go.Shelf
set_option linter.unusedSimpArgs false
attribute [local go_sem] Oper.semAt_some

theorem CK.put {w W : World} (l : Nat) (o o' : Obj) (_ : w.heap.size ≤ l) (h : W.heap[l]? = some o) (hc : o.isCells = false) (_ : o.isWalk = false) : CK W (W.putObj l o') :=
  fun _ _ _ e => cell_kept e (grownBy_putObj' W l o') (fun r k => by cases k; exact ⟨o, h, hc⟩)

theorem At.kept {A B : World} {row : Option Nat} {R : Nat} {x y : Int} (h : At A R x y) (hg : A.grownBy B row) (hr : ∀ r, row = some r → ∃ o : Obj, A.heap[r]? = some o ∧ o.isCells = false) : At B R x y :=
  ⟨cell_kept h.1 hg hr, cell_kept h.2.1 hg hr, (frozen_kept h.1 hg hr).trans h.2.2.1, (frozen_kept h.2.1 hg hr).trans h.2.2.2⟩

theorem box_new (w : World) (v : Value) (t : TypeId) : (w.alloc (.cells #[v] t)).cell? ⟨w.heap.size, 0, none⟩ = some v ∧ (w.alloc (.cells #[v] t)).frozen? ⟨w.heap.size, 0, none⟩ = false := ⟨by simp, by simp⟩

/-- between two rounds -/
def HI (w : World) (u : Bool) (pre : List (Bool × Int × Int)) (W : World) : Prop :=
  ((∀ y ∈ pre, y.1 ≠ u) ∧ W.cell? ⟨w.heap.size + 1, 0, none⟩ = some (.bool u) ∧ At W (w.heap.size + 1 + 1) 0 0 ∧ W.cell? ⟨w.heap.size + 1 + 1 + 1, 0, none⟩ = some (.bool false) ∧ W.frozen? ⟨w.heap.size + 1 + 1 + 1, 0, none⟩ = false) ∧ Below w.heap.size w W
/-- a round has returned -/
def HX (w : World) (u : Bool) (c : Code) (pre : List (Bool × Int × Int)) (W : World) : Prop :=
  (c = .ret ∧ ∃ x, pre.getLast? = some x ∧ x.1 = u ∧ At W (w.heap.size + 1 + 1) x.2.1 x.2.2 ∧ W.cell? ⟨w.heap.size + 1 + 1 + 1, 0, none⟩ = some (.bool true)) ∧ Below w.heap.size w W

theorem halfV_yes {f b : Int} (u : Bool) (h : halfB f b = true) : halfV f b u = .tuple #[.agg #[.int .i64 (halfF f b u), .int .i64 (b + 1)], .bool true] := by simp [halfV, h]
theorem halfV_no {f b : Int} (u : Bool) (h : halfB f b = false) : halfV f b u = .tuple #[.agg #[.int .i64 0, .int .i64 0], .bool false] := by simp [halfV, h]
end Go.Proofs.Ytnabcffpficgcaa
