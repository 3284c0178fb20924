/-
  A struct of two ints that lies in a block: what keeps it, what turns it.
-/
import Derived.Test.YthkaaamgkmmeeaaDoorDraw
namespace Go.Proofs.YthkaaamgkmmeeaaDoor
open Go.RowKit

def At (w : World) (R : Nat) (x y : Int) : Prop :=
  w.cell? ⟨R, 0, none⟩ = some (.int .i64 x) ∧ w.cell? ⟨R, 1, none⟩ = some (.int .i64 y) ∧ w.frozen? ⟨R, 0, none⟩ = false ∧ w.frozen? ⟨R, 1, none⟩ = false

theorem At.new (w : World) (x y : Int) (t : TypeId) : At (w.alloc (.cells #[.int .i64 x, .int .i64 y] t)) w.heap.size x y := ⟨by simp, by simp, by simp, by simp⟩
theorem At.lt {w : World} {R : Nat} {x y : Int} (h : At w R x y) : R < w.heap.size := World.block_lt_of_cell? w _ h.1
theorem At.alloc {w : World} {R : Nat} {x y : Int} (h : At w R x y) (o : Obj) : At (w.alloc o) R x y :=
  ⟨cellA h.1 o, cellA h.2.1 o, frozA h.1 h.2.2.1 o, frozA h.2.1 h.2.2.2 o⟩
theorem At.below {w w' : World} {R : Nat} {x y : Int} (h : At w R x y) (k : Below w.heap.size w w') : At w' R x y :=
  ⟨cell_later k h.1, cell_later k h.2.1, by rw [k.frozen (p := ⟨R, 0, none⟩) h.lt]; exact h.2.2.1, by rw [k.frozen (p := ⟨R, 1, none⟩) h.lt]; exact h.2.2.2⟩
theorem At.only {w w' : World} {R B : Nat} {x y : Int} (h : At w R x y) (k : w.grownBy w' (some B)) (hne : R ≠ B) : At w' R x y :=
  ⟨only_cell k h.1 hne, only_cell k h.2.1 hne, only_frozen k h.1 h.2.2.1 hne, only_frozen k h.2.1 h.2.2.2 hne⟩
theorem At.drew {w : World} {R : Nat} {x y : Int} (h : At w R x y) : At w.drew R x y := h
theorem At.drewN {w : World} {R : Nat} {x y : Int} (h : At w R x y) (n : Nat) : At (w.drewN n) R x y := h
theorem At.far {w : World} {R : Nat} {x y : Int} (h : At w R x y) (q : Addr) (v : Value) (hne : q.block ≠ R) : At (w.setCell q v) R x y :=
  ⟨by rw [World.cell?_setCell_far _ _ _ _ hne]; exact h.1, by rw [World.cell?_setCell_far _ _ _ _ hne]; exact h.2.1,
   by rw [World.frozen?_setCell]; exact h.2.2.1, by rw [World.frozen?_setCell]; exact h.2.2.2⟩
theorem At.put {w : World} {R : Nat} {x y : Int} (h : At w R x y) (x' y' : Int) : At ((w.setCell ⟨R, 0, none⟩ (.int .i64 x')).setCell ⟨R, 1, none⟩ (.int .i64 y')) R x' y' := by
  refine ⟨?_, ?_, by rw [World.frozen?_setCell, World.frozen?_setCell]; exact h.2.2.1, by rw [World.frozen?_setCell, World.frozen?_setCell]; exact h.2.2.2⟩
  · rw [World.cell?_setCell_other _ _ _ _ (by simp)]; exact World.cell?_setCell_same' _ _ _ (by rw [h.1]; rfl)
  · exact World.cell?_setCell_same' _ _ _ (by rw [World.cell?_setCell_other _ _ _ _ (by simp), h.2.1]; rfl)
theorem At.put0 {w : World} {R : Nat} {x y : Int} (h : At w R x y) (x' : Int) : At (w.setCell ⟨R, 0, none⟩ (.int .i64 x')) R x' y := by
  refine ⟨World.cell?_setCell_same' _ _ _ (by rw [h.1]; rfl), ?_, by rw [World.frozen?_setCell]; exact h.2.2.1, by rw [World.frozen?_setCell]; exact h.2.2.2⟩
  rw [World.cell?_setCell_other _ _ _ _ (by simp)]; exact h.2.1
/-- the two stores of a struct, seen from elsewhere -/
theorem At.far2 {w : World} {R Q : Nat} {x y : Int} (h : At w R x y) (u v : Value) (hne : Q ≠ R) : At ((w.setCell ⟨Q, 0, none⟩ u).setCell ⟨Q, 1, none⟩ v) R x y :=
  (h.far ⟨Q, 0, none⟩ u hne).far ⟨Q, 1, none⟩ v hne
theorem rd_set2 {w : World} {B p Q : Nat} (h : Rd w B p) (u v : Value) (hq : B < Q) : Rd ((w.setCell ⟨Q, 0, none⟩ u).setCell ⟨Q, 1, none⟩ v) B p :=
  rd_set (rd_set h ⟨Q, 0, none⟩ u hq) ⟨Q, 1, none⟩ v hq
theorem only_set2 {a w : World} {row : Option Nat} {Q : Nat} (h : a.grownBy w row) (u v : Value) (hq : a.heap.size ≤ Q) : a.grownBy ((w.setCell ⟨Q, 0, none⟩ u).setCell ⟨Q, 1, none⟩ v) row :=
  only_new (only_new h ⟨Q, 0, none⟩ hq u) ⟨Q, 1, none⟩ hq v
theorem below_set2 {n : Nat} {a w : World} {Q : Nat} (h : Below n a w) (u v : Value) (hq : n ≤ Q) : Below n a ((w.setCell ⟨Q, 0, none⟩ u).setCell ⟨Q, 1, none⟩ v) :=
  (h.setCell (p := ⟨Q, 0, none⟩) hq u).setCell (p := ⟨Q, 1, none⟩) hq v
/-- only a reader's block has turned, which is new to w: nothing that was there in w has -/
theorem below_only {n : Nat} {w W w' : World} {B : Nat} (h : Below n w W) (hg : W.grownBy w' (some B)) (hn : n ≤ W.heap.size) (hB : n ≤ B) : Below n w w' :=
  h.grown hg hn (fun k e => by cases e; exact hB)

end Go.Proofs.YthkaaamgkmmeeaaDoor
