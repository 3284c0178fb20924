/-
  The iterator of halves, where there are two.
-/
import Derived.Test.YtnabcffpficgcaaIter
namespace Go.Proofs.Ytnabcffpficgcaa
open Go.RowKit Go.Shelf
set_option linter.unusedSimpArgs false
attribute [local go_sem] Oper.semAt_some

/-- while the halves are made: X: the range, L: its lower half -/
def Hv (W0 : World) (X L : Nat) (f b : Int) (w' : World) : Prop := At w' X f b ∧ At w' L f (b + 1) ∧ W0.grownBy w' none
theorem Hv.drew {W0 : World} {X L : Nat} {f b : Int} {w' : World} (h : Hv W0 X L f b w') : Hv W0 X L f b w'.drew := ⟨h.1.drew, h.2.1.drew, only_drew h.2.2⟩
theorem Hv.alloc {W0 : World} {X L : Nat} {f b : Int} {w' : World} (h : Hv W0 X L f b w') (o : Obj) : Hv W0 X L f b (w'.alloc o) := ⟨h.1.alloc o, h.2.1.alloc o, only_alloc h.2.2 o⟩
theorem Hv.below {W0 : World} {X L : Nat} {f b : Int} {w' w1 : World} (h : Hv W0 X L f b w') (k : Below w'.heap.size w' w1) : Hv W0 X L f b w1 := ⟨h.1.below k, h.2.1.below k, only_below h.2.2 k⟩
theorem Hv.else {W0 : World} {X L U : Nat} {f b : Int} {w' : World} (h : Hv W0 X L f b w') (hX : U ≠ X) (hL : U ≠ L) (hU : W0.heap.size ≤ U) (u v : Value) : Hv W0 X L f b ((w'.setCell ⟨U, 0, none⟩ u).setCell ⟨U, 1, none⟩ v) :=
  ⟨h.1.far2 _ _ hX, h.2.1.far2 _ _ hL, only_set2 h.2.2 _ _ hU⟩
theorem Hv.sv {W0 : World} {X L : Nat} {f b : Int} {w' : World} (h : Hv W0 X L f b w') : w'.cell? ⟨X, 0, none⟩ = some (.int .i64 f) ∧ w'.cell? ⟨X, 1, none⟩ = some (.int .i64 b) ∧ w'.cell? ⟨L, 0, none⟩ = some (.int .i64 f) ∧ w'.cell? ⟨L, 1, none⟩ = some (.int .i64 (b + 1)) ∧ Hv W0 X L f b w' :=
  ⟨h.1.1, h.1.2.1, h.2.1.1, h.2.1.2.1, h⟩

end Go.Proofs.Ytnabcffpficgcaa
