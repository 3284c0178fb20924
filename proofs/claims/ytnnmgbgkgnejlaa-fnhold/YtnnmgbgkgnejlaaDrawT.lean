/-
  A drawn range and an address.
-/
import Derived.Test.YtnnmgbgkgnejlaaDrawS
namespace Go.Proofs.Ytnnmgbgkgnejlaa
open Go.RowKit
set_option linter.unusedSimpArgs false

/-- while an address is drawn: X: the range, R: where the result lies -/
def Sd (w : World) (X R : Nat) (f b : Int) (w' : World) : Prop := At w' X f b ∧ (∃ u v, At w' R u v) ∧ Below w.heap.size w w'
theorem Sd.drew {w : World} {X R : Nat} {f b : Int} {w' : World} (h : Sd w X R f b w') : Sd w X R f b w'.drew :=
  ⟨h.1.drew, by obtain ⟨u, v, k⟩ := h.2.1; exact ⟨u, v, k.drew⟩, h.2.2.drew⟩
theorem Sd.pick {w W w' : World} {X R B : Nat} {f b : Int} (h : Sd w X R f b W) (hg : W.grownBy w' (some B)) (hX : X ≠ B) (hR : R ≠ B) (hB : w.heap.size ≤ B) : Sd w X R f b w' :=
  ⟨h.1.only hg hX, by obtain ⟨u, v, k⟩ := h.2.1; exact ⟨u, v, k.only hg hR⟩, below_only h.2.2 hg h.2.2.size hB⟩
theorem Sd.put {w W : World} {X R : Nat} {f b : Int} (h : Sd w X R f b W) (hX : R ≠ X) (hR : w.heap.size ≤ R) (u v : Int) : Sd w X R f b ((W.setCell ⟨R, 0, none⟩ (.int .i64 u)).setCell ⟨R, 1, none⟩ (.int .i64 v)) :=
  ⟨h.1.far2 _ _ hX, by obtain ⟨u', v', k⟩ := h.2.1; exact ⟨u, v, k.put u v⟩, below_set2 h.2.2 _ _ hR⟩
/-- the same, its range's cells in sight -/
def Sv (w : World) (X R : Nat) (f b : Int) (w' : World) : Prop := w'.cell? ⟨X, 0, none⟩ = some (.int .i64 f) ∧ w'.cell? ⟨X, 1, none⟩ = some (.int .i64 b) ∧ Sd w X R f b w'
theorem Sd.sv {w : World} {X R : Nat} {f b : Int} {w' : World} (h : Sd w X R f b w') : w'.cell? ⟨X, 0, none⟩ = some (.int .i64 f) ∧ w'.cell? ⟨X, 1, none⟩ = some (.int .i64 b) ∧ Sd w X R f b w' := ⟨h.1.1, h.1.2.1, h⟩

end Go.Proofs.Ytnnmgbgkgnejlaa
