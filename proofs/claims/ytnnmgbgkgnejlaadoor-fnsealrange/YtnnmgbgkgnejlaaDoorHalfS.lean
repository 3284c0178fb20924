/-
  Halves by the model.
-/
import Derived.Test.YtnnmgbgkgnejlaaDoorJ1
namespace Go.Proofs.YtnnmgbgkgnejlaaDoor
open Go.RowKit
set_option linter.unusedSimpArgs false

/-- the first address of a half -/
def halfF (f b : Int) (u : Bool) : Int := if u then f + sz (b + 1) else f
/-- whether a range has halves -/
def halfB (f b : Int) : Bool := okB f b && decide (b < 8)
theorem halfB_iff (f b : Int) : halfB f b = true ↔ okB f b = true ∧ b < 8 := by simp [halfB]
/-- what RangeHalf answers -/
def halfV (f b : Int) (u : Bool) : Value := if halfB f b then .tuple #[.agg #[.int .i64 (halfF f b u), .int .i64 (b + 1)], .bool true] else .tuple #[.agg #[.int .i64 0, .int .i64 0], .bool false]

def So (w : World) (X R O : Nat) (f b : Int) (w' : World) : Prop := At w' X f b ∧ (∃ u v, At w' R u v) ∧ (∃ u, At w' O u (b + 1)) ∧ Below w.heap.size w w'
theorem So.put0 {w W : World} {X R O : Nat} {f b : Int} (h : So w X R O f b W) (hX : O ≠ X) (hR : O ≠ R) (hw : w.heap.size ≤ O) (x : Int) : So w X R O f b (W.setCell ⟨O, 0, none⟩ (.int .i64 x)) :=
  ⟨h.1.far _ _ hX, by obtain ⟨u, v, k⟩ := h.2.1; exact ⟨u, v, k.far _ _ hR⟩, by obtain ⟨u, k⟩ := h.2.2.1; exact ⟨x, k.put0 x⟩, h.2.2.2.setCell (p := ⟨O, 0, none⟩) hw _⟩

end Go.Proofs.YtnnmgbgkgnejlaaDoor
