/-
  Which range is in which; how many addresses one has; which stands ahead.
-/
import Derived.Test.YtfjfcdifnfffbaaDoorWalksC
namespace Go.Proofs.YtfjfcdifnfffbaaDoor
open Go.RowKit
set_option linter.unusedSimpArgs false

theorem alloc2 (w : World) (o o' : Obj) : Below w.heap.size w ((w.alloc o).alloc o') := ((Below.refl _ _).alloc (Nat.le_refl _) _).alloc (by simp) _

/-- how many addresses -/
def manyI (f b : Int) : Int := if okB f b = true then sz b else 0

end Go.Proofs.YtfjfcdifnfffbaaDoor
