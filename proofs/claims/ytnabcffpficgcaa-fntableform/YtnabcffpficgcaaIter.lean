/-
  The iterator of halves: what it yields.
-/
import Derived.RangeFuncNested
import Derived.RangeFuncBound
import Derived.RangeFuncCalls
import Derived.RangeFuncLeaves
import Derived.Shelf.Abstract
import Derived.Shelf.RegionOpen
import Derived.OwnWalkIn
import Derived.TacticsInMore
import Derived.LoopNIn
import Derived.LoopIn
import Derived.Test.YtnabcffpficgcaaHalfS
namespace Go.Proofs.Ytnabcffpficgcaa
open Go.RowKit Go.Shelf
set_option linter.unusedSimpArgs false
attribute [local go_sem] Oper.semAt_some

/-- a half: which, its first address, its bits -/
def encH (x : Bool × Int × Int) : Array Value := #[.bool x.1, .agg #[.int .i64 x.2.1, .int .i64 x.2.2]]
/-- what is yielded -/
def halvesL (f b : Int) : List (Bool × Int × Int) := if halfB f b then [(false, f, b + 1), (true, f + sz (b + 1), b + 1)] else []
/-- all cells stay -/
def CK (W W' : World) : Prop := ∀ b o v, W.cell? ⟨b, o, none⟩ = some v → W'.cell? ⟨b, o, none⟩ = some v
theorem CK.refl (W : World) : CK W W := fun _ _ _ h => h
theorem CK.trans {A B C : World} (h : CK A B) (k : CK B C) : CK A C := fun b o v e => k b o v (h b o v e)
theorem CK.below {W W' : World} (h : Below W.heap.size W W') : CK W W' := fun _ _ _ e => cell_later h e

theorem abides_below {β : Type} {B : Nat} {J : β → World → Prop} (hJ : AbidesFrom B J) {s : β} {W W' : World} (h : J s W) (k : Below W.heap.size W W') : J s W' :=
  hJ s W W' none h ⟨k.os, k.tape, k.output, k.size, fun i hi _ => k.block i hi⟩ (fun r e => by cases e)

end Go.Proofs.Ytnabcffpficgcaa
