/-
  Closed facts on the translated program as a whole, each for itself: every statement of the seat leans on them.
-/
import Derived.Test.YtnnmgbgkgnejlaaDoorRows
import Derived.ProofKit
namespace Go.Proofs.YtnnmgbgkgnejlaaDoor

theorem and2 {a b : Bool} (h : a = true) (k : b = true) : (a && b) = true := by rw [h, k]; rfl
theorem fpLaid : laidOutB Tryd.prog = true := by kernel_rfl
theorem fpMaps : mapsRowed Tryd.prog = true := by kernel_rfl
theorem fpStops : (Tryd.prog.stops == []) = true := by kernel_rfl
theorem fpKnobs : (Tryd.prog.stopKnobs == []) = true := by kernel_rfl
theorem fpPlain : (false == Tryd.prog.plainKeys) = true := by kernel_rfl
theorem fpHeard : Tryd.prog.stopsHeard = true := by kernel_rfl
theorem fpEnter : Tryd.prog.mayEnter = true := by kernel_rfl
theorem fpLift : (false == Tryd.prog.liftsFinal) = true := by kernel_rfl
theorem fpMake : (Tryd.prog.make == some .cut) = true := by kernel_rfl
theorem fpOwn : ownKnob Tryd.prog.godebug = none := by kernel_rfl

end Go.Proofs.YtnnmgbgkgnejlaaDoor
