/-
  Closed facts on the translated program as a whole, each for itself: every statement of the seat leans on them.
-/
import Derived.Test.YtioppkalehnoaaaGreatDoorRows
import Derived.ProofKit
namespace Go.Proofs.YtioppkalehnoaaaGreatDoor

theorem and2 {a b : Bool} (h : a = true) (k : b = true) : (a && b) = true := by rw [h, k]; rfl
theorem fpLaid : laidOutB Tryz.prog = true := by kernel_rfl
theorem fpMaps : mapsRowed Tryz.prog = true := by kernel_rfl
theorem fpStops : (Tryz.prog.stops == []) = true := by kernel_rfl
theorem fpKnobs : (Tryz.prog.stopKnobs == []) = true := by kernel_rfl
theorem fpPlain : (true == Tryz.prog.plainKeys) = true := by kernel_rfl
theorem fpHeard : Tryz.prog.stopsHeard = true := by kernel_rfl
theorem fpEnter : Tryz.prog.mayEnter = true := by kernel_rfl
theorem fpLift : (false == Tryz.prog.liftsFinal) = true := by kernel_rfl
theorem fpMake : (Tryz.prog.make == some .cut) = true := by kernel_rfl
theorem fpOwn : ownKnob Tryz.prog.godebug = none := by kernel_rfl

end Go.Proofs.YtioppkalehnoaaaGreatDoor
