/-
  Closed facts on the translated program as a whole, each for itself: every statement of the seat leans on them.
-/
import Derived.Test.YtnnmgbgkgnejlaaRows
import Derived.ProofKit
namespace Go.Proofs.Ytnnmgbgkgnejlaa

theorem and2 {a b : Bool} (h : a = true) (k : b = true) : (a && b) = true := by rw [h, k]; rfl
theorem fpLaid : laidOutB Try.prog = true := by kernel_rfl
theorem fpMaps : mapsRowed Try.prog = true := by kernel_rfl
theorem fpStops : (Try.prog.stops == []) = true := by kernel_rfl
theorem fpKnobs : (Try.prog.stopKnobs == []) = true := by kernel_rfl
theorem fpPlain : (true == Try.prog.plainKeys) = true := by kernel_rfl
theorem fpHeard : Try.prog.stopsHeard = true := by kernel_rfl
theorem fpEnter : Try.prog.mayEnter = true := by kernel_rfl
theorem fpLift : (false == Try.prog.liftsFinal) = true := by kernel_rfl
theorem fpMake : (Try.prog.make == some .cut) = true := by kernel_rfl
theorem fpOwn : ownKnob Try.prog.godebug = none := by kernel_rfl

end Go.Proofs.Ytnnmgbgkgnejlaa
