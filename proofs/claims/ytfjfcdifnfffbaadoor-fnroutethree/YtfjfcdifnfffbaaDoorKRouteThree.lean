/-
  The closed facts of one row, each for itself.
-/
import Derived.Test.YtfjfcdifnfffbaaDoorCards
import Derived.Test.YtfjfcdifnfffbaaDoorFacts
namespace Go.Proofs.YtfjfcdifnfffbaaDoor

namespace fnRouteThree
theorem k1 : (Rows.fnRouteThreeRow.wf (OpenSpec.ofChange (OpenSpec.ofChange Rows.fnRouteThreeSpec).bare)) = true := by kernel_rfl
theorem k4 : (Tryd.f11.params.all (Tryd.prog.readableRec ·)) = true := by kernel_rfl
theorem k5 : (namedTie Tryd.prog Rows.fnRouteThreeRow.named (OpenSpec.ofChange Rows.fnRouteThreeSpec).bare.vars) = true := by kernel_rfl
theorem k6 : (Rows.fnRouteThreeRow.stops == []) = true := by kernel_rfl
theorem k8 : (Rows.fnRouteThreeRow.knobs == []) = true := by kernel_rfl
theorem k10 : (Rows.fnRouteThreeRow.inPlace == Tryd.prog.inPlace 11) = true := by kernel_rfl
theorem k11 : (Rows.fnRouteThreeRow.unfollowed == Tryd.prog.unfollowed 11) = true := by kernel_rfl
theorem k12 : (Rows.fnRouteThreeRow.recurses == Tryd.prog.recurses 11) = true := by kernel_rfl
theorem k13 : (Rows.fnRouteThreeRow.named == Tryd.prog.varsNamed 11) = true := by kernel_rfl
theorem k14 : (Rows.fnRouteThreeRow.maps == (Tryd.f11.params.toList ++ (OpenSpec.ofChange Rows.fnRouteThreeSpec).bare.plain.varTypes Tryd.prog).any (Tryd.prog.mapsRec ·)) = true := by kernel_rfl
theorem k15 : (Rows.fnRouteThreeRow.ifaces == (Tryd.f11.params.toList ++ (OpenSpec.ofChange Rows.fnRouteThreeSpec).bare.plain.varTypes Tryd.prog).any (Tryd.prog.ifacesRec ·)) = true := by kernel_rfl
theorem k16 : (Rows.fnRouteThreeRow.mapsOut == Tryd.prog.mapsAmong Tryd.f11.resultTypes.toList) = true := by kernel_rfl
theorem k17 : (Rows.fnRouteThreeRow.loops == (Tryd.f11.params.toList ++ (OpenSpec.ofChange Rows.fnRouteThreeSpec).bare.plain.varTypes Tryd.prog).any (Tryd.prog.loopsFrom ·)) = true := by kernel_rfl
theorem k17b : (Rows.fnRouteThreeRow.wideKeys == (Tryd.f11.params.toList ++ (OpenSpec.ofChange Rows.fnRouteThreeSpec).bare.plain.varTypes Tryd.prog ++ Tryd.f11.resultTypes.toList).any (Tryd.prog.wideKeysFrom ·)) = true := by kernel_rfl
theorem k18 : ((OpenSpec.ofChange Rows.fnRouteThreeSpec).bare.vars.all (Tryd.prog.varReadable ·)) = true := by kernel_rfl
theorem k19 : (Tryd.f11.resultTypes.all (fun t => Tryd.prog.readableRec t && decide (t < Tryd.prog.types.size))) = true := by kernel_rfl
theorem k20 : (Rows.fnRouteThreeRow.ifacesOut == Tryd.f11.resultTypes.toList.any (Tryd.prog.ifacesRec ·)) = true := by kernel_rfl
theorem k21 : (Rows.fnRouteThreeRow.loopsOut == Tryd.f11.resultTypes.toList.any (Tryd.prog.loopsFrom ·)) = true := by kernel_rfl
theorem k23 : (Rows.fnRouteThreeRow.shortTexts.isNone) = true := by kernel_rfl
theorem k25 : (Rows.fnRouteThreeRow.kinds == (if Rows.fnRouteThreeRow.domain.isEmpty then [] else Tryd.f11.params.toList.map fun t => match Tryd.prog.underlying t with | some (.int k) => some k | _ => none)) = true := by kernel_rfl
theorem k26 : (Rows.fnRouteThreeRow.pinned == Rows.fnRouteThreeRow.pinnedBy) = true := by kernel_rfl
theorem k27 : (Rows.fnRouteThreeRow.veiled == (Tryd.f11.params.toList ++ (OpenSpec.ofChange Rows.fnRouteThreeSpec).bare.plain.varTypes Tryd.prog ++ Tryd.f11.resultTypes.toList).any (Tryd.prog.veiledRec ·)) = true := by kernel_rfl
theorem k28 : (Rows.fnRouteThreeRow.veiledFits Tryd.prog Tryd.f11.params.toList (Tryd.f11.params.toList ++ (OpenSpec.ofChange Rows.fnRouteThreeSpec).bare.plain.varTypes Tryd.prog ++ Tryd.f11.resultTypes.toList)) = true := by kernel_rfl
set_option maxRecDepth 100000 in
theorem closed : joinedFacts Tryd.prog 11 Tryd.f11 (OpenSpec.ofChange Rows.fnRouteThreeSpec).bare Rows.fnRouteThreeRow = true := and2 (and2 (and2 (and2 (and2 (and2 (and2 (and2 (and2 (and2 (and2 (and2 (and2 (and2 (and2 (and2 (and2 (and2 (and2 (and2 (and2 (and2 (and2 (and2 (and2 (and2 (and2 (and2 (and2 (and2 (and2 k1 fpLaid) fpMaps) k4) k5) k6) fpStops) k8) fpKnobs) k10) k11) k12) k13) k14) k15) k16) k17) k17b) k18) k19) k20) k21) fpPlain) k23) fpHeard) fpEnter) fpLift) fpMake) k25) k26) k27) k28
theorem kw : Rows.fnRouteThreeRow.wfByText (OpenSpec.ofChange Rows.fnRouteThreeSpec) = true := by kernel_rfl
theorem kg : false = Rows.fnRouteThreeRow.goesBy Tryd.pinned.checked.prog := by kernel_rfl
theorem km : laidOutB Tryd.prog = true := fpLaid
end fnRouteThree
end Go.Proofs.YtfjfcdifnfffbaaDoor
