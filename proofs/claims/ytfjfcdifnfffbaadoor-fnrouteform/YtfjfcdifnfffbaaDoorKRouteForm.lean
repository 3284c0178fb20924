/-
  The closed facts of one row, each for itself.
-/
import Derived.Test.YtfjfcdifnfffbaaDoorCards
import Derived.Test.YtfjfcdifnfffbaaDoorFacts
namespace Go.Proofs.YtfjfcdifnfffbaaDoor

namespace fnRouteForm
theorem k1 : (Rows.fnRouteFormRow.wf (OpenSpec.ofChange (OpenSpec.ofChange Rows.fnRouteFormSpec).bare)) = true := by kernel_rfl
theorem k4 : (Tryd.f10.params.all (Tryd.prog.readableRec ·)) = true := by kernel_rfl
theorem k5 : (namedTie Tryd.prog Rows.fnRouteFormRow.named (OpenSpec.ofChange Rows.fnRouteFormSpec).bare.vars) = true := by kernel_rfl
theorem k6 : (Rows.fnRouteFormRow.stops == []) = true := by kernel_rfl
theorem k8 : (Rows.fnRouteFormRow.knobs == []) = true := by kernel_rfl
theorem k10 : (Rows.fnRouteFormRow.inPlace == Tryd.prog.inPlace 10) = true := by kernel_rfl
theorem k11 : (Rows.fnRouteFormRow.unfollowed == Tryd.prog.unfollowed 10) = true := by kernel_rfl
theorem k12 : (Rows.fnRouteFormRow.recurses == Tryd.prog.recurses 10) = true := by kernel_rfl
theorem k13 : (Rows.fnRouteFormRow.named == Tryd.prog.varsNamed 10) = true := by kernel_rfl
theorem k14 : (Rows.fnRouteFormRow.maps == (Tryd.f10.params.toList ++ (OpenSpec.ofChange Rows.fnRouteFormSpec).bare.plain.varTypes Tryd.prog).any (Tryd.prog.mapsRec ·)) = true := by kernel_rfl
theorem k15 : (Rows.fnRouteFormRow.ifaces == (Tryd.f10.params.toList ++ (OpenSpec.ofChange Rows.fnRouteFormSpec).bare.plain.varTypes Tryd.prog).any (Tryd.prog.ifacesRec ·)) = true := by kernel_rfl
theorem k16 : (Rows.fnRouteFormRow.mapsOut == Tryd.prog.mapsAmong Tryd.f10.resultTypes.toList) = true := by kernel_rfl
theorem k17 : (Rows.fnRouteFormRow.loops == (Tryd.f10.params.toList ++ (OpenSpec.ofChange Rows.fnRouteFormSpec).bare.plain.varTypes Tryd.prog).any (Tryd.prog.loopsFrom ·)) = true := by kernel_rfl
theorem k17b : (Rows.fnRouteFormRow.wideKeys == (Tryd.f10.params.toList ++ (OpenSpec.ofChange Rows.fnRouteFormSpec).bare.plain.varTypes Tryd.prog ++ Tryd.f10.resultTypes.toList).any (Tryd.prog.wideKeysFrom ·)) = true := by kernel_rfl
theorem k18 : ((OpenSpec.ofChange Rows.fnRouteFormSpec).bare.vars.all (Tryd.prog.varReadable ·)) = true := by kernel_rfl
theorem k19 : (Tryd.f10.resultTypes.all (fun t => Tryd.prog.readableRec t && decide (t < Tryd.prog.types.size))) = true := by kernel_rfl
theorem k20 : (Rows.fnRouteFormRow.ifacesOut == Tryd.f10.resultTypes.toList.any (Tryd.prog.ifacesRec ·)) = true := by kernel_rfl
theorem k21 : (Rows.fnRouteFormRow.loopsOut == Tryd.f10.resultTypes.toList.any (Tryd.prog.loopsFrom ·)) = true := by kernel_rfl
theorem k23 : (Rows.fnRouteFormRow.shortTexts.isNone) = true := by kernel_rfl
theorem k25 : (Rows.fnRouteFormRow.kinds == (if Rows.fnRouteFormRow.domain.isEmpty then [] else Tryd.f10.params.toList.map fun t => match Tryd.prog.underlying t with | some (.int k) => some k | _ => none)) = true := by kernel_rfl
theorem k26 : (Rows.fnRouteFormRow.pinned == Rows.fnRouteFormRow.pinnedBy) = true := by kernel_rfl
theorem k27 : (Rows.fnRouteFormRow.veiled == (Tryd.f10.params.toList ++ (OpenSpec.ofChange Rows.fnRouteFormSpec).bare.plain.varTypes Tryd.prog ++ Tryd.f10.resultTypes.toList).any (Tryd.prog.veiledRec ·)) = true := by kernel_rfl
theorem k28 : (Rows.fnRouteFormRow.veiledFits Tryd.prog Tryd.f10.params.toList (Tryd.f10.params.toList ++ (OpenSpec.ofChange Rows.fnRouteFormSpec).bare.plain.varTypes Tryd.prog ++ Tryd.f10.resultTypes.toList)) = true := by kernel_rfl
set_option maxRecDepth 100000 in
theorem closed : joinedFacts Tryd.prog 10 Tryd.f10 (OpenSpec.ofChange Rows.fnRouteFormSpec).bare Rows.fnRouteFormRow = true := and2 (and2 (and2 (and2 (and2 (and2 (and2 (and2 (and2 (and2 (and2 (and2 (and2 (and2 (and2 (and2 (and2 (and2 (and2 (and2 (and2 (and2 (and2 (and2 (and2 (and2 (and2 (and2 (and2 (and2 (and2 k1 fpLaid) fpMaps) k4) k5) k6) fpStops) k8) fpKnobs) k10) k11) k12) k13) k14) k15) k16) k17) k17b) k18) k19) k20) k21) fpPlain) k23) fpHeard) fpEnter) fpLift) fpMake) k25) k26) k27) k28
theorem kw : Rows.fnRouteFormRow.wfByText (OpenSpec.ofChange Rows.fnRouteFormSpec) = true := by kernel_rfl
theorem kg : false = Rows.fnRouteFormRow.goesBy Tryd.pinned.checked.prog := by kernel_rfl
theorem km : laidOutB Tryd.prog = true := fpLaid
end fnRouteForm
end Go.Proofs.YtfjfcdifnfffbaaDoor
