/-
  The closed facts of one row, each for itself.
-/
import Derived.Test.YtfjfcdifnfffbaaDoorCards
import Derived.Test.YtfjfcdifnfffbaaDoorFacts
namespace Go.Proofs.YtfjfcdifnfffbaaDoor

namespace fnExactRouteOk
theorem k1 : (Rows.fnExactRouteOkRow.wf (OpenSpec.ofChange (OpenSpec.ofChange Rows.fnExactRouteOkSpec).bare)) = true := by kernel_rfl
theorem k4 : (Tryd.f14.params.all (Tryd.prog.readableRec ·)) = true := by kernel_rfl
theorem k5 : (namedTie Tryd.prog Rows.fnExactRouteOkRow.named (OpenSpec.ofChange Rows.fnExactRouteOkSpec).bare.vars) = true := by kernel_rfl
theorem k6 : (Rows.fnExactRouteOkRow.stops == []) = true := by kernel_rfl
theorem k8 : (Rows.fnExactRouteOkRow.knobs == []) = true := by kernel_rfl
theorem k10 : (Rows.fnExactRouteOkRow.inPlace == Tryd.prog.inPlace 14) = true := by kernel_rfl
theorem k11 : (Rows.fnExactRouteOkRow.unfollowed == Tryd.prog.unfollowed 14) = true := by kernel_rfl
theorem k12 : (Rows.fnExactRouteOkRow.recurses == Tryd.prog.recurses 14) = true := by kernel_rfl
theorem k13 : (Rows.fnExactRouteOkRow.named == Tryd.prog.varsNamed 14) = true := by kernel_rfl
theorem k14 : (Rows.fnExactRouteOkRow.maps == (Tryd.f14.params.toList ++ (OpenSpec.ofChange Rows.fnExactRouteOkSpec).bare.plain.varTypes Tryd.prog).any (Tryd.prog.mapsRec ·)) = true := by kernel_rfl
theorem k15 : (Rows.fnExactRouteOkRow.ifaces == (Tryd.f14.params.toList ++ (OpenSpec.ofChange Rows.fnExactRouteOkSpec).bare.plain.varTypes Tryd.prog).any (Tryd.prog.ifacesRec ·)) = true := by kernel_rfl
theorem k16 : (Rows.fnExactRouteOkRow.mapsOut == Tryd.prog.mapsAmong Tryd.f14.resultTypes.toList) = true := by kernel_rfl
theorem k17 : (Rows.fnExactRouteOkRow.loops == (Tryd.f14.params.toList ++ (OpenSpec.ofChange Rows.fnExactRouteOkSpec).bare.plain.varTypes Tryd.prog).any (Tryd.prog.loopsFrom ·)) = true := by kernel_rfl
theorem k17b : (Rows.fnExactRouteOkRow.wideKeys == (Tryd.f14.params.toList ++ (OpenSpec.ofChange Rows.fnExactRouteOkSpec).bare.plain.varTypes Tryd.prog ++ Tryd.f14.resultTypes.toList).any (Tryd.prog.wideKeysFrom ·)) = true := by kernel_rfl
theorem k18 : ((OpenSpec.ofChange Rows.fnExactRouteOkSpec).bare.vars.all (Tryd.prog.varReadable ·)) = true := by kernel_rfl
theorem k19 : (Tryd.f14.resultTypes.all (fun t => Tryd.prog.readableRec t && decide (t < Tryd.prog.types.size))) = true := by kernel_rfl
theorem k20 : (Rows.fnExactRouteOkRow.ifacesOut == Tryd.f14.resultTypes.toList.any (Tryd.prog.ifacesRec ·)) = true := by kernel_rfl
theorem k21 : (Rows.fnExactRouteOkRow.loopsOut == Tryd.f14.resultTypes.toList.any (Tryd.prog.loopsFrom ·)) = true := by kernel_rfl
theorem k23 : (Rows.fnExactRouteOkRow.shortTexts.isNone) = true := by kernel_rfl
theorem k25 : (Rows.fnExactRouteOkRow.kinds == (if Rows.fnExactRouteOkRow.domain.isEmpty then [] else Tryd.f14.params.toList.map fun t => match Tryd.prog.underlying t with | some (.int k) => some k | _ => none)) = true := by kernel_rfl
theorem k26 : (Rows.fnExactRouteOkRow.pinned == Rows.fnExactRouteOkRow.pinnedBy) = true := by kernel_rfl
theorem k27 : (Rows.fnExactRouteOkRow.veiled == (Tryd.f14.params.toList ++ (OpenSpec.ofChange Rows.fnExactRouteOkSpec).bare.plain.varTypes Tryd.prog ++ Tryd.f14.resultTypes.toList).any (Tryd.prog.veiledRec ·)) = true := by kernel_rfl
theorem k28 : (Rows.fnExactRouteOkRow.veiledFits Tryd.prog Tryd.f14.params.toList (Tryd.f14.params.toList ++ (OpenSpec.ofChange Rows.fnExactRouteOkSpec).bare.plain.varTypes Tryd.prog ++ Tryd.f14.resultTypes.toList)) = true := by kernel_rfl
set_option maxRecDepth 100000 in
theorem closed : joinedFacts Tryd.prog 14 Tryd.f14 (OpenSpec.ofChange Rows.fnExactRouteOkSpec).bare Rows.fnExactRouteOkRow = true := and2 (and2 (and2 (and2 (and2 (and2 (and2 (and2 (and2 (and2 (and2 (and2 (and2 (and2 (and2 (and2 (and2 (and2 (and2 (and2 (and2 (and2 (and2 (and2 (and2 (and2 (and2 (and2 (and2 (and2 (and2 k1 fpLaid) fpMaps) k4) k5) k6) fpStops) k8) fpKnobs) k10) k11) k12) k13) k14) k15) k16) k17) k17b) k18) k19) k20) k21) fpPlain) k23) fpHeard) fpEnter) fpLift) fpMake) k25) k26) k27) k28
theorem kw : Rows.fnExactRouteOkRow.wfByText (OpenSpec.ofChange Rows.fnExactRouteOkSpec) = true := by kernel_rfl
theorem kg : false = Rows.fnExactRouteOkRow.goesBy Tryd.pinned.checked.prog := by kernel_rfl
theorem km : laidOutB Tryd.prog = true := fpLaid
end fnExactRouteOk
end Go.Proofs.YtfjfcdifnfffbaaDoor
