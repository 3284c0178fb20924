/-
  The closed facts of one row, each for itself.
-/
import Derived.Test.YtfjfcdifnfffbaaDoorCards
import Derived.Test.YtfjfcdifnfffbaaDoorFacts
namespace Go.Proofs.YtfjfcdifnfffbaaDoor

namespace fnExactRouteText
theorem k1 : (Rows.fnExactRouteTextRow.wf (OpenSpec.ofChange (OpenSpec.ofChange Rows.fnExactRouteTextSpec).bare)) = true := by kernel_rfl
theorem k4 : (Tryd.f19.params.all (Tryd.prog.readableRec ·)) = true := by kernel_rfl
theorem k5 : (namedTie Tryd.prog Rows.fnExactRouteTextRow.named (OpenSpec.ofChange Rows.fnExactRouteTextSpec).bare.vars) = true := by kernel_rfl
theorem k6 : (Rows.fnExactRouteTextRow.stops == []) = true := by kernel_rfl
theorem k8 : (Rows.fnExactRouteTextRow.knobs == []) = true := by kernel_rfl
theorem k10 : (Rows.fnExactRouteTextRow.inPlace == Tryd.prog.inPlace 19) = true := by kernel_rfl
theorem k11 : (Rows.fnExactRouteTextRow.unfollowed == Tryd.prog.unfollowed 19) = true := by kernel_rfl
theorem k12 : (Rows.fnExactRouteTextRow.recurses == Tryd.prog.recurses 19) = true := by kernel_rfl
theorem k13 : (Rows.fnExactRouteTextRow.named == Tryd.prog.varsNamed 19) = true := by kernel_rfl
theorem k14 : (Rows.fnExactRouteTextRow.maps == (Tryd.f19.params.toList ++ (OpenSpec.ofChange Rows.fnExactRouteTextSpec).bare.plain.varTypes Tryd.prog).any (Tryd.prog.mapsRec ·)) = true := by kernel_rfl
theorem k15 : (Rows.fnExactRouteTextRow.ifaces == (Tryd.f19.params.toList ++ (OpenSpec.ofChange Rows.fnExactRouteTextSpec).bare.plain.varTypes Tryd.prog).any (Tryd.prog.ifacesRec ·)) = true := by kernel_rfl
theorem k16 : (Rows.fnExactRouteTextRow.mapsOut == Tryd.prog.mapsAmong Tryd.f19.resultTypes.toList) = true := by kernel_rfl
theorem k17 : (Rows.fnExactRouteTextRow.loops == (Tryd.f19.params.toList ++ (OpenSpec.ofChange Rows.fnExactRouteTextSpec).bare.plain.varTypes Tryd.prog).any (Tryd.prog.loopsFrom ·)) = true := by kernel_rfl
theorem k17b : (Rows.fnExactRouteTextRow.wideKeys == (Tryd.f19.params.toList ++ (OpenSpec.ofChange Rows.fnExactRouteTextSpec).bare.plain.varTypes Tryd.prog ++ Tryd.f19.resultTypes.toList).any (Tryd.prog.wideKeysFrom ·)) = true := by kernel_rfl
theorem k18 : ((OpenSpec.ofChange Rows.fnExactRouteTextSpec).bare.vars.all (Tryd.prog.varReadable ·)) = true := by kernel_rfl
theorem k19 : (Tryd.f19.resultTypes.all (fun t => Tryd.prog.readableRec t && decide (t < Tryd.prog.types.size))) = true := by kernel_rfl
theorem k20 : (Rows.fnExactRouteTextRow.ifacesOut == Tryd.f19.resultTypes.toList.any (Tryd.prog.ifacesRec ·)) = true := by kernel_rfl
theorem k21 : (Rows.fnExactRouteTextRow.loopsOut == Tryd.f19.resultTypes.toList.any (Tryd.prog.loopsFrom ·)) = true := by kernel_rfl
theorem k23 : (Rows.fnExactRouteTextRow.shortTexts.isNone) = true := by kernel_rfl
theorem k25 : (Rows.fnExactRouteTextRow.kinds == (if Rows.fnExactRouteTextRow.domain.isEmpty then [] else Tryd.f19.params.toList.map fun t => match Tryd.prog.underlying t with | some (.int k) => some k | _ => none)) = true := by kernel_rfl
theorem k26 : (Rows.fnExactRouteTextRow.pinned == Rows.fnExactRouteTextRow.pinnedBy) = true := by kernel_rfl
theorem k27 : (Rows.fnExactRouteTextRow.veiled == (Tryd.f19.params.toList ++ (OpenSpec.ofChange Rows.fnExactRouteTextSpec).bare.plain.varTypes Tryd.prog ++ Tryd.f19.resultTypes.toList).any (Tryd.prog.veiledRec ·)) = true := by kernel_rfl
theorem k28 : (Rows.fnExactRouteTextRow.veiledFits Tryd.prog Tryd.f19.params.toList (Tryd.f19.params.toList ++ (OpenSpec.ofChange Rows.fnExactRouteTextSpec).bare.plain.varTypes Tryd.prog ++ Tryd.f19.resultTypes.toList)) = true := by kernel_rfl
set_option maxRecDepth 100000 in
theorem closed : joinedFacts Tryd.prog 19 Tryd.f19 (OpenSpec.ofChange Rows.fnExactRouteTextSpec).bare Rows.fnExactRouteTextRow = true := and2 (and2 (and2 (and2 (and2 (and2 (and2 (and2 (and2 (and2 (and2 (and2 (and2 (and2 (and2 (and2 (and2 (and2 (and2 (and2 (and2 (and2 (and2 (and2 (and2 (and2 (and2 (and2 (and2 (and2 (and2 k1 fpLaid) fpMaps) k4) k5) k6) fpStops) k8) fpKnobs) k10) k11) k12) k13) k14) k15) k16) k17) k17b) k18) k19) k20) k21) fpPlain) k23) fpHeard) fpEnter) fpLift) fpMake) k25) k26) k27) k28
theorem kw : Rows.fnExactRouteTextRow.wfByText (OpenSpec.ofChange Rows.fnExactRouteTextSpec) = true := by kernel_rfl
theorem kg : false = Rows.fnExactRouteTextRow.goesBy Tryd.pinned.checked.prog := by kernel_rfl
theorem km : laidOutB Tryd.prog = true := fpLaid
end fnExactRouteText
end Go.Proofs.YtfjfcdifnfffbaaDoor
