/-
  The closed facts of one row, each for itself.
-/
import Derived.Test.YtfjfcdifnfffbaaDoorCards
import Derived.Test.YtfjfcdifnfffbaaDoorFacts
namespace Go.Proofs.YtfjfcdifnfffbaaDoor

namespace fnRouteText
theorem k1 : (Rows.fnRouteTextRow.wf (OpenSpec.ofChange (OpenSpec.ofChange Rows.fnRouteTextSpec).bare)) = true := by kernel_rfl
theorem k4 : (Tryd.f9.params.all (Tryd.prog.readableRec ·)) = true := by kernel_rfl
theorem k5 : (namedTie Tryd.prog Rows.fnRouteTextRow.named (OpenSpec.ofChange Rows.fnRouteTextSpec).bare.vars) = true := by kernel_rfl
theorem k6 : (Rows.fnRouteTextRow.stops == []) = true := by kernel_rfl
theorem k8 : (Rows.fnRouteTextRow.knobs == []) = true := by kernel_rfl
theorem k10 : (Rows.fnRouteTextRow.inPlace == Tryd.prog.inPlace 9) = true := by kernel_rfl
theorem k11 : (Rows.fnRouteTextRow.unfollowed == Tryd.prog.unfollowed 9) = true := by kernel_rfl
theorem k12 : (Rows.fnRouteTextRow.recurses == Tryd.prog.recurses 9) = true := by kernel_rfl
theorem k13 : (Rows.fnRouteTextRow.named == Tryd.prog.varsNamed 9) = true := by kernel_rfl
theorem k14 : (Rows.fnRouteTextRow.maps == (Tryd.f9.params.toList ++ (OpenSpec.ofChange Rows.fnRouteTextSpec).bare.plain.varTypes Tryd.prog).any (Tryd.prog.mapsRec ·)) = true := by kernel_rfl
theorem k15 : (Rows.fnRouteTextRow.ifaces == (Tryd.f9.params.toList ++ (OpenSpec.ofChange Rows.fnRouteTextSpec).bare.plain.varTypes Tryd.prog).any (Tryd.prog.ifacesRec ·)) = true := by kernel_rfl
theorem k16 : (Rows.fnRouteTextRow.mapsOut == Tryd.prog.mapsAmong Tryd.f9.resultTypes.toList) = true := by kernel_rfl
theorem k17 : (Rows.fnRouteTextRow.loops == (Tryd.f9.params.toList ++ (OpenSpec.ofChange Rows.fnRouteTextSpec).bare.plain.varTypes Tryd.prog).any (Tryd.prog.loopsFrom ·)) = true := by kernel_rfl
theorem k17b : (Rows.fnRouteTextRow.wideKeys == (Tryd.f9.params.toList ++ (OpenSpec.ofChange Rows.fnRouteTextSpec).bare.plain.varTypes Tryd.prog ++ Tryd.f9.resultTypes.toList).any (Tryd.prog.wideKeysFrom ·)) = true := by kernel_rfl
theorem k18 : ((OpenSpec.ofChange Rows.fnRouteTextSpec).bare.vars.all (Tryd.prog.varReadable ·)) = true := by kernel_rfl
theorem k19 : (Tryd.f9.resultTypes.all (fun t => Tryd.prog.readableRec t && decide (t < Tryd.prog.types.size))) = true := by kernel_rfl
theorem k20 : (Rows.fnRouteTextRow.ifacesOut == Tryd.f9.resultTypes.toList.any (Tryd.prog.ifacesRec ·)) = true := by kernel_rfl
theorem k21 : (Rows.fnRouteTextRow.loopsOut == Tryd.f9.resultTypes.toList.any (Tryd.prog.loopsFrom ·)) = true := by kernel_rfl
theorem k23 : (Rows.fnRouteTextRow.shortTexts.isNone) = true := by kernel_rfl
theorem k25 : (Rows.fnRouteTextRow.kinds == (if Rows.fnRouteTextRow.domain.isEmpty then [] else Tryd.f9.params.toList.map fun t => match Tryd.prog.underlying t with | some (.int k) => some k | _ => none)) = true := by kernel_rfl
theorem k26 : (Rows.fnRouteTextRow.pinned == Rows.fnRouteTextRow.pinnedBy) = true := by kernel_rfl
theorem k27 : (Rows.fnRouteTextRow.veiled == (Tryd.f9.params.toList ++ (OpenSpec.ofChange Rows.fnRouteTextSpec).bare.plain.varTypes Tryd.prog ++ Tryd.f9.resultTypes.toList).any (Tryd.prog.veiledRec ·)) = true := by kernel_rfl
theorem k28 : (Rows.fnRouteTextRow.veiledFits Tryd.prog Tryd.f9.params.toList (Tryd.f9.params.toList ++ (OpenSpec.ofChange Rows.fnRouteTextSpec).bare.plain.varTypes Tryd.prog ++ Tryd.f9.resultTypes.toList)) = true := by kernel_rfl
set_option maxRecDepth 100000 in
theorem closed : joinedFacts Tryd.prog 9 Tryd.f9 (OpenSpec.ofChange Rows.fnRouteTextSpec).bare Rows.fnRouteTextRow = true := and2 (and2 (and2 (and2 (and2 (and2 (and2 (and2 (and2 (and2 (and2 (and2 (and2 (and2 (and2 (and2 (and2 (and2 (and2 (and2 (and2 (and2 (and2 (and2 (and2 (and2 (and2 (and2 (and2 (and2 (and2 k1 fpLaid) fpMaps) k4) k5) k6) fpStops) k8) fpKnobs) k10) k11) k12) k13) k14) k15) k16) k17) k17b) k18) k19) k20) k21) fpPlain) k23) fpHeard) fpEnter) fpLift) fpMake) k25) k26) k27) k28
theorem kw : Rows.fnRouteTextRow.wfByText (OpenSpec.ofChange Rows.fnRouteTextSpec) = true := by kernel_rfl
theorem kg : false = Rows.fnRouteTextRow.goesBy Tryd.pinned.checked.prog := by kernel_rfl
theorem km : laidOutB Tryd.prog = true := fpLaid
end fnRouteText
end Go.Proofs.YtfjfcdifnfffbaaDoor
