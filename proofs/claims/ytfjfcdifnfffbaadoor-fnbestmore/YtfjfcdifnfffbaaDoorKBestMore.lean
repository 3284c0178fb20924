/-
  The closed facts of one row, each for itself.
-/
import Derived.Test.YtfjfcdifnfffbaaDoorCards
import Derived.Test.YtfjfcdifnfffbaaDoorFacts
namespace Go.Proofs.YtfjfcdifnfffbaaDoor

namespace fnBestMore
theorem k1 : (Rows.fnBestMoreRow.wf (OpenSpec.ofChange (OpenSpec.ofChange Rows.fnBestMoreSpec).bare)) = true := by kernel_rfl
theorem k4 : (Tryd.f12.params.all (Tryd.prog.readableRec ·)) = true := by kernel_rfl
theorem k5 : (namedTie Tryd.prog Rows.fnBestMoreRow.named (OpenSpec.ofChange Rows.fnBestMoreSpec).bare.vars) = true := by kernel_rfl
theorem k6 : (Rows.fnBestMoreRow.stops == []) = true := by kernel_rfl
theorem k8 : (Rows.fnBestMoreRow.knobs == []) = true := by kernel_rfl
theorem k10 : (Rows.fnBestMoreRow.inPlace == Tryd.prog.inPlace 12) = true := by kernel_rfl
theorem k11 : (Rows.fnBestMoreRow.unfollowed == Tryd.prog.unfollowed 12) = true := by kernel_rfl
theorem k12 : (Rows.fnBestMoreRow.recurses == Tryd.prog.recurses 12) = true := by kernel_rfl
theorem k13 : (Rows.fnBestMoreRow.named == Tryd.prog.varsNamed 12) = true := by kernel_rfl
theorem k14 : (Rows.fnBestMoreRow.maps == (Tryd.f12.params.toList ++ (OpenSpec.ofChange Rows.fnBestMoreSpec).bare.plain.varTypes Tryd.prog).any (Tryd.prog.mapsRec ·)) = true := by kernel_rfl
theorem k15 : (Rows.fnBestMoreRow.ifaces == (Tryd.f12.params.toList ++ (OpenSpec.ofChange Rows.fnBestMoreSpec).bare.plain.varTypes Tryd.prog).any (Tryd.prog.ifacesRec ·)) = true := by kernel_rfl
theorem k16 : (Rows.fnBestMoreRow.mapsOut == Tryd.prog.mapsAmong Tryd.f12.resultTypes.toList) = true := by kernel_rfl
theorem k17 : (Rows.fnBestMoreRow.loops == (Tryd.f12.params.toList ++ (OpenSpec.ofChange Rows.fnBestMoreSpec).bare.plain.varTypes Tryd.prog).any (Tryd.prog.loopsFrom ·)) = true := by kernel_rfl
theorem k17b : (Rows.fnBestMoreRow.wideKeys == (Tryd.f12.params.toList ++ (OpenSpec.ofChange Rows.fnBestMoreSpec).bare.plain.varTypes Tryd.prog ++ Tryd.f12.resultTypes.toList).any (Tryd.prog.wideKeysFrom ·)) = true := by kernel_rfl
theorem k18 : ((OpenSpec.ofChange Rows.fnBestMoreSpec).bare.vars.all (Tryd.prog.varReadable ·)) = true := by kernel_rfl
theorem k19 : (Tryd.f12.resultTypes.all (fun t => Tryd.prog.readableRec t && decide (t < Tryd.prog.types.size))) = true := by kernel_rfl
theorem k20 : (Rows.fnBestMoreRow.ifacesOut == Tryd.f12.resultTypes.toList.any (Tryd.prog.ifacesRec ·)) = true := by kernel_rfl
theorem k21 : (Rows.fnBestMoreRow.loopsOut == Tryd.f12.resultTypes.toList.any (Tryd.prog.loopsFrom ·)) = true := by kernel_rfl
theorem k23 : (Rows.fnBestMoreRow.shortTexts.isNone) = true := by kernel_rfl
theorem k25 : (Rows.fnBestMoreRow.kinds == (if Rows.fnBestMoreRow.domain.isEmpty then [] else Tryd.f12.params.toList.map fun t => match Tryd.prog.underlying t with | some (.int k) => some k | _ => none)) = true := by kernel_rfl
theorem k26 : (Rows.fnBestMoreRow.pinned == Rows.fnBestMoreRow.pinnedBy) = true := by kernel_rfl
theorem k27 : (Rows.fnBestMoreRow.veiled == (Tryd.f12.params.toList ++ (OpenSpec.ofChange Rows.fnBestMoreSpec).bare.plain.varTypes Tryd.prog ++ Tryd.f12.resultTypes.toList).any (Tryd.prog.veiledRec ·)) = true := by kernel_rfl
theorem k28 : (Rows.fnBestMoreRow.veiledFits Tryd.prog Tryd.f12.params.toList (Tryd.f12.params.toList ++ (OpenSpec.ofChange Rows.fnBestMoreSpec).bare.plain.varTypes Tryd.prog ++ Tryd.f12.resultTypes.toList)) = true := by kernel_rfl
set_option maxRecDepth 100000 in
theorem closed : joinedFacts Tryd.prog 12 Tryd.f12 (OpenSpec.ofChange Rows.fnBestMoreSpec).bare Rows.fnBestMoreRow = true := and2 (and2 (and2 (and2 (and2 (and2 (and2 (and2 (and2 (and2 (and2 (and2 (and2 (and2 (and2 (and2 (and2 (and2 (and2 (and2 (and2 (and2 (and2 (and2 (and2 (and2 (and2 (and2 (and2 (and2 (and2 k1 fpLaid) fpMaps) k4) k5) k6) fpStops) k8) fpKnobs) k10) k11) k12) k13) k14) k15) k16) k17) k17b) k18) k19) k20) k21) fpPlain) k23) fpHeard) fpEnter) fpLift) fpMake) k25) k26) k27) k28
theorem kw : Rows.fnBestMoreRow.wfByText (OpenSpec.ofChange Rows.fnBestMoreSpec) = true := by kernel_rfl
theorem kg : false = Rows.fnBestMoreRow.goesBy Tryd.pinned.checked.prog := by kernel_rfl
theorem km : laidOutB Tryd.prog = true := fpLaid
end fnBestMore
end Go.Proofs.YtfjfcdifnfffbaaDoor
