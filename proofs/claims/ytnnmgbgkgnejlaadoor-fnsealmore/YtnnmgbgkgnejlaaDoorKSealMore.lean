/-
  The closed facts of one row, each for itself.
-/
import Derived.Test.YtnnmgbgkgnejlaaDoorCards
import Derived.Test.YtnnmgbgkgnejlaaDoorFacts
namespace Go.Proofs.YtnnmgbgkgnejlaaDoor

namespace fnSealMore
theorem k1 : (Rows.fnSealMoreRow.wf (OpenSpec.ofChange (OpenSpec.ofChange Rows.fnSealMoreSpec).bare)) = true := by kernel_rfl
theorem k4 : (Tryd.f10.params.all (Tryd.prog.readableRec ·)) = true := by kernel_rfl
theorem k5 : (namedTie Tryd.prog Rows.fnSealMoreRow.named (OpenSpec.ofChange Rows.fnSealMoreSpec).bare.vars) = true := by kernel_rfl
theorem k6 : (Rows.fnSealMoreRow.stops == []) = true := by kernel_rfl
theorem k8 : (Rows.fnSealMoreRow.knobs == []) = true := by kernel_rfl
theorem k10 : (Rows.fnSealMoreRow.inPlace == Tryd.prog.inPlace 10) = true := by kernel_rfl
theorem k11 : (Rows.fnSealMoreRow.unfollowed == Tryd.prog.unfollowed 10) = true := by kernel_rfl
theorem k12 : (Rows.fnSealMoreRow.recurses == Tryd.prog.recurses 10) = true := by kernel_rfl
theorem k13 : (Rows.fnSealMoreRow.named == Tryd.prog.varsNamed 10) = true := by kernel_rfl
theorem k14 : (Rows.fnSealMoreRow.maps == (Tryd.f10.params.toList ++ (OpenSpec.ofChange Rows.fnSealMoreSpec).bare.plain.varTypes Tryd.prog).any (Tryd.prog.mapsRec ·)) = true := by kernel_rfl
theorem k15 : (Rows.fnSealMoreRow.ifaces == (Tryd.f10.params.toList ++ (OpenSpec.ofChange Rows.fnSealMoreSpec).bare.plain.varTypes Tryd.prog).any (Tryd.prog.ifacesRec ·)) = true := by kernel_rfl
theorem k16 : (Rows.fnSealMoreRow.mapsOut == Tryd.prog.mapsAmong Tryd.f10.resultTypes.toList) = true := by kernel_rfl
theorem k17 : (Rows.fnSealMoreRow.loops == (Tryd.f10.params.toList ++ (OpenSpec.ofChange Rows.fnSealMoreSpec).bare.plain.varTypes Tryd.prog).any (Tryd.prog.loopsFrom ·)) = true := by kernel_rfl
theorem k17b : (Rows.fnSealMoreRow.wideKeys == (Tryd.f10.params.toList ++ (OpenSpec.ofChange Rows.fnSealMoreSpec).bare.plain.varTypes Tryd.prog ++ Tryd.f10.resultTypes.toList).any (Tryd.prog.wideKeysFrom ·)) = true := by kernel_rfl
theorem k18 : ((OpenSpec.ofChange Rows.fnSealMoreSpec).bare.vars.all (Tryd.prog.varReadable ·)) = true := by kernel_rfl
theorem k19 : (Tryd.f10.resultTypes.all (fun t => Tryd.prog.readableRec t && decide (t < Tryd.prog.types.size))) = true := by kernel_rfl
theorem k20 : (Rows.fnSealMoreRow.ifacesOut == Tryd.f10.resultTypes.toList.any (Tryd.prog.ifacesRec ·)) = true := by kernel_rfl
theorem k21 : (Rows.fnSealMoreRow.loopsOut == Tryd.f10.resultTypes.toList.any (Tryd.prog.loopsFrom ·)) = true := by kernel_rfl
theorem k23 : (Rows.fnSealMoreRow.shortTexts.isNone) = true := by kernel_rfl
theorem k25 : (Rows.fnSealMoreRow.kinds == (if Rows.fnSealMoreRow.domain.isEmpty then [] else Tryd.f10.params.toList.map fun t => match Tryd.prog.underlying t with | some (.int k) => some k | _ => none)) = true := by kernel_rfl
theorem k26 : (Rows.fnSealMoreRow.pinned == Rows.fnSealMoreRow.pinnedBy) = true := by kernel_rfl
theorem k27 : (Rows.fnSealMoreRow.veiled == (Tryd.f10.params.toList ++ (OpenSpec.ofChange Rows.fnSealMoreSpec).bare.plain.varTypes Tryd.prog ++ Tryd.f10.resultTypes.toList).any (Tryd.prog.veiledRec ·)) = true := by kernel_rfl
theorem k28 : (Rows.fnSealMoreRow.veiledFits Tryd.prog Tryd.f10.params.toList (Tryd.f10.params.toList ++ (OpenSpec.ofChange Rows.fnSealMoreSpec).bare.plain.varTypes Tryd.prog ++ Tryd.f10.resultTypes.toList)) = true := by kernel_rfl
set_option maxRecDepth 100000 in
theorem closed : joinedFacts Tryd.prog 10 Tryd.f10 (OpenSpec.ofChange Rows.fnSealMoreSpec).bare Rows.fnSealMoreRow = true := and2 (and2 (and2 (and2 (and2 (and2 (and2 (and2 (and2 (and2 (and2 (and2 (and2 (and2 (and2 (and2 (and2 (and2 (and2 (and2 (and2 (and2 (and2 (and2 (and2 (and2 (and2 (and2 (and2 (and2 (and2 k1 fpLaid) fpMaps) k4) k5) k6) fpStops) k8) fpKnobs) k10) k11) k12) k13) k14) k15) k16) k17) k17b) k18) k19) k20) k21) fpPlain) k23) fpHeard) fpEnter) fpLift) fpMake) k25) k26) k27) k28
theorem kw : Rows.fnSealMoreRow.wfByText (OpenSpec.ofChange Rows.fnSealMoreSpec) = true := by kernel_rfl
theorem kg : false = Rows.fnSealMoreRow.goesBy Tryd.pinned.checked.prog := by kernel_rfl
theorem km : laidOutB Tryd.prog = true := fpLaid
end fnSealMore
end Go.Proofs.YtnnmgbgkgnejlaaDoor
