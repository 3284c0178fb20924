/-
  The closed facts of one row, each for itself.
-/
import Derived.Test.YthkaaamgkmmeeaaDoorCards
import Derived.Test.YthkaaamgkmmeeaaDoorFacts
namespace Go.Proofs.YthkaaamgkmmeeaaDoor

namespace fnRefuseAll
theorem k1 : (Rows.fnRefuseAllRow.wf (OpenSpec.ofChange (OpenSpec.ofChange Rows.fnRefuseAllSpec).bare)) = true := by kernel_rfl
theorem k4 : (Tryd.f10.params.all (Tryd.prog.readableRec ·)) = true := by kernel_rfl
theorem k5 : (namedTie Tryd.prog Rows.fnRefuseAllRow.named (OpenSpec.ofChange Rows.fnRefuseAllSpec).bare.vars) = true := by kernel_rfl
theorem k6 : (Rows.fnRefuseAllRow.stops == []) = true := by kernel_rfl
theorem k8 : (Rows.fnRefuseAllRow.knobs == []) = true := by kernel_rfl
theorem k10 : (Rows.fnRefuseAllRow.inPlace == Tryd.prog.inPlace 10) = true := by kernel_rfl
theorem k11 : (Rows.fnRefuseAllRow.unfollowed == Tryd.prog.unfollowed 10) = true := by kernel_rfl
theorem k12 : (Rows.fnRefuseAllRow.recurses == Tryd.prog.recurses 10) = true := by kernel_rfl
theorem k13 : (Rows.fnRefuseAllRow.named == Tryd.prog.varsNamed 10) = true := by kernel_rfl
theorem k14 : (Rows.fnRefuseAllRow.maps == (Tryd.f10.params.toList ++ (OpenSpec.ofChange Rows.fnRefuseAllSpec).bare.plain.varTypes Tryd.prog).any (Tryd.prog.mapsRec ·)) = true := by kernel_rfl
theorem k15 : (Rows.fnRefuseAllRow.ifaces == (Tryd.f10.params.toList ++ (OpenSpec.ofChange Rows.fnRefuseAllSpec).bare.plain.varTypes Tryd.prog).any (Tryd.prog.ifacesRec ·)) = true := by kernel_rfl
theorem k16 : (Rows.fnRefuseAllRow.mapsOut == Tryd.prog.mapsAmong Tryd.f10.resultTypes.toList) = true := by kernel_rfl
theorem k17 : (Rows.fnRefuseAllRow.loops == (Tryd.f10.params.toList ++ (OpenSpec.ofChange Rows.fnRefuseAllSpec).bare.plain.varTypes Tryd.prog).any (Tryd.prog.loopsFrom ·)) = true := by kernel_rfl
theorem k17b : (Rows.fnRefuseAllRow.wideKeys == (Tryd.f10.params.toList ++ (OpenSpec.ofChange Rows.fnRefuseAllSpec).bare.plain.varTypes Tryd.prog ++ Tryd.f10.resultTypes.toList).any (Tryd.prog.wideKeysFrom ·)) = true := by kernel_rfl
theorem k18 : ((OpenSpec.ofChange Rows.fnRefuseAllSpec).bare.vars.all (Tryd.prog.varReadable ·)) = true := by kernel_rfl
theorem k19 : (Tryd.f10.resultTypes.all (fun t => Tryd.prog.readableRec t && decide (t < Tryd.prog.types.size))) = true := by kernel_rfl
theorem k20 : (Rows.fnRefuseAllRow.ifacesOut == Tryd.f10.resultTypes.toList.any (Tryd.prog.ifacesRec ·)) = true := by kernel_rfl
theorem k21 : (Rows.fnRefuseAllRow.loopsOut == Tryd.f10.resultTypes.toList.any (Tryd.prog.loopsFrom ·)) = true := by kernel_rfl
theorem k23 : (Rows.fnRefuseAllRow.shortTexts.isNone) = true := by kernel_rfl
theorem k25 : (Rows.fnRefuseAllRow.kinds == (if Rows.fnRefuseAllRow.domain.isEmpty then [] else Tryd.f10.params.toList.map fun t => match Tryd.prog.underlying t with | some (.int k) => some k | _ => none)) = true := by kernel_rfl
theorem k26 : (Rows.fnRefuseAllRow.pinned == Rows.fnRefuseAllRow.pinnedBy) = true := by kernel_rfl
theorem k27 : (Rows.fnRefuseAllRow.veiled == (Tryd.f10.params.toList ++ (OpenSpec.ofChange Rows.fnRefuseAllSpec).bare.plain.varTypes Tryd.prog ++ Tryd.f10.resultTypes.toList).any (Tryd.prog.veiledRec ·)) = true := by kernel_rfl
theorem k28 : (Rows.fnRefuseAllRow.veiledFits Tryd.prog Tryd.f10.params.toList (Tryd.f10.params.toList ++ (OpenSpec.ofChange Rows.fnRefuseAllSpec).bare.plain.varTypes Tryd.prog ++ Tryd.f10.resultTypes.toList)) = true := by kernel_rfl
set_option maxRecDepth 100000 in
theorem closed : joinedFacts Tryd.prog 10 Tryd.f10 (OpenSpec.ofChange Rows.fnRefuseAllSpec).bare Rows.fnRefuseAllRow = true := and2 (and2 (and2 (and2 (and2 (and2 (and2 (and2 (and2 (and2 (and2 (and2 (and2 (and2 (and2 (and2 (and2 (and2 (and2 (and2 (and2 (and2 (and2 (and2 (and2 (and2 (and2 (and2 (and2 (and2 (and2 k1 fpLaid) fpMaps) k4) k5) k6) fpStops) k8) fpKnobs) k10) k11) k12) k13) k14) k15) k16) k17) k17b) k18) k19) k20) k21) fpPlain) k23) fpHeard) fpEnter) fpLift) fpMake) k25) k26) k27) k28
theorem kw : Rows.fnRefuseAllRow.wfByText (OpenSpec.ofChange Rows.fnRefuseAllSpec) = true := by kernel_rfl
theorem kg : false = Rows.fnRefuseAllRow.goesBy Tryd.pinned.checked.prog := by kernel_rfl
theorem km : laidOutB Tryd.prog = true := fpLaid
end fnRefuseAll
end Go.Proofs.YthkaaamgkmmeeaaDoor
