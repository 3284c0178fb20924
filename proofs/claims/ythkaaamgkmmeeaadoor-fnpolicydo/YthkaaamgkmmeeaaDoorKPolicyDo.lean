/-
  The closed facts of one row, each for itself.
-/
import Derived.Test.YthkaaamgkmmeeaaDoorCards
import Derived.Test.YthkaaamgkmmeeaaDoorFacts
namespace Go.Proofs.YthkaaamgkmmeeaaDoor

namespace fnPolicyDo
theorem k1 : (Rows.fnPolicyDoRow.wf (OpenSpec.ofChange (OpenSpec.ofChange Rows.fnPolicyDoSpec).bare)) = true := by kernel_rfl
theorem k4 : (Tryd.f4.params.all (Tryd.prog.readableRec ·)) = true := by kernel_rfl
theorem k5 : (namedTie Tryd.prog Rows.fnPolicyDoRow.named (OpenSpec.ofChange Rows.fnPolicyDoSpec).bare.vars) = true := by kernel_rfl
theorem k6 : (Rows.fnPolicyDoRow.stops == []) = true := by kernel_rfl
theorem k8 : (Rows.fnPolicyDoRow.knobs == []) = true := by kernel_rfl
theorem k10 : (Rows.fnPolicyDoRow.inPlace == Tryd.prog.inPlace 4) = true := by kernel_rfl
theorem k11 : (Rows.fnPolicyDoRow.unfollowed == Tryd.prog.unfollowed 4) = true := by kernel_rfl
theorem k12 : (Rows.fnPolicyDoRow.recurses == Tryd.prog.recurses 4) = true := by kernel_rfl
theorem k13 : (Rows.fnPolicyDoRow.named == Tryd.prog.varsNamed 4) = true := by kernel_rfl
theorem k14 : (Rows.fnPolicyDoRow.maps == (Tryd.f4.params.toList ++ (OpenSpec.ofChange Rows.fnPolicyDoSpec).bare.plain.varTypes Tryd.prog).any (Tryd.prog.mapsRec ·)) = true := by kernel_rfl
theorem k15 : (Rows.fnPolicyDoRow.ifaces == (Tryd.f4.params.toList ++ (OpenSpec.ofChange Rows.fnPolicyDoSpec).bare.plain.varTypes Tryd.prog).any (Tryd.prog.ifacesRec ·)) = true := by kernel_rfl
theorem k16 : (Rows.fnPolicyDoRow.mapsOut == Tryd.prog.mapsAmong Tryd.f4.resultTypes.toList) = true := by kernel_rfl
theorem k17 : (Rows.fnPolicyDoRow.loops == (Tryd.f4.params.toList ++ (OpenSpec.ofChange Rows.fnPolicyDoSpec).bare.plain.varTypes Tryd.prog).any (Tryd.prog.loopsFrom ·)) = true := by kernel_rfl
theorem k17b : (Rows.fnPolicyDoRow.wideKeys == (Tryd.f4.params.toList ++ (OpenSpec.ofChange Rows.fnPolicyDoSpec).bare.plain.varTypes Tryd.prog ++ Tryd.f4.resultTypes.toList).any (Tryd.prog.wideKeysFrom ·)) = true := by kernel_rfl
theorem k18 : ((OpenSpec.ofChange Rows.fnPolicyDoSpec).bare.vars.all (Tryd.prog.varReadable ·)) = true := by kernel_rfl
theorem k19 : (Tryd.f4.resultTypes.all (fun t => Tryd.prog.readableRec t && decide (t < Tryd.prog.types.size))) = true := by kernel_rfl
theorem k20 : (Rows.fnPolicyDoRow.ifacesOut == Tryd.f4.resultTypes.toList.any (Tryd.prog.ifacesRec ·)) = true := by kernel_rfl
theorem k21 : (Rows.fnPolicyDoRow.loopsOut == Tryd.f4.resultTypes.toList.any (Tryd.prog.loopsFrom ·)) = true := by kernel_rfl
theorem k23 : (Rows.fnPolicyDoRow.shortTexts.isNone) = true := by kernel_rfl
theorem k25 : (Rows.fnPolicyDoRow.kinds == (if Rows.fnPolicyDoRow.domain.isEmpty then [] else Tryd.f4.params.toList.map fun t => match Tryd.prog.underlying t with | some (.int k) => some k | _ => none)) = true := by kernel_rfl
theorem k26 : (Rows.fnPolicyDoRow.pinned == Rows.fnPolicyDoRow.pinnedBy) = true := by kernel_rfl
theorem k27 : (Rows.fnPolicyDoRow.veiled == (Tryd.f4.params.toList ++ (OpenSpec.ofChange Rows.fnPolicyDoSpec).bare.plain.varTypes Tryd.prog ++ Tryd.f4.resultTypes.toList).any (Tryd.prog.veiledRec ·)) = true := by kernel_rfl
theorem k28 : (Rows.fnPolicyDoRow.veiledFits Tryd.prog Tryd.f4.params.toList (Tryd.f4.params.toList ++ (OpenSpec.ofChange Rows.fnPolicyDoSpec).bare.plain.varTypes Tryd.prog ++ Tryd.f4.resultTypes.toList)) = true := by kernel_rfl
set_option maxRecDepth 100000 in
theorem closed : joinedFacts Tryd.prog 4 Tryd.f4 (OpenSpec.ofChange Rows.fnPolicyDoSpec).bare Rows.fnPolicyDoRow = true := and2 (and2 (and2 (and2 (and2 (and2 (and2 (and2 (and2 (and2 (and2 (and2 (and2 (and2 (and2 (and2 (and2 (and2 (and2 (and2 (and2 (and2 (and2 (and2 (and2 (and2 (and2 (and2 (and2 (and2 (and2 k1 fpLaid) fpMaps) k4) k5) k6) fpStops) k8) fpKnobs) k10) k11) k12) k13) k14) k15) k16) k17) k17b) k18) k19) k20) k21) fpPlain) k23) fpHeard) fpEnter) fpLift) fpMake) k25) k26) k27) k28
theorem kw : Rows.fnPolicyDoRow.wfByText (OpenSpec.ofChange Rows.fnPolicyDoSpec) = true := by kernel_rfl
theorem kg : false = Rows.fnPolicyDoRow.goesBy Tryd.pinned.checked.prog := by kernel_rfl
theorem km : laidOutB Tryd.prog = true := fpLaid
end fnPolicyDo
end Go.Proofs.YthkaaamgkmmeeaaDoor
