/-
  The closed facts of one row, each for itself.
-/
import Derived.Test.YthkaaamgkmmeeaaDoorCards
import Derived.Test.YthkaaamgkmmeeaaDoorFacts
namespace Go.Proofs.YthkaaamgkmmeeaaDoor

namespace fnPolicyTwice
theorem k1 : (Rows.fnPolicyTwiceRow.wf (OpenSpec.ofChange (OpenSpec.ofChange Rows.fnPolicyTwiceSpec).bare)) = true := by kernel_rfl
theorem k4 : (Tryd.f8.params.all (Tryd.prog.readableRec ·)) = true := by kernel_rfl
theorem k5 : (namedTie Tryd.prog Rows.fnPolicyTwiceRow.named (OpenSpec.ofChange Rows.fnPolicyTwiceSpec).bare.vars) = true := by kernel_rfl
theorem k6 : (Rows.fnPolicyTwiceRow.stops == []) = true := by kernel_rfl
theorem k8 : (Rows.fnPolicyTwiceRow.knobs == []) = true := by kernel_rfl
theorem k10 : (Rows.fnPolicyTwiceRow.inPlace == Tryd.prog.inPlace 8) = true := by kernel_rfl
theorem k11 : (Rows.fnPolicyTwiceRow.unfollowed == Tryd.prog.unfollowed 8) = true := by kernel_rfl
theorem k12 : (Rows.fnPolicyTwiceRow.recurses == Tryd.prog.recurses 8) = true := by kernel_rfl
theorem k13 : (Rows.fnPolicyTwiceRow.named == Tryd.prog.varsNamed 8) = true := by kernel_rfl
theorem k14 : (Rows.fnPolicyTwiceRow.maps == (Tryd.f8.params.toList ++ (OpenSpec.ofChange Rows.fnPolicyTwiceSpec).bare.plain.varTypes Tryd.prog).any (Tryd.prog.mapsRec ·)) = true := by kernel_rfl
theorem k15 : (Rows.fnPolicyTwiceRow.ifaces == (Tryd.f8.params.toList ++ (OpenSpec.ofChange Rows.fnPolicyTwiceSpec).bare.plain.varTypes Tryd.prog).any (Tryd.prog.ifacesRec ·)) = true := by kernel_rfl
theorem k16 : (Rows.fnPolicyTwiceRow.mapsOut == Tryd.prog.mapsAmong Tryd.f8.resultTypes.toList) = true := by kernel_rfl
theorem k17 : (Rows.fnPolicyTwiceRow.loops == (Tryd.f8.params.toList ++ (OpenSpec.ofChange Rows.fnPolicyTwiceSpec).bare.plain.varTypes Tryd.prog).any (Tryd.prog.loopsFrom ·)) = true := by kernel_rfl
theorem k17b : (Rows.fnPolicyTwiceRow.wideKeys == (Tryd.f8.params.toList ++ (OpenSpec.ofChange Rows.fnPolicyTwiceSpec).bare.plain.varTypes Tryd.prog ++ Tryd.f8.resultTypes.toList).any (Tryd.prog.wideKeysFrom ·)) = true := by kernel_rfl
theorem k18 : ((OpenSpec.ofChange Rows.fnPolicyTwiceSpec).bare.vars.all (Tryd.prog.varReadable ·)) = true := by kernel_rfl
theorem k19 : (Tryd.f8.resultTypes.all (fun t => Tryd.prog.readableRec t && decide (t < Tryd.prog.types.size))) = true := by kernel_rfl
theorem k20 : (Rows.fnPolicyTwiceRow.ifacesOut == Tryd.f8.resultTypes.toList.any (Tryd.prog.ifacesRec ·)) = true := by kernel_rfl
theorem k21 : (Rows.fnPolicyTwiceRow.loopsOut == Tryd.f8.resultTypes.toList.any (Tryd.prog.loopsFrom ·)) = true := by kernel_rfl
theorem k23 : (Rows.fnPolicyTwiceRow.shortTexts.isNone) = true := by kernel_rfl
theorem k25 : (Rows.fnPolicyTwiceRow.kinds == (if Rows.fnPolicyTwiceRow.domain.isEmpty then [] else Tryd.f8.params.toList.map fun t => match Tryd.prog.underlying t with | some (.int k) => some k | _ => none)) = true := by kernel_rfl
theorem k26 : (Rows.fnPolicyTwiceRow.pinned == Rows.fnPolicyTwiceRow.pinnedBy) = true := by kernel_rfl
theorem k27 : (Rows.fnPolicyTwiceRow.veiled == (Tryd.f8.params.toList ++ (OpenSpec.ofChange Rows.fnPolicyTwiceSpec).bare.plain.varTypes Tryd.prog ++ Tryd.f8.resultTypes.toList).any (Tryd.prog.veiledRec ·)) = true := by kernel_rfl
theorem k28 : (Rows.fnPolicyTwiceRow.veiledFits Tryd.prog Tryd.f8.params.toList (Tryd.f8.params.toList ++ (OpenSpec.ofChange Rows.fnPolicyTwiceSpec).bare.plain.varTypes Tryd.prog ++ Tryd.f8.resultTypes.toList)) = true := by kernel_rfl
set_option maxRecDepth 100000 in
theorem closed : joinedFacts Tryd.prog 8 Tryd.f8 (OpenSpec.ofChange Rows.fnPolicyTwiceSpec).bare Rows.fnPolicyTwiceRow = true := and2 (and2 (and2 (and2 (and2 (and2 (and2 (and2 (and2 (and2 (and2 (and2 (and2 (and2 (and2 (and2 (and2 (and2 (and2 (and2 (and2 (and2 (and2 (and2 (and2 (and2 (and2 (and2 (and2 (and2 (and2 k1 fpLaid) fpMaps) k4) k5) k6) fpStops) k8) fpKnobs) k10) k11) k12) k13) k14) k15) k16) k17) k17b) k18) k19) k20) k21) fpPlain) k23) fpHeard) fpEnter) fpLift) fpMake) k25) k26) k27) k28
theorem kw : Rows.fnPolicyTwiceRow.wfByText (OpenSpec.ofChange Rows.fnPolicyTwiceSpec) = true := by kernel_rfl
theorem kg : false = Rows.fnPolicyTwiceRow.goesBy Tryd.pinned.checked.prog := by kernel_rfl
theorem km : laidOutB Tryd.prog = true := fpLaid
end fnPolicyTwice
end Go.Proofs.YthkaaamgkmmeeaaDoor
