/-
  The closed facts of one row, each for itself.
-/
import Derived.Test.YthkaaamgkmmeeaaDoorCards
import Derived.Test.YthkaaamgkmmeeaaDoorFacts
namespace Go.Proofs.YthkaaamgkmmeeaaDoor

namespace fnPolicyWay
theorem k1 : (Rows.fnPolicyWayRow.wf (OpenSpec.ofChange (OpenSpec.ofChange Rows.fnPolicyWaySpec).bare)) = true := by kernel_rfl
theorem k4 : (Tryd.f5.params.all (Tryd.prog.readableRec ·)) = true := by kernel_rfl
theorem k5 : (namedTie Tryd.prog Rows.fnPolicyWayRow.named (OpenSpec.ofChange Rows.fnPolicyWaySpec).bare.vars) = true := by kernel_rfl
theorem k6 : (Rows.fnPolicyWayRow.stops == []) = true := by kernel_rfl
theorem k8 : (Rows.fnPolicyWayRow.knobs == []) = true := by kernel_rfl
theorem k10 : (Rows.fnPolicyWayRow.inPlace == Tryd.prog.inPlace 5) = true := by kernel_rfl
theorem k11 : (Rows.fnPolicyWayRow.unfollowed == Tryd.prog.unfollowed 5) = true := by kernel_rfl
theorem k12 : (Rows.fnPolicyWayRow.recurses == Tryd.prog.recurses 5) = true := by kernel_rfl
theorem k13 : (Rows.fnPolicyWayRow.named == Tryd.prog.varsNamed 5) = true := by kernel_rfl
theorem k14 : (Rows.fnPolicyWayRow.maps == (Tryd.f5.params.toList ++ (OpenSpec.ofChange Rows.fnPolicyWaySpec).bare.plain.varTypes Tryd.prog).any (Tryd.prog.mapsRec ·)) = true := by kernel_rfl
theorem k15 : (Rows.fnPolicyWayRow.ifaces == (Tryd.f5.params.toList ++ (OpenSpec.ofChange Rows.fnPolicyWaySpec).bare.plain.varTypes Tryd.prog).any (Tryd.prog.ifacesRec ·)) = true := by kernel_rfl
theorem k16 : (Rows.fnPolicyWayRow.mapsOut == Tryd.prog.mapsAmong Tryd.f5.resultTypes.toList) = true := by kernel_rfl
theorem k17 : (Rows.fnPolicyWayRow.loops == (Tryd.f5.params.toList ++ (OpenSpec.ofChange Rows.fnPolicyWaySpec).bare.plain.varTypes Tryd.prog).any (Tryd.prog.loopsFrom ·)) = true := by kernel_rfl
theorem k17b : (Rows.fnPolicyWayRow.wideKeys == (Tryd.f5.params.toList ++ (OpenSpec.ofChange Rows.fnPolicyWaySpec).bare.plain.varTypes Tryd.prog ++ Tryd.f5.resultTypes.toList).any (Tryd.prog.wideKeysFrom ·)) = true := by kernel_rfl
theorem k18 : ((OpenSpec.ofChange Rows.fnPolicyWaySpec).bare.vars.all (Tryd.prog.varReadable ·)) = true := by kernel_rfl
theorem k19 : (Tryd.f5.resultTypes.all (fun t => Tryd.prog.readableRec t && decide (t < Tryd.prog.types.size))) = true := by kernel_rfl
theorem k20 : (Rows.fnPolicyWayRow.ifacesOut == Tryd.f5.resultTypes.toList.any (Tryd.prog.ifacesRec ·)) = true := by kernel_rfl
theorem k21 : (Rows.fnPolicyWayRow.loopsOut == Tryd.f5.resultTypes.toList.any (Tryd.prog.loopsFrom ·)) = true := by kernel_rfl
theorem k23 : (Rows.fnPolicyWayRow.shortTexts.isNone) = true := by kernel_rfl
theorem k25 : (Rows.fnPolicyWayRow.kinds == (if Rows.fnPolicyWayRow.domain.isEmpty then [] else Tryd.f5.params.toList.map fun t => match Tryd.prog.underlying t with | some (.int k) => some k | _ => none)) = true := by kernel_rfl
theorem k26 : (Rows.fnPolicyWayRow.pinned == Rows.fnPolicyWayRow.pinnedBy) = true := by kernel_rfl
theorem k27 : (Rows.fnPolicyWayRow.veiled == (Tryd.f5.params.toList ++ (OpenSpec.ofChange Rows.fnPolicyWaySpec).bare.plain.varTypes Tryd.prog ++ Tryd.f5.resultTypes.toList).any (Tryd.prog.veiledRec ·)) = true := by kernel_rfl
theorem k28 : (Rows.fnPolicyWayRow.veiledFits Tryd.prog Tryd.f5.params.toList (Tryd.f5.params.toList ++ (OpenSpec.ofChange Rows.fnPolicyWaySpec).bare.plain.varTypes Tryd.prog ++ Tryd.f5.resultTypes.toList)) = true := by kernel_rfl
set_option maxRecDepth 100000 in
theorem closed : joinedFacts Tryd.prog 5 Tryd.f5 (OpenSpec.ofChange Rows.fnPolicyWaySpec).bare Rows.fnPolicyWayRow = true := and2 (and2 (and2 (and2 (and2 (and2 (and2 (and2 (and2 (and2 (and2 (and2 (and2 (and2 (and2 (and2 (and2 (and2 (and2 (and2 (and2 (and2 (and2 (and2 (and2 (and2 (and2 (and2 (and2 (and2 (and2 k1 fpLaid) fpMaps) k4) k5) k6) fpStops) k8) fpKnobs) k10) k11) k12) k13) k14) k15) k16) k17) k17b) k18) k19) k20) k21) fpPlain) k23) fpHeard) fpEnter) fpLift) fpMake) k25) k26) k27) k28
theorem kw : Rows.fnPolicyWayRow.wfByText (OpenSpec.ofChange Rows.fnPolicyWaySpec) = true := by kernel_rfl
theorem kg : false = Rows.fnPolicyWayRow.goesBy Tryd.pinned.checked.prog := by kernel_rfl
theorem km : laidOutB Tryd.prog = true := fpLaid
end fnPolicyWay
end Go.Proofs.YthkaaamgkmmeeaaDoor
