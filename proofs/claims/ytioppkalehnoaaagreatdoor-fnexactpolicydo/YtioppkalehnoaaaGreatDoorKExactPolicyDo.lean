/-
  The closed facts of one row, each for itself.
-/
import Derived.Test.YtioppkalehnoaaaGreatDoorCards
import Derived.Test.YtioppkalehnoaaaGreatDoorFacts
namespace Go.Proofs.YtioppkalehnoaaaGreatDoor

namespace fnExactPolicyDo
theorem k1 : (Rows.fnExactPolicyDoRow.wf (OpenSpec.ofChange (OpenSpec.ofChange Rows.fnExactPolicyDoSpec).bare)) = true := by kernel_rfl
theorem k4 : (Tryz.f3.params.all (Tryz.prog.readableRec ·)) = true := by kernel_rfl
theorem k5 : (namedTie Tryz.prog Rows.fnExactPolicyDoRow.named (OpenSpec.ofChange Rows.fnExactPolicyDoSpec).bare.vars) = true := by kernel_rfl
theorem k6 : (Rows.fnExactPolicyDoRow.stops == []) = true := by kernel_rfl
theorem k8 : (Rows.fnExactPolicyDoRow.knobs == []) = true := by kernel_rfl
theorem k10 : (Rows.fnExactPolicyDoRow.inPlace == Tryz.prog.inPlace 3) = true := by kernel_rfl
theorem k11 : (Rows.fnExactPolicyDoRow.unfollowed == Tryz.prog.unfollowed 3) = true := by kernel_rfl
theorem k12 : (Rows.fnExactPolicyDoRow.recurses == Tryz.prog.recurses 3) = true := by kernel_rfl
theorem k13 : (Rows.fnExactPolicyDoRow.named == Tryz.prog.varsNamed 3) = true := by kernel_rfl
theorem k14 : (Rows.fnExactPolicyDoRow.maps == (Tryz.f3.params.toList ++ (OpenSpec.ofChange Rows.fnExactPolicyDoSpec).bare.plain.varTypes Tryz.prog).any (Tryz.prog.mapsRec ·)) = true := by kernel_rfl
theorem k15 : (Rows.fnExactPolicyDoRow.ifaces == (Tryz.f3.params.toList ++ (OpenSpec.ofChange Rows.fnExactPolicyDoSpec).bare.plain.varTypes Tryz.prog).any (Tryz.prog.ifacesRec ·)) = true := by kernel_rfl
theorem k16 : (Rows.fnExactPolicyDoRow.mapsOut == Tryz.prog.mapsAmong Tryz.f3.resultTypes.toList) = true := by kernel_rfl
theorem k17 : (Rows.fnExactPolicyDoRow.loops == (Tryz.f3.params.toList ++ (OpenSpec.ofChange Rows.fnExactPolicyDoSpec).bare.plain.varTypes Tryz.prog).any (Tryz.prog.loopsFrom ·)) = true := by kernel_rfl
theorem k17b : (Rows.fnExactPolicyDoRow.wideKeys == (Tryz.f3.params.toList ++ (OpenSpec.ofChange Rows.fnExactPolicyDoSpec).bare.plain.varTypes Tryz.prog ++ Tryz.f3.resultTypes.toList).any (Tryz.prog.wideKeysFrom ·)) = true := by kernel_rfl
theorem k18 : ((OpenSpec.ofChange Rows.fnExactPolicyDoSpec).bare.vars.all (Tryz.prog.varReadable ·)) = true := by kernel_rfl
theorem k19 : (Tryz.f3.resultTypes.all (fun t => Tryz.prog.readableRec t && decide (t < Tryz.prog.types.size))) = true := by kernel_rfl
theorem k20 : (Rows.fnExactPolicyDoRow.ifacesOut == Tryz.f3.resultTypes.toList.any (Tryz.prog.ifacesRec ·)) = true := by kernel_rfl
theorem k21 : (Rows.fnExactPolicyDoRow.loopsOut == Tryz.f3.resultTypes.toList.any (Tryz.prog.loopsFrom ·)) = true := by kernel_rfl
theorem k23 : (Rows.fnExactPolicyDoRow.shortTexts.isNone) = true := by kernel_rfl
theorem k25 : (Rows.fnExactPolicyDoRow.kinds == (if Rows.fnExactPolicyDoRow.domain.isEmpty then [] else Tryz.f3.params.toList.map fun t => match Tryz.prog.underlying t with | some (.int k) => some k | _ => none)) = true := by kernel_rfl
theorem k26 : (Rows.fnExactPolicyDoRow.pinned == Rows.fnExactPolicyDoRow.pinnedBy) = true := by kernel_rfl
theorem k27 : (Rows.fnExactPolicyDoRow.veiled == (Tryz.f3.params.toList ++ (OpenSpec.ofChange Rows.fnExactPolicyDoSpec).bare.plain.varTypes Tryz.prog ++ Tryz.f3.resultTypes.toList).any (Tryz.prog.veiledRec ·)) = true := by kernel_rfl
theorem k28 : (Rows.fnExactPolicyDoRow.veiledFits Tryz.prog Tryz.f3.params.toList (Tryz.f3.params.toList ++ (OpenSpec.ofChange Rows.fnExactPolicyDoSpec).bare.plain.varTypes Tryz.prog ++ Tryz.f3.resultTypes.toList)) = true := by kernel_rfl
set_option maxRecDepth 100000 in
theorem closed : joinedFacts Tryz.prog 3 Tryz.f3 (OpenSpec.ofChange Rows.fnExactPolicyDoSpec).bare Rows.fnExactPolicyDoRow = true := and2 (and2 (and2 (and2 (and2 (and2 (and2 (and2 (and2 (and2 (and2 (and2 (and2 (and2 (and2 (and2 (and2 (and2 (and2 (and2 (and2 (and2 (and2 (and2 (and2 (and2 (and2 (and2 (and2 (and2 (and2 k1 fpLaid) fpMaps) k4) k5) k6) fpStops) k8) fpKnobs) k10) k11) k12) k13) k14) k15) k16) k17) k17b) k18) k19) k20) k21) fpPlain) k23) fpHeard) fpEnter) fpLift) fpMake) k25) k26) k27) k28
theorem kw : Rows.fnExactPolicyDoRow.wfByText (OpenSpec.ofChange Rows.fnExactPolicyDoSpec) = true := by kernel_rfl
theorem kg : false = Rows.fnExactPolicyDoRow.goesBy Tryz.pinned.checked.prog := by kernel_rfl
theorem km : laidOutB Tryz.prog = true := fpLaid
end fnExactPolicyDo
end Go.Proofs.YtioppkalehnoaaaGreatDoor
