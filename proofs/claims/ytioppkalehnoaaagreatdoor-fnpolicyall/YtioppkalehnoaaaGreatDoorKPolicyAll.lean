/-
  The closed facts of one row, each for itself.
-/
import Derived.Test.YtioppkalehnoaaaGreatDoorCards
import Derived.Test.YtioppkalehnoaaaGreatDoorFacts
namespace Go.Proofs.YtioppkalehnoaaaGreatDoor

namespace fnPolicyAll
theorem k1 : (Rows.fnPolicyAllRow.wf (OpenSpec.ofChange (OpenSpec.ofChange Rows.fnPolicyAllSpec).bare)) = true := by kernel_rfl
theorem k4 : (Tryz.f5.params.all (Tryz.prog.readableRec ·)) = true := by kernel_rfl
theorem k5 : (namedTie Tryz.prog Rows.fnPolicyAllRow.named (OpenSpec.ofChange Rows.fnPolicyAllSpec).bare.vars) = true := by kernel_rfl
theorem k6 : (Rows.fnPolicyAllRow.stops == []) = true := by kernel_rfl
theorem k8 : (Rows.fnPolicyAllRow.knobs == []) = true := by kernel_rfl
theorem k10 : (Rows.fnPolicyAllRow.inPlace == Tryz.prog.inPlace 5) = true := by kernel_rfl
theorem k11 : (Rows.fnPolicyAllRow.unfollowed == Tryz.prog.unfollowed 5) = true := by kernel_rfl
theorem k12 : (Rows.fnPolicyAllRow.recurses == Tryz.prog.recurses 5) = true := by kernel_rfl
theorem k13 : (Rows.fnPolicyAllRow.named == Tryz.prog.varsNamed 5) = true := by kernel_rfl
theorem k14 : (Rows.fnPolicyAllRow.maps == (Tryz.f5.params.toList ++ (OpenSpec.ofChange Rows.fnPolicyAllSpec).bare.plain.varTypes Tryz.prog).any (Tryz.prog.mapsRec ·)) = true := by kernel_rfl
theorem k15 : (Rows.fnPolicyAllRow.ifaces == (Tryz.f5.params.toList ++ (OpenSpec.ofChange Rows.fnPolicyAllSpec).bare.plain.varTypes Tryz.prog).any (Tryz.prog.ifacesRec ·)) = true := by kernel_rfl
theorem k16 : (Rows.fnPolicyAllRow.mapsOut == Tryz.prog.mapsAmong Tryz.f5.resultTypes.toList) = true := by kernel_rfl
theorem k17 : (Rows.fnPolicyAllRow.loops == (Tryz.f5.params.toList ++ (OpenSpec.ofChange Rows.fnPolicyAllSpec).bare.plain.varTypes Tryz.prog).any (Tryz.prog.loopsFrom ·)) = true := by kernel_rfl
theorem k17b : (Rows.fnPolicyAllRow.wideKeys == (Tryz.f5.params.toList ++ (OpenSpec.ofChange Rows.fnPolicyAllSpec).bare.plain.varTypes Tryz.prog ++ Tryz.f5.resultTypes.toList).any (Tryz.prog.wideKeysFrom ·)) = true := by kernel_rfl
theorem k18 : ((OpenSpec.ofChange Rows.fnPolicyAllSpec).bare.vars.all (Tryz.prog.varReadable ·)) = true := by kernel_rfl
theorem k19 : (Tryz.f5.resultTypes.all (fun t => Tryz.prog.readableRec t && decide (t < Tryz.prog.types.size))) = true := by kernel_rfl
theorem k20 : (Rows.fnPolicyAllRow.ifacesOut == Tryz.f5.resultTypes.toList.any (Tryz.prog.ifacesRec ·)) = true := by kernel_rfl
theorem k21 : (Rows.fnPolicyAllRow.loopsOut == Tryz.f5.resultTypes.toList.any (Tryz.prog.loopsFrom ·)) = true := by kernel_rfl
theorem k23 : (Rows.fnPolicyAllRow.shortTexts.isNone) = true := by kernel_rfl
theorem k25 : (Rows.fnPolicyAllRow.kinds == (if Rows.fnPolicyAllRow.domain.isEmpty then [] else Tryz.f5.params.toList.map fun t => match Tryz.prog.underlying t with | some (.int k) => some k | _ => none)) = true := by kernel_rfl
theorem k26 : (Rows.fnPolicyAllRow.pinned == Rows.fnPolicyAllRow.pinnedBy) = true := by kernel_rfl
theorem k27 : (Rows.fnPolicyAllRow.veiled == (Tryz.f5.params.toList ++ (OpenSpec.ofChange Rows.fnPolicyAllSpec).bare.plain.varTypes Tryz.prog ++ Tryz.f5.resultTypes.toList).any (Tryz.prog.veiledRec ·)) = true := by kernel_rfl
theorem k28 : (Rows.fnPolicyAllRow.veiledFits Tryz.prog Tryz.f5.params.toList (Tryz.f5.params.toList ++ (OpenSpec.ofChange Rows.fnPolicyAllSpec).bare.plain.varTypes Tryz.prog ++ Tryz.f5.resultTypes.toList)) = true := by kernel_rfl
set_option maxRecDepth 100000 in
theorem closed : joinedFacts Tryz.prog 5 Tryz.f5 (OpenSpec.ofChange Rows.fnPolicyAllSpec).bare Rows.fnPolicyAllRow = true := and2 (and2 (and2 (and2 (and2 (and2 (and2 (and2 (and2 (and2 (and2 (and2 (and2 (and2 (and2 (and2 (and2 (and2 (and2 (and2 (and2 (and2 (and2 (and2 (and2 (and2 (and2 (and2 (and2 (and2 (and2 k1 fpLaid) fpMaps) k4) k5) k6) fpStops) k8) fpKnobs) k10) k11) k12) k13) k14) k15) k16) k17) k17b) k18) k19) k20) k21) fpPlain) k23) fpHeard) fpEnter) fpLift) fpMake) k25) k26) k27) k28
theorem kw : Rows.fnPolicyAllRow.wfByText (OpenSpec.ofChange Rows.fnPolicyAllSpec) = true := by kernel_rfl
theorem kg : false = Rows.fnPolicyAllRow.goesBy Tryz.pinned.checked.prog := by kernel_rfl
theorem km : laidOutB Tryz.prog = true := fpLaid
end fnPolicyAll
end Go.Proofs.YtioppkalehnoaaaGreatDoor
