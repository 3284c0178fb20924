/-
  The closed facts of one row, each for itself.
-/
import Derived.Test.YtioppkalehnoaaaGreatDoorCards
import Derived.Test.YtioppkalehnoaaaGreatDoorFacts
namespace Go.Proofs.YtioppkalehnoaaaGreatDoor

namespace fnExactPolicyAll
theorem k1 : (Rows.fnExactPolicyAllRow.wf (OpenSpec.ofChange (OpenSpec.ofChange Rows.fnExactPolicyAllSpec).bare)) = true := by kernel_rfl
theorem k4 : (Tryz.f4.params.all (Tryz.prog.readableRec ·)) = true := by kernel_rfl
theorem k5 : (namedTie Tryz.prog Rows.fnExactPolicyAllRow.named (OpenSpec.ofChange Rows.fnExactPolicyAllSpec).bare.vars) = true := by kernel_rfl
theorem k6 : (Rows.fnExactPolicyAllRow.stops == []) = true := by kernel_rfl
theorem k8 : (Rows.fnExactPolicyAllRow.knobs == []) = true := by kernel_rfl
theorem k10 : (Rows.fnExactPolicyAllRow.inPlace == Tryz.prog.inPlace 4) = true := by kernel_rfl
theorem k11 : (Rows.fnExactPolicyAllRow.unfollowed == Tryz.prog.unfollowed 4) = true := by kernel_rfl
theorem k12 : (Rows.fnExactPolicyAllRow.recurses == Tryz.prog.recurses 4) = true := by kernel_rfl
theorem k13 : (Rows.fnExactPolicyAllRow.named == Tryz.prog.varsNamed 4) = true := by kernel_rfl
theorem k14 : (Rows.fnExactPolicyAllRow.maps == (Tryz.f4.params.toList ++ (OpenSpec.ofChange Rows.fnExactPolicyAllSpec).bare.plain.varTypes Tryz.prog).any (Tryz.prog.mapsRec ·)) = true := by kernel_rfl
theorem k15 : (Rows.fnExactPolicyAllRow.ifaces == (Tryz.f4.params.toList ++ (OpenSpec.ofChange Rows.fnExactPolicyAllSpec).bare.plain.varTypes Tryz.prog).any (Tryz.prog.ifacesRec ·)) = true := by kernel_rfl
theorem k16 : (Rows.fnExactPolicyAllRow.mapsOut == Tryz.prog.mapsAmong Tryz.f4.resultTypes.toList) = true := by kernel_rfl
theorem k17 : (Rows.fnExactPolicyAllRow.loops == (Tryz.f4.params.toList ++ (OpenSpec.ofChange Rows.fnExactPolicyAllSpec).bare.plain.varTypes Tryz.prog).any (Tryz.prog.loopsFrom ·)) = true := by kernel_rfl
theorem k17b : (Rows.fnExactPolicyAllRow.wideKeys == (Tryz.f4.params.toList ++ (OpenSpec.ofChange Rows.fnExactPolicyAllSpec).bare.plain.varTypes Tryz.prog ++ Tryz.f4.resultTypes.toList).any (Tryz.prog.wideKeysFrom ·)) = true := by kernel_rfl
theorem k18 : ((OpenSpec.ofChange Rows.fnExactPolicyAllSpec).bare.vars.all (Tryz.prog.varReadable ·)) = true := by kernel_rfl
theorem k19 : (Tryz.f4.resultTypes.all (fun t => Tryz.prog.readableRec t && decide (t < Tryz.prog.types.size))) = true := by kernel_rfl
theorem k20 : (Rows.fnExactPolicyAllRow.ifacesOut == Tryz.f4.resultTypes.toList.any (Tryz.prog.ifacesRec ·)) = true := by kernel_rfl
theorem k21 : (Rows.fnExactPolicyAllRow.loopsOut == Tryz.f4.resultTypes.toList.any (Tryz.prog.loopsFrom ·)) = true := by kernel_rfl
theorem k23 : (Rows.fnExactPolicyAllRow.shortTexts.isNone) = true := by kernel_rfl
theorem k25 : (Rows.fnExactPolicyAllRow.kinds == (if Rows.fnExactPolicyAllRow.domain.isEmpty then [] else Tryz.f4.params.toList.map fun t => match Tryz.prog.underlying t with | some (.int k) => some k | _ => none)) = true := by kernel_rfl
theorem k26 : (Rows.fnExactPolicyAllRow.pinned == Rows.fnExactPolicyAllRow.pinnedBy) = true := by kernel_rfl
theorem k27 : (Rows.fnExactPolicyAllRow.veiled == (Tryz.f4.params.toList ++ (OpenSpec.ofChange Rows.fnExactPolicyAllSpec).bare.plain.varTypes Tryz.prog ++ Tryz.f4.resultTypes.toList).any (Tryz.prog.veiledRec ·)) = true := by kernel_rfl
theorem k28 : (Rows.fnExactPolicyAllRow.veiledFits Tryz.prog Tryz.f4.params.toList (Tryz.f4.params.toList ++ (OpenSpec.ofChange Rows.fnExactPolicyAllSpec).bare.plain.varTypes Tryz.prog ++ Tryz.f4.resultTypes.toList)) = true := by kernel_rfl
set_option maxRecDepth 100000 in
theorem closed : joinedFacts Tryz.prog 4 Tryz.f4 (OpenSpec.ofChange Rows.fnExactPolicyAllSpec).bare Rows.fnExactPolicyAllRow = true := and2 (and2 (and2 (and2 (and2 (and2 (and2 (and2 (and2 (and2 (and2 (and2 (and2 (and2 (and2 (and2 (and2 (and2 (and2 (and2 (and2 (and2 (and2 (and2 (and2 (and2 (and2 (and2 (and2 (and2 (and2 k1 fpLaid) fpMaps) k4) k5) k6) fpStops) k8) fpKnobs) k10) k11) k12) k13) k14) k15) k16) k17) k17b) k18) k19) k20) k21) fpPlain) k23) fpHeard) fpEnter) fpLift) fpMake) k25) k26) k27) k28
theorem kw : Rows.fnExactPolicyAllRow.wfByText (OpenSpec.ofChange Rows.fnExactPolicyAllSpec) = true := by kernel_rfl
theorem kg : false = Rows.fnExactPolicyAllRow.goesBy Tryz.pinned.checked.prog := by kernel_rfl
theorem km : laidOutB Tryz.prog = true := fpLaid
end fnExactPolicyAll
end Go.Proofs.YtioppkalehnoaaaGreatDoor
