/-
  The closed facts of one row, each for itself.
-/
import Derived.Test.YtioppkalehnoaaaDoorCards
import Derived.Test.YtioppkalehnoaaaDoorFacts
namespace Go.Proofs.YtioppkalehnoaaaDoor

namespace fnPolicyFirst
theorem k1 : (Rows.fnPolicyFirstRow.wf (OpenSpec.ofChange (OpenSpec.ofChange Rows.fnPolicyFirstSpec).bare)) = true := by kernel_rfl
theorem k4 : (Tryd.f10.params.all (Tryd.prog.readableRec ·)) = true := by kernel_rfl
theorem k5 : (namedTie Tryd.prog Rows.fnPolicyFirstRow.named (OpenSpec.ofChange Rows.fnPolicyFirstSpec).bare.vars) = true := by kernel_rfl
theorem k6 : (Rows.fnPolicyFirstRow.stops == []) = true := by kernel_rfl
theorem k8 : (Rows.fnPolicyFirstRow.knobs == []) = true := by kernel_rfl
theorem k10 : (Rows.fnPolicyFirstRow.inPlace == Tryd.prog.inPlace 10) = true := by kernel_rfl
theorem k11 : (Rows.fnPolicyFirstRow.unfollowed == Tryd.prog.unfollowed 10) = true := by kernel_rfl
theorem k12 : (Rows.fnPolicyFirstRow.recurses == Tryd.prog.recurses 10) = true := by kernel_rfl
theorem k13 : (Rows.fnPolicyFirstRow.named == Tryd.prog.varsNamed 10) = true := by kernel_rfl
theorem k14 : (Rows.fnPolicyFirstRow.maps == (Tryd.f10.params.toList ++ (OpenSpec.ofChange Rows.fnPolicyFirstSpec).bare.plain.varTypes Tryd.prog).any (Tryd.prog.mapsRec ·)) = true := by kernel_rfl
theorem k15 : (Rows.fnPolicyFirstRow.ifaces == (Tryd.f10.params.toList ++ (OpenSpec.ofChange Rows.fnPolicyFirstSpec).bare.plain.varTypes Tryd.prog).any (Tryd.prog.ifacesRec ·)) = true := by kernel_rfl
theorem k16 : (Rows.fnPolicyFirstRow.mapsOut == Tryd.prog.mapsAmong Tryd.f10.resultTypes.toList) = true := by kernel_rfl
theorem k17 : (Rows.fnPolicyFirstRow.loops == (Tryd.f10.params.toList ++ (OpenSpec.ofChange Rows.fnPolicyFirstSpec).bare.plain.varTypes Tryd.prog).any (Tryd.prog.loopsFrom ·)) = true := by kernel_rfl
theorem k17b : (Rows.fnPolicyFirstRow.wideKeys == (Tryd.f10.params.toList ++ (OpenSpec.ofChange Rows.fnPolicyFirstSpec).bare.plain.varTypes Tryd.prog ++ Tryd.f10.resultTypes.toList).any (Tryd.prog.wideKeysFrom ·)) = true := by kernel_rfl
theorem k18 : ((OpenSpec.ofChange Rows.fnPolicyFirstSpec).bare.vars.all (Tryd.prog.varReadable ·)) = true := by kernel_rfl
theorem k19 : (Tryd.f10.resultTypes.all (fun t => Tryd.prog.readableRec t && decide (t < Tryd.prog.types.size))) = true := by kernel_rfl
theorem k20 : (Rows.fnPolicyFirstRow.ifacesOut == Tryd.f10.resultTypes.toList.any (Tryd.prog.ifacesRec ·)) = true := by kernel_rfl
theorem k21 : (Rows.fnPolicyFirstRow.loopsOut == Tryd.f10.resultTypes.toList.any (Tryd.prog.loopsFrom ·)) = true := by kernel_rfl
theorem k23 : (Rows.fnPolicyFirstRow.shortTexts.isNone) = true := by kernel_rfl
theorem k25 : (Rows.fnPolicyFirstRow.kinds == (if Rows.fnPolicyFirstRow.domain.isEmpty then [] else Tryd.f10.params.toList.map fun t => match Tryd.prog.underlying t with | some (.int k) => some k | _ => none)) = true := by kernel_rfl
theorem k26 : (Rows.fnPolicyFirstRow.pinned == Rows.fnPolicyFirstRow.pinnedBy) = true := by kernel_rfl
theorem k27 : (Rows.fnPolicyFirstRow.veiled == (Tryd.f10.params.toList ++ (OpenSpec.ofChange Rows.fnPolicyFirstSpec).bare.plain.varTypes Tryd.prog ++ Tryd.f10.resultTypes.toList).any (Tryd.prog.veiledRec ·)) = true := by kernel_rfl
theorem k28 : (Rows.fnPolicyFirstRow.veiledFits Tryd.prog Tryd.f10.params.toList (Tryd.f10.params.toList ++ (OpenSpec.ofChange Rows.fnPolicyFirstSpec).bare.plain.varTypes Tryd.prog ++ Tryd.f10.resultTypes.toList)) = true := by kernel_rfl
set_option maxRecDepth 100000 in
theorem closed : joinedFacts Tryd.prog 10 Tryd.f10 (OpenSpec.ofChange Rows.fnPolicyFirstSpec).bare Rows.fnPolicyFirstRow = true := and2 (and2 (and2 (and2 (and2 (and2 (and2 (and2 (and2 (and2 (and2 (and2 (and2 (and2 (and2 (and2 (and2 (and2 (and2 (and2 (and2 (and2 (and2 (and2 (and2 (and2 (and2 (and2 (and2 (and2 (and2 k1 fpLaid) fpMaps) k4) k5) k6) fpStops) k8) fpKnobs) k10) k11) k12) k13) k14) k15) k16) k17) k17b) k18) k19) k20) k21) fpPlain) k23) fpHeard) fpEnter) fpLift) fpMake) k25) k26) k27) k28
theorem kw : Rows.fnPolicyFirstRow.wfByText (OpenSpec.ofChange Rows.fnPolicyFirstSpec) = true := by kernel_rfl
theorem kg : false = Rows.fnPolicyFirstRow.goesBy Tryd.pinned.checked.prog := by kernel_rfl
theorem km : laidOutB Tryd.prog = true := fpLaid
end fnPolicyFirst
end Go.Proofs.YtioppkalehnoaaaDoor
