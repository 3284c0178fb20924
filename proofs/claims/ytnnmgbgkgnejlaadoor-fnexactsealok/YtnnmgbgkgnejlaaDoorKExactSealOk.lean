/-
  The closed facts of one row, each for itself.
-/
import Derived.Test.YtnnmgbgkgnejlaaDoorCards
import Derived.Test.YtnnmgbgkgnejlaaDoorFacts
namespace Go.Proofs.YtnnmgbgkgnejlaaDoor

namespace fnExactSealOk
theorem k1 : (Rows.fnExactSealOkRow.wf (OpenSpec.ofChange (OpenSpec.ofChange Rows.fnExactSealOkSpec).bare)) = true := by kernel_rfl
theorem k4 : (Tryd.f15.params.all (Tryd.prog.readableRec ·)) = true := by kernel_rfl
theorem k5 : (namedTie Tryd.prog Rows.fnExactSealOkRow.named (OpenSpec.ofChange Rows.fnExactSealOkSpec).bare.vars) = true := by kernel_rfl
theorem k6 : (Rows.fnExactSealOkRow.stops == []) = true := by kernel_rfl
theorem k8 : (Rows.fnExactSealOkRow.knobs == []) = true := by kernel_rfl
theorem k10 : (Rows.fnExactSealOkRow.inPlace == Tryd.prog.inPlace 15) = true := by kernel_rfl
theorem k11 : (Rows.fnExactSealOkRow.unfollowed == Tryd.prog.unfollowed 15) = true := by kernel_rfl
theorem k12 : (Rows.fnExactSealOkRow.recurses == Tryd.prog.recurses 15) = true := by kernel_rfl
theorem k13 : (Rows.fnExactSealOkRow.named == Tryd.prog.varsNamed 15) = true := by kernel_rfl
theorem k14 : (Rows.fnExactSealOkRow.maps == (Tryd.f15.params.toList ++ (OpenSpec.ofChange Rows.fnExactSealOkSpec).bare.plain.varTypes Tryd.prog).any (Tryd.prog.mapsRec ·)) = true := by kernel_rfl
theorem k15 : (Rows.fnExactSealOkRow.ifaces == (Tryd.f15.params.toList ++ (OpenSpec.ofChange Rows.fnExactSealOkSpec).bare.plain.varTypes Tryd.prog).any (Tryd.prog.ifacesRec ·)) = true := by kernel_rfl
theorem k16 : (Rows.fnExactSealOkRow.mapsOut == Tryd.prog.mapsAmong Tryd.f15.resultTypes.toList) = true := by kernel_rfl
theorem k17 : (Rows.fnExactSealOkRow.loops == (Tryd.f15.params.toList ++ (OpenSpec.ofChange Rows.fnExactSealOkSpec).bare.plain.varTypes Tryd.prog).any (Tryd.prog.loopsFrom ·)) = true := by kernel_rfl
theorem k17b : (Rows.fnExactSealOkRow.wideKeys == (Tryd.f15.params.toList ++ (OpenSpec.ofChange Rows.fnExactSealOkSpec).bare.plain.varTypes Tryd.prog ++ Tryd.f15.resultTypes.toList).any (Tryd.prog.wideKeysFrom ·)) = true := by kernel_rfl
theorem k18 : ((OpenSpec.ofChange Rows.fnExactSealOkSpec).bare.vars.all (Tryd.prog.varReadable ·)) = true := by kernel_rfl
theorem k19 : (Tryd.f15.resultTypes.all (fun t => Tryd.prog.readableRec t && decide (t < Tryd.prog.types.size))) = true := by kernel_rfl
theorem k20 : (Rows.fnExactSealOkRow.ifacesOut == Tryd.f15.resultTypes.toList.any (Tryd.prog.ifacesRec ·)) = true := by kernel_rfl
theorem k21 : (Rows.fnExactSealOkRow.loopsOut == Tryd.f15.resultTypes.toList.any (Tryd.prog.loopsFrom ·)) = true := by kernel_rfl
theorem k23 : (Rows.fnExactSealOkRow.shortTexts.isNone) = true := by kernel_rfl
theorem k25 : (Rows.fnExactSealOkRow.kinds == (if Rows.fnExactSealOkRow.domain.isEmpty then [] else Tryd.f15.params.toList.map fun t => match Tryd.prog.underlying t with | some (.int k) => some k | _ => none)) = true := by kernel_rfl
theorem k26 : (Rows.fnExactSealOkRow.pinned == Rows.fnExactSealOkRow.pinnedBy) = true := by kernel_rfl
theorem k27 : (Rows.fnExactSealOkRow.veiled == (Tryd.f15.params.toList ++ (OpenSpec.ofChange Rows.fnExactSealOkSpec).bare.plain.varTypes Tryd.prog ++ Tryd.f15.resultTypes.toList).any (Tryd.prog.veiledRec ·)) = true := by kernel_rfl
theorem k28 : (Rows.fnExactSealOkRow.veiledFits Tryd.prog Tryd.f15.params.toList (Tryd.f15.params.toList ++ (OpenSpec.ofChange Rows.fnExactSealOkSpec).bare.plain.varTypes Tryd.prog ++ Tryd.f15.resultTypes.toList)) = true := by kernel_rfl
set_option maxRecDepth 100000 in
theorem closed : joinedFacts Tryd.prog 15 Tryd.f15 (OpenSpec.ofChange Rows.fnExactSealOkSpec).bare Rows.fnExactSealOkRow = true := and2 (and2 (and2 (and2 (and2 (and2 (and2 (and2 (and2 (and2 (and2 (and2 (and2 (and2 (and2 (and2 (and2 (and2 (and2 (and2 (and2 (and2 (and2 (and2 (and2 (and2 (and2 (and2 (and2 (and2 (and2 k1 fpLaid) fpMaps) k4) k5) k6) fpStops) k8) fpKnobs) k10) k11) k12) k13) k14) k15) k16) k17) k17b) k18) k19) k20) k21) fpPlain) k23) fpHeard) fpEnter) fpLift) fpMake) k25) k26) k27) k28
theorem kw : Rows.fnExactSealOkRow.wfByText (OpenSpec.ofChange Rows.fnExactSealOkSpec) = true := by kernel_rfl
theorem kg : false = Rows.fnExactSealOkRow.goesBy Tryd.pinned.checked.prog := by kernel_rfl
theorem km : laidOutB Tryd.prog = true := fpLaid
end fnExactSealOk
end Go.Proofs.YtnnmgbgkgnejlaaDoor
