/-
  The closed facts of one row, each for itself.
-/
import Derived.Test.YtnnmgbgkgnejlaaDoorCards
import Derived.Test.YtnnmgbgkgnejlaaDoorFacts
namespace Go.Proofs.YtnnmgbgkgnejlaaDoor

namespace fnSealTold
theorem k1 : (Rows.fnSealToldRow.wf (OpenSpec.ofChange (OpenSpec.ofChange Rows.fnSealToldSpec).bare)) = true := by kernel_rfl
theorem k4 : (Tryd.f11.params.all (Tryd.prog.readableRec ·)) = true := by kernel_rfl
theorem k5 : (namedTie Tryd.prog Rows.fnSealToldRow.named (OpenSpec.ofChange Rows.fnSealToldSpec).bare.vars) = true := by kernel_rfl
theorem k6 : (Rows.fnSealToldRow.stops == []) = true := by kernel_rfl
theorem k8 : (Rows.fnSealToldRow.knobs == []) = true := by kernel_rfl
theorem k10 : (Rows.fnSealToldRow.inPlace == Tryd.prog.inPlace 11) = true := by kernel_rfl
theorem k11 : (Rows.fnSealToldRow.unfollowed == Tryd.prog.unfollowed 11) = true := by kernel_rfl
theorem k12 : (Rows.fnSealToldRow.recurses == Tryd.prog.recurses 11) = true := by kernel_rfl
theorem k13 : (Rows.fnSealToldRow.named == Tryd.prog.varsNamed 11) = true := by kernel_rfl
theorem k14 : (Rows.fnSealToldRow.maps == (Tryd.f11.params.toList ++ (OpenSpec.ofChange Rows.fnSealToldSpec).bare.plain.varTypes Tryd.prog).any (Tryd.prog.mapsRec ·)) = true := by kernel_rfl
theorem k15 : (Rows.fnSealToldRow.ifaces == (Tryd.f11.params.toList ++ (OpenSpec.ofChange Rows.fnSealToldSpec).bare.plain.varTypes Tryd.prog).any (Tryd.prog.ifacesRec ·)) = true := by kernel_rfl
theorem k16 : (Rows.fnSealToldRow.mapsOut == Tryd.prog.mapsAmong Tryd.f11.resultTypes.toList) = true := by kernel_rfl
theorem k17 : (Rows.fnSealToldRow.loops == (Tryd.f11.params.toList ++ (OpenSpec.ofChange Rows.fnSealToldSpec).bare.plain.varTypes Tryd.prog).any (Tryd.prog.loopsFrom ·)) = true := by kernel_rfl
theorem k17b : (Rows.fnSealToldRow.wideKeys == (Tryd.f11.params.toList ++ (OpenSpec.ofChange Rows.fnSealToldSpec).bare.plain.varTypes Tryd.prog ++ Tryd.f11.resultTypes.toList).any (Tryd.prog.wideKeysFrom ·)) = true := by kernel_rfl
theorem k18 : ((OpenSpec.ofChange Rows.fnSealToldSpec).bare.vars.all (Tryd.prog.varReadable ·)) = true := by kernel_rfl
theorem k19 : (Tryd.f11.resultTypes.all (fun t => Tryd.prog.readableRec t && decide (t < Tryd.prog.types.size))) = true := by kernel_rfl
theorem k20 : (Rows.fnSealToldRow.ifacesOut == Tryd.f11.resultTypes.toList.any (Tryd.prog.ifacesRec ·)) = true := by kernel_rfl
theorem k21 : (Rows.fnSealToldRow.loopsOut == Tryd.f11.resultTypes.toList.any (Tryd.prog.loopsFrom ·)) = true := by kernel_rfl
theorem k23 : (Rows.fnSealToldRow.shortTexts.isNone) = true := by kernel_rfl
theorem k25 : (Rows.fnSealToldRow.kinds == (if Rows.fnSealToldRow.domain.isEmpty then [] else Tryd.f11.params.toList.map fun t => match Tryd.prog.underlying t with | some (.int k) => some k | _ => none)) = true := by kernel_rfl
theorem k26 : (Rows.fnSealToldRow.pinned == Rows.fnSealToldRow.pinnedBy) = true := by kernel_rfl
theorem k27 : (Rows.fnSealToldRow.veiled == (Tryd.f11.params.toList ++ (OpenSpec.ofChange Rows.fnSealToldSpec).bare.plain.varTypes Tryd.prog ++ Tryd.f11.resultTypes.toList).any (Tryd.prog.veiledRec ·)) = true := by kernel_rfl
theorem k28 : (Rows.fnSealToldRow.veiledFits Tryd.prog Tryd.f11.params.toList (Tryd.f11.params.toList ++ (OpenSpec.ofChange Rows.fnSealToldSpec).bare.plain.varTypes Tryd.prog ++ Tryd.f11.resultTypes.toList)) = true := by kernel_rfl
set_option maxRecDepth 100000 in
theorem closed : joinedFacts Tryd.prog 11 Tryd.f11 (OpenSpec.ofChange Rows.fnSealToldSpec).bare Rows.fnSealToldRow = true := and2 (and2 (and2 (and2 (and2 (and2 (and2 (and2 (and2 (and2 (and2 (and2 (and2 (and2 (and2 (and2 (and2 (and2 (and2 (and2 (and2 (and2 (and2 (and2 (and2 (and2 (and2 (and2 (and2 (and2 (and2 k1 fpLaid) fpMaps) k4) k5) k6) fpStops) k8) fpKnobs) k10) k11) k12) k13) k14) k15) k16) k17) k17b) k18) k19) k20) k21) fpPlain) k23) fpHeard) fpEnter) fpLift) fpMake) k25) k26) k27) k28
theorem kw : Rows.fnSealToldRow.wfByText (OpenSpec.ofChange Rows.fnSealToldSpec) = true := by kernel_rfl
theorem kg : false = Rows.fnSealToldRow.goesBy Tryd.pinned.checked.prog := by kernel_rfl
theorem km : laidOutB Tryd.prog = true := fpLaid
end fnSealTold
end Go.Proofs.YtnnmgbgkgnejlaaDoor
