/-
  The closed facts of one row, each for itself.
-/
import Derived.Test.YtnnmgbgkgnejlaaDoorCards
import Derived.Test.YtnnmgbgkgnejlaaDoorFacts
namespace Go.Proofs.YtnnmgbgkgnejlaaDoor

namespace fnSealHas
theorem k1 : (Rows.fnSealHasRow.wf (OpenSpec.ofChange (OpenSpec.ofChange Rows.fnSealHasSpec).bare)) = true := by kernel_rfl
theorem k4 : (Tryd.f4.params.all (Tryd.prog.readableRec ·)) = true := by kernel_rfl
theorem k5 : (namedTie Tryd.prog Rows.fnSealHasRow.named (OpenSpec.ofChange Rows.fnSealHasSpec).bare.vars) = true := by kernel_rfl
theorem k6 : (Rows.fnSealHasRow.stops == []) = true := by kernel_rfl
theorem k8 : (Rows.fnSealHasRow.knobs == []) = true := by kernel_rfl
theorem k10 : (Rows.fnSealHasRow.inPlace == Tryd.prog.inPlace 4) = true := by kernel_rfl
theorem k11 : (Rows.fnSealHasRow.unfollowed == Tryd.prog.unfollowed 4) = true := by kernel_rfl
theorem k12 : (Rows.fnSealHasRow.recurses == Tryd.prog.recurses 4) = true := by kernel_rfl
theorem k13 : (Rows.fnSealHasRow.named == Tryd.prog.varsNamed 4) = true := by kernel_rfl
theorem k14 : (Rows.fnSealHasRow.maps == (Tryd.f4.params.toList ++ (OpenSpec.ofChange Rows.fnSealHasSpec).bare.plain.varTypes Tryd.prog).any (Tryd.prog.mapsRec ·)) = true := by kernel_rfl
theorem k15 : (Rows.fnSealHasRow.ifaces == (Tryd.f4.params.toList ++ (OpenSpec.ofChange Rows.fnSealHasSpec).bare.plain.varTypes Tryd.prog).any (Tryd.prog.ifacesRec ·)) = true := by kernel_rfl
theorem k16 : (Rows.fnSealHasRow.mapsOut == Tryd.prog.mapsAmong Tryd.f4.resultTypes.toList) = true := by kernel_rfl
theorem k17 : (Rows.fnSealHasRow.loops == (Tryd.f4.params.toList ++ (OpenSpec.ofChange Rows.fnSealHasSpec).bare.plain.varTypes Tryd.prog).any (Tryd.prog.loopsFrom ·)) = true := by kernel_rfl
theorem k17b : (Rows.fnSealHasRow.wideKeys == (Tryd.f4.params.toList ++ (OpenSpec.ofChange Rows.fnSealHasSpec).bare.plain.varTypes Tryd.prog ++ Tryd.f4.resultTypes.toList).any (Tryd.prog.wideKeysFrom ·)) = true := by kernel_rfl
theorem k18 : ((OpenSpec.ofChange Rows.fnSealHasSpec).bare.vars.all (Tryd.prog.varReadable ·)) = true := by kernel_rfl
theorem k19 : (Tryd.f4.resultTypes.all (fun t => Tryd.prog.readableRec t && decide (t < Tryd.prog.types.size))) = true := by kernel_rfl
theorem k20 : (Rows.fnSealHasRow.ifacesOut == Tryd.f4.resultTypes.toList.any (Tryd.prog.ifacesRec ·)) = true := by kernel_rfl
theorem k21 : (Rows.fnSealHasRow.loopsOut == Tryd.f4.resultTypes.toList.any (Tryd.prog.loopsFrom ·)) = true := by kernel_rfl
theorem k23 : (Rows.fnSealHasRow.shortTexts.isNone) = true := by kernel_rfl
theorem k25 : (Rows.fnSealHasRow.kinds == (if Rows.fnSealHasRow.domain.isEmpty then [] else Tryd.f4.params.toList.map fun t => match Tryd.prog.underlying t with | some (.int k) => some k | _ => none)) = true := by kernel_rfl
theorem k26 : (Rows.fnSealHasRow.pinned == Rows.fnSealHasRow.pinnedBy) = true := by kernel_rfl
theorem k27 : (Rows.fnSealHasRow.veiled == (Tryd.f4.params.toList ++ (OpenSpec.ofChange Rows.fnSealHasSpec).bare.plain.varTypes Tryd.prog ++ Tryd.f4.resultTypes.toList).any (Tryd.prog.veiledRec ·)) = true := by kernel_rfl
theorem k28 : (Rows.fnSealHasRow.veiledFits Tryd.prog Tryd.f4.params.toList (Tryd.f4.params.toList ++ (OpenSpec.ofChange Rows.fnSealHasSpec).bare.plain.varTypes Tryd.prog ++ Tryd.f4.resultTypes.toList)) = true := by kernel_rfl
set_option maxRecDepth 100000 in
theorem closed : joinedFacts Tryd.prog 4 Tryd.f4 (OpenSpec.ofChange Rows.fnSealHasSpec).bare Rows.fnSealHasRow = true := and2 (and2 (and2 (and2 (and2 (and2 (and2 (and2 (and2 (and2 (and2 (and2 (and2 (and2 (and2 (and2 (and2 (and2 (and2 (and2 (and2 (and2 (and2 (and2 (and2 (and2 (and2 (and2 (and2 (and2 (and2 k1 fpLaid) fpMaps) k4) k5) k6) fpStops) k8) fpKnobs) k10) k11) k12) k13) k14) k15) k16) k17) k17b) k18) k19) k20) k21) fpPlain) k23) fpHeard) fpEnter) fpLift) fpMake) k25) k26) k27) k28
theorem kw : Rows.fnSealHasRow.wfByText (OpenSpec.ofChange Rows.fnSealHasSpec) = true := by kernel_rfl
theorem kg : false = Rows.fnSealHasRow.goesBy Tryd.pinned.checked.prog := by kernel_rfl
theorem km : laidOutB Tryd.prog = true := fpLaid
end fnSealHas
end Go.Proofs.YtnnmgbgkgnejlaaDoor
