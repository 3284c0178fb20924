/-
  The closed facts of one row, each for itself.
-/
import Derived.Test.YtnnmgbgkgnejlaaDoorCards
import Derived.Test.YtnnmgbgkgnejlaaDoorFacts
namespace Go.Proofs.YtnnmgbgkgnejlaaDoor

namespace fnExactSealHas
theorem k1 : (Rows.fnExactSealHasRow.wf (OpenSpec.ofChange (OpenSpec.ofChange Rows.fnExactSealHasSpec).bare)) = true := by kernel_rfl
theorem k4 : (Tryd.f13.params.all (Tryd.prog.readableRec ·)) = true := by kernel_rfl
theorem k5 : (namedTie Tryd.prog Rows.fnExactSealHasRow.named (OpenSpec.ofChange Rows.fnExactSealHasSpec).bare.vars) = true := by kernel_rfl
theorem k6 : (Rows.fnExactSealHasRow.stops == []) = true := by kernel_rfl
theorem k8 : (Rows.fnExactSealHasRow.knobs == []) = true := by kernel_rfl
theorem k10 : (Rows.fnExactSealHasRow.inPlace == Tryd.prog.inPlace 13) = true := by kernel_rfl
theorem k11 : (Rows.fnExactSealHasRow.unfollowed == Tryd.prog.unfollowed 13) = true := by kernel_rfl
theorem k12 : (Rows.fnExactSealHasRow.recurses == Tryd.prog.recurses 13) = true := by kernel_rfl
theorem k13 : (Rows.fnExactSealHasRow.named == Tryd.prog.varsNamed 13) = true := by kernel_rfl
theorem k14 : (Rows.fnExactSealHasRow.maps == (Tryd.f13.params.toList ++ (OpenSpec.ofChange Rows.fnExactSealHasSpec).bare.plain.varTypes Tryd.prog).any (Tryd.prog.mapsRec ·)) = true := by kernel_rfl
theorem k15 : (Rows.fnExactSealHasRow.ifaces == (Tryd.f13.params.toList ++ (OpenSpec.ofChange Rows.fnExactSealHasSpec).bare.plain.varTypes Tryd.prog).any (Tryd.prog.ifacesRec ·)) = true := by kernel_rfl
theorem k16 : (Rows.fnExactSealHasRow.mapsOut == Tryd.prog.mapsAmong Tryd.f13.resultTypes.toList) = true := by kernel_rfl
theorem k17 : (Rows.fnExactSealHasRow.loops == (Tryd.f13.params.toList ++ (OpenSpec.ofChange Rows.fnExactSealHasSpec).bare.plain.varTypes Tryd.prog).any (Tryd.prog.loopsFrom ·)) = true := by kernel_rfl
theorem k17b : (Rows.fnExactSealHasRow.wideKeys == (Tryd.f13.params.toList ++ (OpenSpec.ofChange Rows.fnExactSealHasSpec).bare.plain.varTypes Tryd.prog ++ Tryd.f13.resultTypes.toList).any (Tryd.prog.wideKeysFrom ·)) = true := by kernel_rfl
theorem k18 : ((OpenSpec.ofChange Rows.fnExactSealHasSpec).bare.vars.all (Tryd.prog.varReadable ·)) = true := by kernel_rfl
theorem k19 : (Tryd.f13.resultTypes.all (fun t => Tryd.prog.readableRec t && decide (t < Tryd.prog.types.size))) = true := by kernel_rfl
theorem k20 : (Rows.fnExactSealHasRow.ifacesOut == Tryd.f13.resultTypes.toList.any (Tryd.prog.ifacesRec ·)) = true := by kernel_rfl
theorem k21 : (Rows.fnExactSealHasRow.loopsOut == Tryd.f13.resultTypes.toList.any (Tryd.prog.loopsFrom ·)) = true := by kernel_rfl
theorem k23 : (Rows.fnExactSealHasRow.shortTexts.isNone) = true := by kernel_rfl
theorem k25 : (Rows.fnExactSealHasRow.kinds == (if Rows.fnExactSealHasRow.domain.isEmpty then [] else Tryd.f13.params.toList.map fun t => match Tryd.prog.underlying t with | some (.int k) => some k | _ => none)) = true := by kernel_rfl
theorem k26 : (Rows.fnExactSealHasRow.pinned == Rows.fnExactSealHasRow.pinnedBy) = true := by kernel_rfl
theorem k27 : (Rows.fnExactSealHasRow.veiled == (Tryd.f13.params.toList ++ (OpenSpec.ofChange Rows.fnExactSealHasSpec).bare.plain.varTypes Tryd.prog ++ Tryd.f13.resultTypes.toList).any (Tryd.prog.veiledRec ·)) = true := by kernel_rfl
theorem k28 : (Rows.fnExactSealHasRow.veiledFits Tryd.prog Tryd.f13.params.toList (Tryd.f13.params.toList ++ (OpenSpec.ofChange Rows.fnExactSealHasSpec).bare.plain.varTypes Tryd.prog ++ Tryd.f13.resultTypes.toList)) = true := by kernel_rfl
set_option maxRecDepth 100000 in
theorem closed : joinedFacts Tryd.prog 13 Tryd.f13 (OpenSpec.ofChange Rows.fnExactSealHasSpec).bare Rows.fnExactSealHasRow = true := and2 (and2 (and2 (and2 (and2 (and2 (and2 (and2 (and2 (and2 (and2 (and2 (and2 (and2 (and2 (and2 (and2 (and2 (and2 (and2 (and2 (and2 (and2 (and2 (and2 (and2 (and2 (and2 (and2 (and2 (and2 k1 fpLaid) fpMaps) k4) k5) k6) fpStops) k8) fpKnobs) k10) k11) k12) k13) k14) k15) k16) k17) k17b) k18) k19) k20) k21) fpPlain) k23) fpHeard) fpEnter) fpLift) fpMake) k25) k26) k27) k28
theorem kw : Rows.fnExactSealHasRow.wfByText (OpenSpec.ofChange Rows.fnExactSealHasSpec) = true := by kernel_rfl
theorem kg : false = Rows.fnExactSealHasRow.goesBy Tryd.pinned.checked.prog := by kernel_rfl
theorem km : laidOutB Tryd.prog = true := fpLaid
end fnExactSealHas
end Go.Proofs.YtnnmgbgkgnejlaaDoor
