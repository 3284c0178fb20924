/-
  The closed facts of one row, each for itself.
-/
import Derived.Test.YtnnmgbgkgnejlaaDoorCards
import Derived.Test.YtnnmgbgkgnejlaaDoorFacts
namespace Go.Proofs.YtnnmgbgkgnejlaaDoor

namespace fnSealLacks
theorem k1 : (Rows.fnSealLacksRow.wf (OpenSpec.ofChange (OpenSpec.ofChange Rows.fnSealLacksSpec).bare)) = true := by kernel_rfl
theorem k4 : (Tryd.f5.params.all (Tryd.prog.readableRec ·)) = true := by kernel_rfl
theorem k5 : (namedTie Tryd.prog Rows.fnSealLacksRow.named (OpenSpec.ofChange Rows.fnSealLacksSpec).bare.vars) = true := by kernel_rfl
theorem k6 : (Rows.fnSealLacksRow.stops == []) = true := by kernel_rfl
theorem k8 : (Rows.fnSealLacksRow.knobs == []) = true := by kernel_rfl
theorem k10 : (Rows.fnSealLacksRow.inPlace == Tryd.prog.inPlace 5) = true := by kernel_rfl
theorem k11 : (Rows.fnSealLacksRow.unfollowed == Tryd.prog.unfollowed 5) = true := by kernel_rfl
theorem k12 : (Rows.fnSealLacksRow.recurses == Tryd.prog.recurses 5) = true := by kernel_rfl
theorem k13 : (Rows.fnSealLacksRow.named == Tryd.prog.varsNamed 5) = true := by kernel_rfl
theorem k14 : (Rows.fnSealLacksRow.maps == (Tryd.f5.params.toList ++ (OpenSpec.ofChange Rows.fnSealLacksSpec).bare.plain.varTypes Tryd.prog).any (Tryd.prog.mapsRec ·)) = true := by kernel_rfl
theorem k15 : (Rows.fnSealLacksRow.ifaces == (Tryd.f5.params.toList ++ (OpenSpec.ofChange Rows.fnSealLacksSpec).bare.plain.varTypes Tryd.prog).any (Tryd.prog.ifacesRec ·)) = true := by kernel_rfl
theorem k16 : (Rows.fnSealLacksRow.mapsOut == Tryd.prog.mapsAmong Tryd.f5.resultTypes.toList) = true := by kernel_rfl
theorem k17 : (Rows.fnSealLacksRow.loops == (Tryd.f5.params.toList ++ (OpenSpec.ofChange Rows.fnSealLacksSpec).bare.plain.varTypes Tryd.prog).any (Tryd.prog.loopsFrom ·)) = true := by kernel_rfl
theorem k17b : (Rows.fnSealLacksRow.wideKeys == (Tryd.f5.params.toList ++ (OpenSpec.ofChange Rows.fnSealLacksSpec).bare.plain.varTypes Tryd.prog ++ Tryd.f5.resultTypes.toList).any (Tryd.prog.wideKeysFrom ·)) = true := by kernel_rfl
theorem k18 : ((OpenSpec.ofChange Rows.fnSealLacksSpec).bare.vars.all (Tryd.prog.varReadable ·)) = true := by kernel_rfl
theorem k19 : (Tryd.f5.resultTypes.all (fun t => Tryd.prog.readableRec t && decide (t < Tryd.prog.types.size))) = true := by kernel_rfl
theorem k20 : (Rows.fnSealLacksRow.ifacesOut == Tryd.f5.resultTypes.toList.any (Tryd.prog.ifacesRec ·)) = true := by kernel_rfl
theorem k21 : (Rows.fnSealLacksRow.loopsOut == Tryd.f5.resultTypes.toList.any (Tryd.prog.loopsFrom ·)) = true := by kernel_rfl
theorem k23 : (Rows.fnSealLacksRow.shortTexts.isNone) = true := by kernel_rfl
theorem k25 : (Rows.fnSealLacksRow.kinds == (if Rows.fnSealLacksRow.domain.isEmpty then [] else Tryd.f5.params.toList.map fun t => match Tryd.prog.underlying t with | some (.int k) => some k | _ => none)) = true := by kernel_rfl
theorem k26 : (Rows.fnSealLacksRow.pinned == Rows.fnSealLacksRow.pinnedBy) = true := by kernel_rfl
theorem k27 : (Rows.fnSealLacksRow.veiled == (Tryd.f5.params.toList ++ (OpenSpec.ofChange Rows.fnSealLacksSpec).bare.plain.varTypes Tryd.prog ++ Tryd.f5.resultTypes.toList).any (Tryd.prog.veiledRec ·)) = true := by kernel_rfl
theorem k28 : (Rows.fnSealLacksRow.veiledFits Tryd.prog Tryd.f5.params.toList (Tryd.f5.params.toList ++ (OpenSpec.ofChange Rows.fnSealLacksSpec).bare.plain.varTypes Tryd.prog ++ Tryd.f5.resultTypes.toList)) = true := by kernel_rfl
set_option maxRecDepth 100000 in
theorem closed : joinedFacts Tryd.prog 5 Tryd.f5 (OpenSpec.ofChange Rows.fnSealLacksSpec).bare Rows.fnSealLacksRow = true := and2 (and2 (and2 (and2 (and2 (and2 (and2 (and2 (and2 (and2 (and2 (and2 (and2 (and2 (and2 (and2 (and2 (and2 (and2 (and2 (and2 (and2 (and2 (and2 (and2 (and2 (and2 (and2 (and2 (and2 (and2 k1 fpLaid) fpMaps) k4) k5) k6) fpStops) k8) fpKnobs) k10) k11) k12) k13) k14) k15) k16) k17) k17b) k18) k19) k20) k21) fpPlain) k23) fpHeard) fpEnter) fpLift) fpMake) k25) k26) k27) k28
theorem kw : Rows.fnSealLacksRow.wfByText (OpenSpec.ofChange Rows.fnSealLacksSpec) = true := by kernel_rfl
theorem kg : false = Rows.fnSealLacksRow.goesBy Tryd.pinned.checked.prog := by kernel_rfl
theorem km : laidOutB Tryd.prog = true := fpLaid
end fnSealLacks
end Go.Proofs.YtnnmgbgkgnejlaaDoor
