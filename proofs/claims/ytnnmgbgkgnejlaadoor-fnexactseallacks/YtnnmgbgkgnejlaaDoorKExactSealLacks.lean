/-
  The closed facts of one row, each for itself.
-/
import Derived.Test.YtnnmgbgkgnejlaaDoorCards
import Derived.Test.YtnnmgbgkgnejlaaDoorFacts
namespace Go.Proofs.YtnnmgbgkgnejlaaDoor

namespace fnExactSealLacks
theorem k1 : (Rows.fnExactSealLacksRow.wf (OpenSpec.ofChange (OpenSpec.ofChange Rows.fnExactSealLacksSpec).bare)) = true := by kernel_rfl
theorem k4 : (Tryd.f14.params.all (Tryd.prog.readableRec ·)) = true := by kernel_rfl
theorem k5 : (namedTie Tryd.prog Rows.fnExactSealLacksRow.named (OpenSpec.ofChange Rows.fnExactSealLacksSpec).bare.vars) = true := by kernel_rfl
theorem k6 : (Rows.fnExactSealLacksRow.stops == []) = true := by kernel_rfl
theorem k8 : (Rows.fnExactSealLacksRow.knobs == []) = true := by kernel_rfl
theorem k10 : (Rows.fnExactSealLacksRow.inPlace == Tryd.prog.inPlace 14) = true := by kernel_rfl
theorem k11 : (Rows.fnExactSealLacksRow.unfollowed == Tryd.prog.unfollowed 14) = true := by kernel_rfl
theorem k12 : (Rows.fnExactSealLacksRow.recurses == Tryd.prog.recurses 14) = true := by kernel_rfl
theorem k13 : (Rows.fnExactSealLacksRow.named == Tryd.prog.varsNamed 14) = true := by kernel_rfl
theorem k14 : (Rows.fnExactSealLacksRow.maps == (Tryd.f14.params.toList ++ (OpenSpec.ofChange Rows.fnExactSealLacksSpec).bare.plain.varTypes Tryd.prog).any (Tryd.prog.mapsRec ·)) = true := by kernel_rfl
theorem k15 : (Rows.fnExactSealLacksRow.ifaces == (Tryd.f14.params.toList ++ (OpenSpec.ofChange Rows.fnExactSealLacksSpec).bare.plain.varTypes Tryd.prog).any (Tryd.prog.ifacesRec ·)) = true := by kernel_rfl
theorem k16 : (Rows.fnExactSealLacksRow.mapsOut == Tryd.prog.mapsAmong Tryd.f14.resultTypes.toList) = true := by kernel_rfl
theorem k17 : (Rows.fnExactSealLacksRow.loops == (Tryd.f14.params.toList ++ (OpenSpec.ofChange Rows.fnExactSealLacksSpec).bare.plain.varTypes Tryd.prog).any (Tryd.prog.loopsFrom ·)) = true := by kernel_rfl
theorem k17b : (Rows.fnExactSealLacksRow.wideKeys == (Tryd.f14.params.toList ++ (OpenSpec.ofChange Rows.fnExactSealLacksSpec).bare.plain.varTypes Tryd.prog ++ Tryd.f14.resultTypes.toList).any (Tryd.prog.wideKeysFrom ·)) = true := by kernel_rfl
theorem k18 : ((OpenSpec.ofChange Rows.fnExactSealLacksSpec).bare.vars.all (Tryd.prog.varReadable ·)) = true := by kernel_rfl
theorem k19 : (Tryd.f14.resultTypes.all (fun t => Tryd.prog.readableRec t && decide (t < Tryd.prog.types.size))) = true := by kernel_rfl
theorem k20 : (Rows.fnExactSealLacksRow.ifacesOut == Tryd.f14.resultTypes.toList.any (Tryd.prog.ifacesRec ·)) = true := by kernel_rfl
theorem k21 : (Rows.fnExactSealLacksRow.loopsOut == Tryd.f14.resultTypes.toList.any (Tryd.prog.loopsFrom ·)) = true := by kernel_rfl
theorem k23 : (Rows.fnExactSealLacksRow.shortTexts.isNone) = true := by kernel_rfl
theorem k25 : (Rows.fnExactSealLacksRow.kinds == (if Rows.fnExactSealLacksRow.domain.isEmpty then [] else Tryd.f14.params.toList.map fun t => match Tryd.prog.underlying t with | some (.int k) => some k | _ => none)) = true := by kernel_rfl
theorem k26 : (Rows.fnExactSealLacksRow.pinned == Rows.fnExactSealLacksRow.pinnedBy) = true := by kernel_rfl
theorem k27 : (Rows.fnExactSealLacksRow.veiled == (Tryd.f14.params.toList ++ (OpenSpec.ofChange Rows.fnExactSealLacksSpec).bare.plain.varTypes Tryd.prog ++ Tryd.f14.resultTypes.toList).any (Tryd.prog.veiledRec ·)) = true := by kernel_rfl
theorem k28 : (Rows.fnExactSealLacksRow.veiledFits Tryd.prog Tryd.f14.params.toList (Tryd.f14.params.toList ++ (OpenSpec.ofChange Rows.fnExactSealLacksSpec).bare.plain.varTypes Tryd.prog ++ Tryd.f14.resultTypes.toList)) = true := by kernel_rfl
set_option maxRecDepth 100000 in
theorem closed : joinedFacts Tryd.prog 14 Tryd.f14 (OpenSpec.ofChange Rows.fnExactSealLacksSpec).bare Rows.fnExactSealLacksRow = true := and2 (and2 (and2 (and2 (and2 (and2 (and2 (and2 (and2 (and2 (and2 (and2 (and2 (and2 (and2 (and2 (and2 (and2 (and2 (and2 (and2 (and2 (and2 (and2 (and2 (and2 (and2 (and2 (and2 (and2 (and2 k1 fpLaid) fpMaps) k4) k5) k6) fpStops) k8) fpKnobs) k10) k11) k12) k13) k14) k15) k16) k17) k17b) k18) k19) k20) k21) fpPlain) k23) fpHeard) fpEnter) fpLift) fpMake) k25) k26) k27) k28
theorem kw : Rows.fnExactSealLacksRow.wfByText (OpenSpec.ofChange Rows.fnExactSealLacksSpec) = true := by kernel_rfl
theorem kg : false = Rows.fnExactSealLacksRow.goesBy Tryd.pinned.checked.prog := by kernel_rfl
theorem km : laidOutB Tryd.prog = true := fpLaid
end fnExactSealLacks
end Go.Proofs.YtnnmgbgkgnejlaaDoor
