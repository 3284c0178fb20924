/-
  The closed facts of one row, each for itself.
-/
import Derived.Test.YtnnmgbgkgnejlaaDoorCards
import Derived.Test.YtnnmgbgkgnejlaaDoorFacts
namespace Go.Proofs.YtnnmgbgkgnejlaaDoor

namespace fnExactSealMake
theorem k1 : (Rows.fnExactSealMakeRow.wf (OpenSpec.ofChange (OpenSpec.ofChange Rows.fnExactSealMakeSpec).bare)) = true := by kernel_rfl
theorem k4 : (Tryd.f12.params.all (Tryd.prog.readableRec ·)) = true := by kernel_rfl
theorem k5 : (namedTie Tryd.prog Rows.fnExactSealMakeRow.named (OpenSpec.ofChange Rows.fnExactSealMakeSpec).bare.vars) = true := by kernel_rfl
theorem k6 : (Rows.fnExactSealMakeRow.stops == []) = true := by kernel_rfl
theorem k8 : (Rows.fnExactSealMakeRow.knobs == []) = true := by kernel_rfl
theorem k10 : (Rows.fnExactSealMakeRow.inPlace == Tryd.prog.inPlace 12) = true := by kernel_rfl
theorem k11 : (Rows.fnExactSealMakeRow.unfollowed == Tryd.prog.unfollowed 12) = true := by kernel_rfl
theorem k12 : (Rows.fnExactSealMakeRow.recurses == Tryd.prog.recurses 12) = true := by kernel_rfl
theorem k13 : (Rows.fnExactSealMakeRow.named == Tryd.prog.varsNamed 12) = true := by kernel_rfl
theorem k14 : (Rows.fnExactSealMakeRow.maps == (Tryd.f12.params.toList ++ (OpenSpec.ofChange Rows.fnExactSealMakeSpec).bare.plain.varTypes Tryd.prog).any (Tryd.prog.mapsRec ·)) = true := by kernel_rfl
theorem k15 : (Rows.fnExactSealMakeRow.ifaces == (Tryd.f12.params.toList ++ (OpenSpec.ofChange Rows.fnExactSealMakeSpec).bare.plain.varTypes Tryd.prog).any (Tryd.prog.ifacesRec ·)) = true := by kernel_rfl
theorem k16 : (Rows.fnExactSealMakeRow.mapsOut == Tryd.prog.mapsAmong Tryd.f12.resultTypes.toList) = true := by kernel_rfl
theorem k17 : (Rows.fnExactSealMakeRow.loops == (Tryd.f12.params.toList ++ (OpenSpec.ofChange Rows.fnExactSealMakeSpec).bare.plain.varTypes Tryd.prog).any (Tryd.prog.loopsFrom ·)) = true := by kernel_rfl
theorem k17b : (Rows.fnExactSealMakeRow.wideKeys == (Tryd.f12.params.toList ++ (OpenSpec.ofChange Rows.fnExactSealMakeSpec).bare.plain.varTypes Tryd.prog ++ Tryd.f12.resultTypes.toList).any (Tryd.prog.wideKeysFrom ·)) = true := by kernel_rfl
theorem k18 : ((OpenSpec.ofChange Rows.fnExactSealMakeSpec).bare.vars.all (Tryd.prog.varReadable ·)) = true := by kernel_rfl
theorem k19 : (Tryd.f12.resultTypes.all (fun t => Tryd.prog.readableRec t && decide (t < Tryd.prog.types.size))) = true := by kernel_rfl
theorem k20 : (Rows.fnExactSealMakeRow.ifacesOut == Tryd.f12.resultTypes.toList.any (Tryd.prog.ifacesRec ·)) = true := by kernel_rfl
theorem k21 : (Rows.fnExactSealMakeRow.loopsOut == Tryd.f12.resultTypes.toList.any (Tryd.prog.loopsFrom ·)) = true := by kernel_rfl
theorem k23 : (Rows.fnExactSealMakeRow.shortTexts.isNone) = true := by kernel_rfl
theorem k25 : (Rows.fnExactSealMakeRow.kinds == (if Rows.fnExactSealMakeRow.domain.isEmpty then [] else Tryd.f12.params.toList.map fun t => match Tryd.prog.underlying t with | some (.int k) => some k | _ => none)) = true := by kernel_rfl
theorem k26 : (Rows.fnExactSealMakeRow.pinned == Rows.fnExactSealMakeRow.pinnedBy) = true := by kernel_rfl
theorem k27 : (Rows.fnExactSealMakeRow.veiled == (Tryd.f12.params.toList ++ (OpenSpec.ofChange Rows.fnExactSealMakeSpec).bare.plain.varTypes Tryd.prog ++ Tryd.f12.resultTypes.toList).any (Tryd.prog.veiledRec ·)) = true := by kernel_rfl
theorem k28 : (Rows.fnExactSealMakeRow.veiledFits Tryd.prog Tryd.f12.params.toList (Tryd.f12.params.toList ++ (OpenSpec.ofChange Rows.fnExactSealMakeSpec).bare.plain.varTypes Tryd.prog ++ Tryd.f12.resultTypes.toList)) = true := by kernel_rfl
set_option maxRecDepth 100000 in
theorem closed : joinedFacts Tryd.prog 12 Tryd.f12 (OpenSpec.ofChange Rows.fnExactSealMakeSpec).bare Rows.fnExactSealMakeRow = true := and2 (and2 (and2 (and2 (and2 (and2 (and2 (and2 (and2 (and2 (and2 (and2 (and2 (and2 (and2 (and2 (and2 (and2 (and2 (and2 (and2 (and2 (and2 (and2 (and2 (and2 (and2 (and2 (and2 (and2 (and2 k1 fpLaid) fpMaps) k4) k5) k6) fpStops) k8) fpKnobs) k10) k11) k12) k13) k14) k15) k16) k17) k17b) k18) k19) k20) k21) fpPlain) k23) fpHeard) fpEnter) fpLift) fpMake) k25) k26) k27) k28
theorem kw : Rows.fnExactSealMakeRow.wfByText (OpenSpec.ofChange Rows.fnExactSealMakeSpec) = true := by kernel_rfl
theorem kg : false = Rows.fnExactSealMakeRow.goesBy Tryd.pinned.checked.prog := by kernel_rfl
theorem km : laidOutB Tryd.prog = true := fpLaid
end fnExactSealMake
end Go.Proofs.YtnnmgbgkgnejlaaDoor
