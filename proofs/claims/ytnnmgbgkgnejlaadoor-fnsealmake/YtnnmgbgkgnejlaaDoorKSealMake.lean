/-
  The closed facts of one row, each for itself.
-/
import Derived.Test.YtnnmgbgkgnejlaaDoorCards
import Derived.Test.YtnnmgbgkgnejlaaDoorFacts
namespace Go.Proofs.YtnnmgbgkgnejlaaDoor

namespace fnSealMake
theorem k1 : (Rows.fnSealMakeRow.wf (OpenSpec.ofChange (OpenSpec.ofChange Rows.fnSealMakeSpec).bare)) = true := by kernel_rfl
theorem k4 : (Tryd.f3.params.all (Tryd.prog.readableRec ·)) = true := by kernel_rfl
theorem k5 : (namedTie Tryd.prog Rows.fnSealMakeRow.named (OpenSpec.ofChange Rows.fnSealMakeSpec).bare.vars) = true := by kernel_rfl
theorem k6 : (Rows.fnSealMakeRow.stops == []) = true := by kernel_rfl
theorem k8 : (Rows.fnSealMakeRow.knobs == []) = true := by kernel_rfl
theorem k10 : (Rows.fnSealMakeRow.inPlace == Tryd.prog.inPlace 3) = true := by kernel_rfl
theorem k11 : (Rows.fnSealMakeRow.unfollowed == Tryd.prog.unfollowed 3) = true := by kernel_rfl
theorem k12 : (Rows.fnSealMakeRow.recurses == Tryd.prog.recurses 3) = true := by kernel_rfl
theorem k13 : (Rows.fnSealMakeRow.named == Tryd.prog.varsNamed 3) = true := by kernel_rfl
theorem k14 : (Rows.fnSealMakeRow.maps == (Tryd.f3.params.toList ++ (OpenSpec.ofChange Rows.fnSealMakeSpec).bare.plain.varTypes Tryd.prog).any (Tryd.prog.mapsRec ·)) = true := by kernel_rfl
theorem k15 : (Rows.fnSealMakeRow.ifaces == (Tryd.f3.params.toList ++ (OpenSpec.ofChange Rows.fnSealMakeSpec).bare.plain.varTypes Tryd.prog).any (Tryd.prog.ifacesRec ·)) = true := by kernel_rfl
theorem k16 : (Rows.fnSealMakeRow.mapsOut == Tryd.prog.mapsAmong Tryd.f3.resultTypes.toList) = true := by kernel_rfl
theorem k17 : (Rows.fnSealMakeRow.loops == (Tryd.f3.params.toList ++ (OpenSpec.ofChange Rows.fnSealMakeSpec).bare.plain.varTypes Tryd.prog).any (Tryd.prog.loopsFrom ·)) = true := by kernel_rfl
theorem k17b : (Rows.fnSealMakeRow.wideKeys == (Tryd.f3.params.toList ++ (OpenSpec.ofChange Rows.fnSealMakeSpec).bare.plain.varTypes Tryd.prog ++ Tryd.f3.resultTypes.toList).any (Tryd.prog.wideKeysFrom ·)) = true := by kernel_rfl
theorem k18 : ((OpenSpec.ofChange Rows.fnSealMakeSpec).bare.vars.all (Tryd.prog.varReadable ·)) = true := by kernel_rfl
theorem k19 : (Tryd.f3.resultTypes.all (fun t => Tryd.prog.readableRec t && decide (t < Tryd.prog.types.size))) = true := by kernel_rfl
theorem k20 : (Rows.fnSealMakeRow.ifacesOut == Tryd.f3.resultTypes.toList.any (Tryd.prog.ifacesRec ·)) = true := by kernel_rfl
theorem k21 : (Rows.fnSealMakeRow.loopsOut == Tryd.f3.resultTypes.toList.any (Tryd.prog.loopsFrom ·)) = true := by kernel_rfl
theorem k23 : (Rows.fnSealMakeRow.shortTexts.isNone) = true := by kernel_rfl
theorem k25 : (Rows.fnSealMakeRow.kinds == (if Rows.fnSealMakeRow.domain.isEmpty then [] else Tryd.f3.params.toList.map fun t => match Tryd.prog.underlying t with | some (.int k) => some k | _ => none)) = true := by kernel_rfl
theorem k26 : (Rows.fnSealMakeRow.pinned == Rows.fnSealMakeRow.pinnedBy) = true := by kernel_rfl
theorem k27 : (Rows.fnSealMakeRow.veiled == (Tryd.f3.params.toList ++ (OpenSpec.ofChange Rows.fnSealMakeSpec).bare.plain.varTypes Tryd.prog ++ Tryd.f3.resultTypes.toList).any (Tryd.prog.veiledRec ·)) = true := by kernel_rfl
theorem k28 : (Rows.fnSealMakeRow.veiledFits Tryd.prog Tryd.f3.params.toList (Tryd.f3.params.toList ++ (OpenSpec.ofChange Rows.fnSealMakeSpec).bare.plain.varTypes Tryd.prog ++ Tryd.f3.resultTypes.toList)) = true := by kernel_rfl
set_option maxRecDepth 100000 in
theorem closed : joinedFacts Tryd.prog 3 Tryd.f3 (OpenSpec.ofChange Rows.fnSealMakeSpec).bare Rows.fnSealMakeRow = true := and2 (and2 (and2 (and2 (and2 (and2 (and2 (and2 (and2 (and2 (and2 (and2 (and2 (and2 (and2 (and2 (and2 (and2 (and2 (and2 (and2 (and2 (and2 (and2 (and2 (and2 (and2 (and2 (and2 (and2 (and2 k1 fpLaid) fpMaps) k4) k5) k6) fpStops) k8) fpKnobs) k10) k11) k12) k13) k14) k15) k16) k17) k17b) k18) k19) k20) k21) fpPlain) k23) fpHeard) fpEnter) fpLift) fpMake) k25) k26) k27) k28
theorem kw : Rows.fnSealMakeRow.wfByText (OpenSpec.ofChange Rows.fnSealMakeSpec) = true := by kernel_rfl
theorem kg : false = Rows.fnSealMakeRow.goesBy Tryd.pinned.checked.prog := by kernel_rfl
theorem km : laidOutB Tryd.prog = true := fpLaid
end fnSealMake
end Go.Proofs.YtnnmgbgkgnejlaaDoor
