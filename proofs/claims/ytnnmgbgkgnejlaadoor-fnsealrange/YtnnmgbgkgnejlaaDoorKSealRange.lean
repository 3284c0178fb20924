/-
  The closed facts of one row, each for itself.
-/
import Derived.Test.YtnnmgbgkgnejlaaDoorCards
import Derived.Test.YtnnmgbgkgnejlaaDoorFacts
namespace Go.Proofs.YtnnmgbgkgnejlaaDoor

namespace fnSealRange
theorem k1 : (Rows.fnSealRangeRow.wf (OpenSpec.ofChange (OpenSpec.ofChange Rows.fnSealRangeSpec).bare)) = true := by kernel_rfl
theorem k4 : (Tryd.f9.params.all (Tryd.prog.readableRec ·)) = true := by kernel_rfl
theorem k5 : (namedTie Tryd.prog Rows.fnSealRangeRow.named (OpenSpec.ofChange Rows.fnSealRangeSpec).bare.vars) = true := by kernel_rfl
theorem k6 : (Rows.fnSealRangeRow.stops == []) = true := by kernel_rfl
theorem k8 : (Rows.fnSealRangeRow.knobs == []) = true := by kernel_rfl
theorem k10 : (Rows.fnSealRangeRow.inPlace == Tryd.prog.inPlace 9) = true := by kernel_rfl
theorem k11 : (Rows.fnSealRangeRow.unfollowed == Tryd.prog.unfollowed 9) = true := by kernel_rfl
theorem k12 : (Rows.fnSealRangeRow.recurses == Tryd.prog.recurses 9) = true := by kernel_rfl
theorem k13 : (Rows.fnSealRangeRow.named == Tryd.prog.varsNamed 9) = true := by kernel_rfl
theorem k14 : (Rows.fnSealRangeRow.maps == (Tryd.f9.params.toList ++ (OpenSpec.ofChange Rows.fnSealRangeSpec).bare.plain.varTypes Tryd.prog).any (Tryd.prog.mapsRec ·)) = true := by kernel_rfl
theorem k15 : (Rows.fnSealRangeRow.ifaces == (Tryd.f9.params.toList ++ (OpenSpec.ofChange Rows.fnSealRangeSpec).bare.plain.varTypes Tryd.prog).any (Tryd.prog.ifacesRec ·)) = true := by kernel_rfl
theorem k16 : (Rows.fnSealRangeRow.mapsOut == Tryd.prog.mapsAmong Tryd.f9.resultTypes.toList) = true := by kernel_rfl
theorem k17 : (Rows.fnSealRangeRow.loops == (Tryd.f9.params.toList ++ (OpenSpec.ofChange Rows.fnSealRangeSpec).bare.plain.varTypes Tryd.prog).any (Tryd.prog.loopsFrom ·)) = true := by kernel_rfl
theorem k17b : (Rows.fnSealRangeRow.wideKeys == (Tryd.f9.params.toList ++ (OpenSpec.ofChange Rows.fnSealRangeSpec).bare.plain.varTypes Tryd.prog ++ Tryd.f9.resultTypes.toList).any (Tryd.prog.wideKeysFrom ·)) = true := by kernel_rfl
theorem k18 : ((OpenSpec.ofChange Rows.fnSealRangeSpec).bare.vars.all (Tryd.prog.varReadable ·)) = true := by kernel_rfl
theorem k19 : (Tryd.f9.resultTypes.all (fun t => Tryd.prog.readableRec t && decide (t < Tryd.prog.types.size))) = true := by kernel_rfl
theorem k20 : (Rows.fnSealRangeRow.ifacesOut == Tryd.f9.resultTypes.toList.any (Tryd.prog.ifacesRec ·)) = true := by kernel_rfl
theorem k21 : (Rows.fnSealRangeRow.loopsOut == Tryd.f9.resultTypes.toList.any (Tryd.prog.loopsFrom ·)) = true := by kernel_rfl
theorem k23 : (Rows.fnSealRangeRow.shortTexts.isNone) = true := by kernel_rfl
theorem k25 : (Rows.fnSealRangeRow.kinds == (if Rows.fnSealRangeRow.domain.isEmpty then [] else Tryd.f9.params.toList.map fun t => match Tryd.prog.underlying t with | some (.int k) => some k | _ => none)) = true := by kernel_rfl
theorem k26 : (Rows.fnSealRangeRow.pinned == Rows.fnSealRangeRow.pinnedBy) = true := by kernel_rfl
theorem k27 : (Rows.fnSealRangeRow.veiled == (Tryd.f9.params.toList ++ (OpenSpec.ofChange Rows.fnSealRangeSpec).bare.plain.varTypes Tryd.prog ++ Tryd.f9.resultTypes.toList).any (Tryd.prog.veiledRec ·)) = true := by kernel_rfl
theorem k28 : (Rows.fnSealRangeRow.veiledFits Tryd.prog Tryd.f9.params.toList (Tryd.f9.params.toList ++ (OpenSpec.ofChange Rows.fnSealRangeSpec).bare.plain.varTypes Tryd.prog ++ Tryd.f9.resultTypes.toList)) = true := by kernel_rfl
set_option maxRecDepth 100000 in
theorem closed : joinedFacts Tryd.prog 9 Tryd.f9 (OpenSpec.ofChange Rows.fnSealRangeSpec).bare Rows.fnSealRangeRow = true := and2 (and2 (and2 (and2 (and2 (and2 (and2 (and2 (and2 (and2 (and2 (and2 (and2 (and2 (and2 (and2 (and2 (and2 (and2 (and2 (and2 (and2 (and2 (and2 (and2 (and2 (and2 (and2 (and2 (and2 (and2 k1 fpLaid) fpMaps) k4) k5) k6) fpStops) k8) fpKnobs) k10) k11) k12) k13) k14) k15) k16) k17) k17b) k18) k19) k20) k21) fpPlain) k23) fpHeard) fpEnter) fpLift) fpMake) k25) k26) k27) k28
theorem kw : Rows.fnSealRangeRow.wfByText (OpenSpec.ofChange Rows.fnSealRangeSpec) = true := by kernel_rfl
theorem kg : false = Rows.fnSealRangeRow.goesBy Tryd.pinned.checked.prog := by kernel_rfl
theorem km : laidOutB Tryd.prog = true := fpLaid
end fnSealRange
end Go.Proofs.YtnnmgbgkgnejlaaDoor
