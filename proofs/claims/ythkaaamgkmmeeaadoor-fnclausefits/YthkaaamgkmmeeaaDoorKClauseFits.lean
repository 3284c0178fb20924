/-
  The closed facts of one row, each for itself.
-/
import Derived.Test.YthkaaamgkmmeeaaDoorCards
import Derived.Test.YthkaaamgkmmeeaaDoorFacts
namespace Go.Proofs.YthkaaamgkmmeeaaDoor

namespace fnClauseFits
theorem k1 : (Rows.fnClauseFitsRow.wf (OpenSpec.ofChange (OpenSpec.ofChange Rows.fnClauseFitsSpec).bare)) = true := by kernel_rfl
theorem k4 : (Tryd.f3.params.all (Tryd.prog.readableRec ·)) = true := by kernel_rfl
theorem k5 : (namedTie Tryd.prog Rows.fnClauseFitsRow.named (OpenSpec.ofChange Rows.fnClauseFitsSpec).bare.vars) = true := by kernel_rfl
theorem k6 : (Rows.fnClauseFitsRow.stops == []) = true := by kernel_rfl
theorem k8 : (Rows.fnClauseFitsRow.knobs == []) = true := by kernel_rfl
theorem k10 : (Rows.fnClauseFitsRow.inPlace == Tryd.prog.inPlace 3) = true := by kernel_rfl
theorem k11 : (Rows.fnClauseFitsRow.unfollowed == Tryd.prog.unfollowed 3) = true := by kernel_rfl
theorem k12 : (Rows.fnClauseFitsRow.recurses == Tryd.prog.recurses 3) = true := by kernel_rfl
theorem k13 : (Rows.fnClauseFitsRow.named == Tryd.prog.varsNamed 3) = true := by kernel_rfl
theorem k14 : (Rows.fnClauseFitsRow.maps == (Tryd.f3.params.toList ++ (OpenSpec.ofChange Rows.fnClauseFitsSpec).bare.plain.varTypes Tryd.prog).any (Tryd.prog.mapsRec ·)) = true := by kernel_rfl
theorem k15 : (Rows.fnClauseFitsRow.ifaces == (Tryd.f3.params.toList ++ (OpenSpec.ofChange Rows.fnClauseFitsSpec).bare.plain.varTypes Tryd.prog).any (Tryd.prog.ifacesRec ·)) = true := by kernel_rfl
theorem k16 : (Rows.fnClauseFitsRow.mapsOut == Tryd.prog.mapsAmong Tryd.f3.resultTypes.toList) = true := by kernel_rfl
theorem k17 : (Rows.fnClauseFitsRow.loops == (Tryd.f3.params.toList ++ (OpenSpec.ofChange Rows.fnClauseFitsSpec).bare.plain.varTypes Tryd.prog).any (Tryd.prog.loopsFrom ·)) = true := by kernel_rfl
theorem k17b : (Rows.fnClauseFitsRow.wideKeys == (Tryd.f3.params.toList ++ (OpenSpec.ofChange Rows.fnClauseFitsSpec).bare.plain.varTypes Tryd.prog ++ Tryd.f3.resultTypes.toList).any (Tryd.prog.wideKeysFrom ·)) = true := by kernel_rfl
theorem k18 : ((OpenSpec.ofChange Rows.fnClauseFitsSpec).bare.vars.all (Tryd.prog.varReadable ·)) = true := by kernel_rfl
theorem k19 : (Tryd.f3.resultTypes.all (fun t => Tryd.prog.readableRec t && decide (t < Tryd.prog.types.size))) = true := by kernel_rfl
theorem k20 : (Rows.fnClauseFitsRow.ifacesOut == Tryd.f3.resultTypes.toList.any (Tryd.prog.ifacesRec ·)) = true := by kernel_rfl
theorem k21 : (Rows.fnClauseFitsRow.loopsOut == Tryd.f3.resultTypes.toList.any (Tryd.prog.loopsFrom ·)) = true := by kernel_rfl
theorem k23 : (Rows.fnClauseFitsRow.shortTexts.isNone) = true := by kernel_rfl
theorem k25 : (Rows.fnClauseFitsRow.kinds == (if Rows.fnClauseFitsRow.domain.isEmpty then [] else Tryd.f3.params.toList.map fun t => match Tryd.prog.underlying t with | some (.int k) => some k | _ => none)) = true := by kernel_rfl
theorem k26 : (Rows.fnClauseFitsRow.pinned == Rows.fnClauseFitsRow.pinnedBy) = true := by kernel_rfl
theorem k27 : (Rows.fnClauseFitsRow.veiled == (Tryd.f3.params.toList ++ (OpenSpec.ofChange Rows.fnClauseFitsSpec).bare.plain.varTypes Tryd.prog ++ Tryd.f3.resultTypes.toList).any (Tryd.prog.veiledRec ·)) = true := by kernel_rfl
theorem k28 : (Rows.fnClauseFitsRow.veiledFits Tryd.prog Tryd.f3.params.toList (Tryd.f3.params.toList ++ (OpenSpec.ofChange Rows.fnClauseFitsSpec).bare.plain.varTypes Tryd.prog ++ Tryd.f3.resultTypes.toList)) = true := by kernel_rfl
set_option maxRecDepth 100000 in
theorem closed : joinedFacts Tryd.prog 3 Tryd.f3 (OpenSpec.ofChange Rows.fnClauseFitsSpec).bare Rows.fnClauseFitsRow = true := and2 (and2 (and2 (and2 (and2 (and2 (and2 (and2 (and2 (and2 (and2 (and2 (and2 (and2 (and2 (and2 (and2 (and2 (and2 (and2 (and2 (and2 (and2 (and2 (and2 (and2 (and2 (and2 (and2 (and2 (and2 k1 fpLaid) fpMaps) k4) k5) k6) fpStops) k8) fpKnobs) k10) k11) k12) k13) k14) k15) k16) k17) k17b) k18) k19) k20) k21) fpPlain) k23) fpHeard) fpEnter) fpLift) fpMake) k25) k26) k27) k28
theorem kw : Rows.fnClauseFitsRow.wfByText (OpenSpec.ofChange Rows.fnClauseFitsSpec) = true := by kernel_rfl
theorem kg : false = Rows.fnClauseFitsRow.goesBy Tryd.pinned.checked.prog := by kernel_rfl
theorem km : laidOutB Tryd.prog = true := fpLaid
end fnClauseFits
end Go.Proofs.YthkaaamgkmmeeaaDoor
