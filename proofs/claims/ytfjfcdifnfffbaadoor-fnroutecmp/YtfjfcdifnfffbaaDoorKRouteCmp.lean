/-
  The closed facts of one row, each for itself.
-/
import Derived.Test.YtfjfcdifnfffbaaDoorCards
import Derived.Test.YtfjfcdifnfffbaaDoorFacts
namespace Go.Proofs.YtfjfcdifnfffbaaDoor

namespace fnRouteCmp
theorem k1 : (Rows.fnRouteCmpRow.wf (OpenSpec.ofChange (OpenSpec.ofChange Rows.fnRouteCmpSpec).bare)) = true := by kernel_rfl
theorem k4 : (Tryd.f6.params.all (Tryd.prog.readableRec ·)) = true := by kernel_rfl
theorem k5 : (namedTie Tryd.prog Rows.fnRouteCmpRow.named (OpenSpec.ofChange Rows.fnRouteCmpSpec).bare.vars) = true := by kernel_rfl
theorem k6 : (Rows.fnRouteCmpRow.stops == []) = true := by kernel_rfl
theorem k8 : (Rows.fnRouteCmpRow.knobs == []) = true := by kernel_rfl
theorem k10 : (Rows.fnRouteCmpRow.inPlace == Tryd.prog.inPlace 6) = true := by kernel_rfl
theorem k11 : (Rows.fnRouteCmpRow.unfollowed == Tryd.prog.unfollowed 6) = true := by kernel_rfl
theorem k12 : (Rows.fnRouteCmpRow.recurses == Tryd.prog.recurses 6) = true := by kernel_rfl
theorem k13 : (Rows.fnRouteCmpRow.named == Tryd.prog.varsNamed 6) = true := by kernel_rfl
theorem k14 : (Rows.fnRouteCmpRow.maps == (Tryd.f6.params.toList ++ (OpenSpec.ofChange Rows.fnRouteCmpSpec).bare.plain.varTypes Tryd.prog).any (Tryd.prog.mapsRec ·)) = true := by kernel_rfl
theorem k15 : (Rows.fnRouteCmpRow.ifaces == (Tryd.f6.params.toList ++ (OpenSpec.ofChange Rows.fnRouteCmpSpec).bare.plain.varTypes Tryd.prog).any (Tryd.prog.ifacesRec ·)) = true := by kernel_rfl
theorem k16 : (Rows.fnRouteCmpRow.mapsOut == Tryd.prog.mapsAmong Tryd.f6.resultTypes.toList) = true := by kernel_rfl
theorem k17 : (Rows.fnRouteCmpRow.loops == (Tryd.f6.params.toList ++ (OpenSpec.ofChange Rows.fnRouteCmpSpec).bare.plain.varTypes Tryd.prog).any (Tryd.prog.loopsFrom ·)) = true := by kernel_rfl
theorem k17b : (Rows.fnRouteCmpRow.wideKeys == (Tryd.f6.params.toList ++ (OpenSpec.ofChange Rows.fnRouteCmpSpec).bare.plain.varTypes Tryd.prog ++ Tryd.f6.resultTypes.toList).any (Tryd.prog.wideKeysFrom ·)) = true := by kernel_rfl
theorem k18 : ((OpenSpec.ofChange Rows.fnRouteCmpSpec).bare.vars.all (Tryd.prog.varReadable ·)) = true := by kernel_rfl
theorem k19 : (Tryd.f6.resultTypes.all (fun t => Tryd.prog.readableRec t && decide (t < Tryd.prog.types.size))) = true := by kernel_rfl
theorem k20 : (Rows.fnRouteCmpRow.ifacesOut == Tryd.f6.resultTypes.toList.any (Tryd.prog.ifacesRec ·)) = true := by kernel_rfl
theorem k21 : (Rows.fnRouteCmpRow.loopsOut == Tryd.f6.resultTypes.toList.any (Tryd.prog.loopsFrom ·)) = true := by kernel_rfl
theorem k23 : (Rows.fnRouteCmpRow.shortTexts.isNone) = true := by kernel_rfl
theorem k25 : (Rows.fnRouteCmpRow.kinds == (if Rows.fnRouteCmpRow.domain.isEmpty then [] else Tryd.f6.params.toList.map fun t => match Tryd.prog.underlying t with | some (.int k) => some k | _ => none)) = true := by kernel_rfl
theorem k26 : (Rows.fnRouteCmpRow.pinned == Rows.fnRouteCmpRow.pinnedBy) = true := by kernel_rfl
theorem k27 : (Rows.fnRouteCmpRow.veiled == (Tryd.f6.params.toList ++ (OpenSpec.ofChange Rows.fnRouteCmpSpec).bare.plain.varTypes Tryd.prog ++ Tryd.f6.resultTypes.toList).any (Tryd.prog.veiledRec ·)) = true := by kernel_rfl
theorem k28 : (Rows.fnRouteCmpRow.veiledFits Tryd.prog Tryd.f6.params.toList (Tryd.f6.params.toList ++ (OpenSpec.ofChange Rows.fnRouteCmpSpec).bare.plain.varTypes Tryd.prog ++ Tryd.f6.resultTypes.toList)) = true := by kernel_rfl
set_option maxRecDepth 100000 in
theorem closed : joinedFacts Tryd.prog 6 Tryd.f6 (OpenSpec.ofChange Rows.fnRouteCmpSpec).bare Rows.fnRouteCmpRow = true := and2 (and2 (and2 (and2 (and2 (and2 (and2 (and2 (and2 (and2 (and2 (and2 (and2 (and2 (and2 (and2 (and2 (and2 (and2 (and2 (and2 (and2 (and2 (and2 (and2 (and2 (and2 (and2 (and2 (and2 (and2 k1 fpLaid) fpMaps) k4) k5) k6) fpStops) k8) fpKnobs) k10) k11) k12) k13) k14) k15) k16) k17) k17b) k18) k19) k20) k21) fpPlain) k23) fpHeard) fpEnter) fpLift) fpMake) k25) k26) k27) k28
theorem kw : Rows.fnRouteCmpRow.wfByText (OpenSpec.ofChange Rows.fnRouteCmpSpec) = true := by kernel_rfl
theorem kg : false = Rows.fnRouteCmpRow.goesBy Tryd.pinned.checked.prog := by kernel_rfl
theorem km : laidOutB Tryd.prog = true := fpLaid
end fnRouteCmp
end Go.Proofs.YtfjfcdifnfffbaaDoor
