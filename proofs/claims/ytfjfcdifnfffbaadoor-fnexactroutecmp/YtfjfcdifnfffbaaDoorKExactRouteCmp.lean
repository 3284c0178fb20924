/-
  The closed facts of one row, each for itself.
-/
import Derived.Test.YtfjfcdifnfffbaaDoorCards
import Derived.Test.YtfjfcdifnfffbaaDoorFacts
namespace Go.Proofs.YtfjfcdifnfffbaaDoor

namespace fnExactRouteCmp
theorem k1 : (Rows.fnExactRouteCmpRow.wf (OpenSpec.ofChange (OpenSpec.ofChange Rows.fnExactRouteCmpSpec).bare)) = true := by kernel_rfl
theorem k4 : (Tryd.f17.params.all (Tryd.prog.readableRec ·)) = true := by kernel_rfl
theorem k5 : (namedTie Tryd.prog Rows.fnExactRouteCmpRow.named (OpenSpec.ofChange Rows.fnExactRouteCmpSpec).bare.vars) = true := by kernel_rfl
theorem k6 : (Rows.fnExactRouteCmpRow.stops == []) = true := by kernel_rfl
theorem k8 : (Rows.fnExactRouteCmpRow.knobs == []) = true := by kernel_rfl
theorem k10 : (Rows.fnExactRouteCmpRow.inPlace == Tryd.prog.inPlace 17) = true := by kernel_rfl
theorem k11 : (Rows.fnExactRouteCmpRow.unfollowed == Tryd.prog.unfollowed 17) = true := by kernel_rfl
theorem k12 : (Rows.fnExactRouteCmpRow.recurses == Tryd.prog.recurses 17) = true := by kernel_rfl
theorem k13 : (Rows.fnExactRouteCmpRow.named == Tryd.prog.varsNamed 17) = true := by kernel_rfl
theorem k14 : (Rows.fnExactRouteCmpRow.maps == (Tryd.f17.params.toList ++ (OpenSpec.ofChange Rows.fnExactRouteCmpSpec).bare.plain.varTypes Tryd.prog).any (Tryd.prog.mapsRec ·)) = true := by kernel_rfl
theorem k15 : (Rows.fnExactRouteCmpRow.ifaces == (Tryd.f17.params.toList ++ (OpenSpec.ofChange Rows.fnExactRouteCmpSpec).bare.plain.varTypes Tryd.prog).any (Tryd.prog.ifacesRec ·)) = true := by kernel_rfl
theorem k16 : (Rows.fnExactRouteCmpRow.mapsOut == Tryd.prog.mapsAmong Tryd.f17.resultTypes.toList) = true := by kernel_rfl
theorem k17 : (Rows.fnExactRouteCmpRow.loops == (Tryd.f17.params.toList ++ (OpenSpec.ofChange Rows.fnExactRouteCmpSpec).bare.plain.varTypes Tryd.prog).any (Tryd.prog.loopsFrom ·)) = true := by kernel_rfl
theorem k17b : (Rows.fnExactRouteCmpRow.wideKeys == (Tryd.f17.params.toList ++ (OpenSpec.ofChange Rows.fnExactRouteCmpSpec).bare.plain.varTypes Tryd.prog ++ Tryd.f17.resultTypes.toList).any (Tryd.prog.wideKeysFrom ·)) = true := by kernel_rfl
theorem k18 : ((OpenSpec.ofChange Rows.fnExactRouteCmpSpec).bare.vars.all (Tryd.prog.varReadable ·)) = true := by kernel_rfl
theorem k19 : (Tryd.f17.resultTypes.all (fun t => Tryd.prog.readableRec t && decide (t < Tryd.prog.types.size))) = true := by kernel_rfl
theorem k20 : (Rows.fnExactRouteCmpRow.ifacesOut == Tryd.f17.resultTypes.toList.any (Tryd.prog.ifacesRec ·)) = true := by kernel_rfl
theorem k21 : (Rows.fnExactRouteCmpRow.loopsOut == Tryd.f17.resultTypes.toList.any (Tryd.prog.loopsFrom ·)) = true := by kernel_rfl
theorem k23 : (Rows.fnExactRouteCmpRow.shortTexts.isNone) = true := by kernel_rfl
theorem k25 : (Rows.fnExactRouteCmpRow.kinds == (if Rows.fnExactRouteCmpRow.domain.isEmpty then [] else Tryd.f17.params.toList.map fun t => match Tryd.prog.underlying t with | some (.int k) => some k | _ => none)) = true := by kernel_rfl
theorem k26 : (Rows.fnExactRouteCmpRow.pinned == Rows.fnExactRouteCmpRow.pinnedBy) = true := by kernel_rfl
theorem k27 : (Rows.fnExactRouteCmpRow.veiled == (Tryd.f17.params.toList ++ (OpenSpec.ofChange Rows.fnExactRouteCmpSpec).bare.plain.varTypes Tryd.prog ++ Tryd.f17.resultTypes.toList).any (Tryd.prog.veiledRec ·)) = true := by kernel_rfl
theorem k28 : (Rows.fnExactRouteCmpRow.veiledFits Tryd.prog Tryd.f17.params.toList (Tryd.f17.params.toList ++ (OpenSpec.ofChange Rows.fnExactRouteCmpSpec).bare.plain.varTypes Tryd.prog ++ Tryd.f17.resultTypes.toList)) = true := by kernel_rfl
set_option maxRecDepth 100000 in
theorem closed : joinedFacts Tryd.prog 17 Tryd.f17 (OpenSpec.ofChange Rows.fnExactRouteCmpSpec).bare Rows.fnExactRouteCmpRow = true := and2 (and2 (and2 (and2 (and2 (and2 (and2 (and2 (and2 (and2 (and2 (and2 (and2 (and2 (and2 (and2 (and2 (and2 (and2 (and2 (and2 (and2 (and2 (and2 (and2 (and2 (and2 (and2 (and2 (and2 (and2 k1 fpLaid) fpMaps) k4) k5) k6) fpStops) k8) fpKnobs) k10) k11) k12) k13) k14) k15) k16) k17) k17b) k18) k19) k20) k21) fpPlain) k23) fpHeard) fpEnter) fpLift) fpMake) k25) k26) k27) k28
theorem kw : Rows.fnExactRouteCmpRow.wfByText (OpenSpec.ofChange Rows.fnExactRouteCmpSpec) = true := by kernel_rfl
theorem kg : false = Rows.fnExactRouteCmpRow.goesBy Tryd.pinned.checked.prog := by kernel_rfl
theorem km : laidOutB Tryd.prog = true := fpLaid
end fnExactRouteCmp
end Go.Proofs.YtfjfcdifnfffbaaDoor
