/-
  The closed facts of one row, each for itself.
-/
import Derived.Test.YtfjfcdifnfffbaaDoorCards
import Derived.Test.YtfjfcdifnfffbaaDoorFacts
namespace Go.Proofs.YtfjfcdifnfffbaaDoor

namespace fnMarkCmp
theorem k1 : (Rows.fnMarkCmpRow.wf (OpenSpec.ofChange (OpenSpec.ofChange Rows.fnMarkCmpSpec).bare)) = true := by kernel_rfl
theorem k4 : (Tryd.f13.params.all (Tryd.prog.readableRec ·)) = true := by kernel_rfl
theorem k5 : (namedTie Tryd.prog Rows.fnMarkCmpRow.named (OpenSpec.ofChange Rows.fnMarkCmpSpec).bare.vars) = true := by kernel_rfl
theorem k6 : (Rows.fnMarkCmpRow.stops == []) = true := by kernel_rfl
theorem k8 : (Rows.fnMarkCmpRow.knobs == []) = true := by kernel_rfl
theorem k10 : (Rows.fnMarkCmpRow.inPlace == Tryd.prog.inPlace 13) = true := by kernel_rfl
theorem k11 : (Rows.fnMarkCmpRow.unfollowed == Tryd.prog.unfollowed 13) = true := by kernel_rfl
theorem k12 : (Rows.fnMarkCmpRow.recurses == Tryd.prog.recurses 13) = true := by kernel_rfl
theorem k13 : (Rows.fnMarkCmpRow.named == Tryd.prog.varsNamed 13) = true := by kernel_rfl
theorem k14 : (Rows.fnMarkCmpRow.maps == (Tryd.f13.params.toList ++ (OpenSpec.ofChange Rows.fnMarkCmpSpec).bare.plain.varTypes Tryd.prog).any (Tryd.prog.mapsRec ·)) = true := by kernel_rfl
theorem k15 : (Rows.fnMarkCmpRow.ifaces == (Tryd.f13.params.toList ++ (OpenSpec.ofChange Rows.fnMarkCmpSpec).bare.plain.varTypes Tryd.prog).any (Tryd.prog.ifacesRec ·)) = true := by kernel_rfl
theorem k16 : (Rows.fnMarkCmpRow.mapsOut == Tryd.prog.mapsAmong Tryd.f13.resultTypes.toList) = true := by kernel_rfl
theorem k17 : (Rows.fnMarkCmpRow.loops == (Tryd.f13.params.toList ++ (OpenSpec.ofChange Rows.fnMarkCmpSpec).bare.plain.varTypes Tryd.prog).any (Tryd.prog.loopsFrom ·)) = true := by kernel_rfl
theorem k17b : (Rows.fnMarkCmpRow.wideKeys == (Tryd.f13.params.toList ++ (OpenSpec.ofChange Rows.fnMarkCmpSpec).bare.plain.varTypes Tryd.prog ++ Tryd.f13.resultTypes.toList).any (Tryd.prog.wideKeysFrom ·)) = true := by kernel_rfl
theorem k18 : ((OpenSpec.ofChange Rows.fnMarkCmpSpec).bare.vars.all (Tryd.prog.varReadable ·)) = true := by kernel_rfl
theorem k19 : (Tryd.f13.resultTypes.all (fun t => Tryd.prog.readableRec t && decide (t < Tryd.prog.types.size))) = true := by kernel_rfl
theorem k20 : (Rows.fnMarkCmpRow.ifacesOut == Tryd.f13.resultTypes.toList.any (Tryd.prog.ifacesRec ·)) = true := by kernel_rfl
theorem k21 : (Rows.fnMarkCmpRow.loopsOut == Tryd.f13.resultTypes.toList.any (Tryd.prog.loopsFrom ·)) = true := by kernel_rfl
theorem k23 : (Rows.fnMarkCmpRow.shortTexts.isNone) = true := by kernel_rfl
theorem k25 : (Rows.fnMarkCmpRow.kinds == (if Rows.fnMarkCmpRow.domain.isEmpty then [] else Tryd.f13.params.toList.map fun t => match Tryd.prog.underlying t with | some (.int k) => some k | _ => none)) = true := by kernel_rfl
theorem k26 : (Rows.fnMarkCmpRow.pinned == Rows.fnMarkCmpRow.pinnedBy) = true := by kernel_rfl
theorem k27 : (Rows.fnMarkCmpRow.veiled == (Tryd.f13.params.toList ++ (OpenSpec.ofChange Rows.fnMarkCmpSpec).bare.plain.varTypes Tryd.prog ++ Tryd.f13.resultTypes.toList).any (Tryd.prog.veiledRec ·)) = true := by kernel_rfl
theorem k28 : (Rows.fnMarkCmpRow.veiledFits Tryd.prog Tryd.f13.params.toList (Tryd.f13.params.toList ++ (OpenSpec.ofChange Rows.fnMarkCmpSpec).bare.plain.varTypes Tryd.prog ++ Tryd.f13.resultTypes.toList)) = true := by kernel_rfl
set_option maxRecDepth 100000 in
theorem closed : joinedFacts Tryd.prog 13 Tryd.f13 (OpenSpec.ofChange Rows.fnMarkCmpSpec).bare Rows.fnMarkCmpRow = true := and2 (and2 (and2 (and2 (and2 (and2 (and2 (and2 (and2 (and2 (and2 (and2 (and2 (and2 (and2 (and2 (and2 (and2 (and2 (and2 (and2 (and2 (and2 (and2 (and2 (and2 (and2 (and2 (and2 (and2 (and2 k1 fpLaid) fpMaps) k4) k5) k6) fpStops) k8) fpKnobs) k10) k11) k12) k13) k14) k15) k16) k17) k17b) k18) k19) k20) k21) fpPlain) k23) fpHeard) fpEnter) fpLift) fpMake) k25) k26) k27) k28
theorem kw : Rows.fnMarkCmpRow.wfByText (OpenSpec.ofChange Rows.fnMarkCmpSpec) = true := by kernel_rfl
theorem kg : false = Rows.fnMarkCmpRow.goesBy Tryd.pinned.checked.prog := by kernel_rfl
theorem km : laidOutB Tryd.prog = true := fpLaid
end fnMarkCmp
end Go.Proofs.YtfjfcdifnfffbaaDoor
