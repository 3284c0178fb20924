/-
  The closed facts of one row, each for itself.
-/
import Derived.Test.YtfjfcdifnfffbaaDoorCards
import Derived.Test.YtfjfcdifnfffbaaDoorFacts
namespace Go.Proofs.YtfjfcdifnfffbaaDoor

namespace fnBestOrder
theorem k1 : (Rows.fnBestOrderRow.wf (OpenSpec.ofChange (OpenSpec.ofChange Rows.fnBestOrderSpec).bare)) = true := by kernel_rfl
theorem k4 : (Tryd.f8.params.all (Tryd.prog.readableRec ·)) = true := by kernel_rfl
theorem k5 : (namedTie Tryd.prog Rows.fnBestOrderRow.named (OpenSpec.ofChange Rows.fnBestOrderSpec).bare.vars) = true := by kernel_rfl
theorem k6 : (Rows.fnBestOrderRow.stops == []) = true := by kernel_rfl
theorem k8 : (Rows.fnBestOrderRow.knobs == []) = true := by kernel_rfl
theorem k10 : (Rows.fnBestOrderRow.inPlace == Tryd.prog.inPlace 8) = true := by kernel_rfl
theorem k11 : (Rows.fnBestOrderRow.unfollowed == Tryd.prog.unfollowed 8) = true := by kernel_rfl
theorem k12 : (Rows.fnBestOrderRow.recurses == Tryd.prog.recurses 8) = true := by kernel_rfl
theorem k13 : (Rows.fnBestOrderRow.named == Tryd.prog.varsNamed 8) = true := by kernel_rfl
theorem k14 : (Rows.fnBestOrderRow.maps == (Tryd.f8.params.toList ++ (OpenSpec.ofChange Rows.fnBestOrderSpec).bare.plain.varTypes Tryd.prog).any (Tryd.prog.mapsRec ·)) = true := by kernel_rfl
theorem k15 : (Rows.fnBestOrderRow.ifaces == (Tryd.f8.params.toList ++ (OpenSpec.ofChange Rows.fnBestOrderSpec).bare.plain.varTypes Tryd.prog).any (Tryd.prog.ifacesRec ·)) = true := by kernel_rfl
theorem k16 : (Rows.fnBestOrderRow.mapsOut == Tryd.prog.mapsAmong Tryd.f8.resultTypes.toList) = true := by kernel_rfl
theorem k17 : (Rows.fnBestOrderRow.loops == (Tryd.f8.params.toList ++ (OpenSpec.ofChange Rows.fnBestOrderSpec).bare.plain.varTypes Tryd.prog).any (Tryd.prog.loopsFrom ·)) = true := by kernel_rfl
theorem k17b : (Rows.fnBestOrderRow.wideKeys == (Tryd.f8.params.toList ++ (OpenSpec.ofChange Rows.fnBestOrderSpec).bare.plain.varTypes Tryd.prog ++ Tryd.f8.resultTypes.toList).any (Tryd.prog.wideKeysFrom ·)) = true := by kernel_rfl
theorem k18 : ((OpenSpec.ofChange Rows.fnBestOrderSpec).bare.vars.all (Tryd.prog.varReadable ·)) = true := by kernel_rfl
theorem k19 : (Tryd.f8.resultTypes.all (fun t => Tryd.prog.readableRec t && decide (t < Tryd.prog.types.size))) = true := by kernel_rfl
theorem k20 : (Rows.fnBestOrderRow.ifacesOut == Tryd.f8.resultTypes.toList.any (Tryd.prog.ifacesRec ·)) = true := by kernel_rfl
theorem k21 : (Rows.fnBestOrderRow.loopsOut == Tryd.f8.resultTypes.toList.any (Tryd.prog.loopsFrom ·)) = true := by kernel_rfl
theorem k23 : (Rows.fnBestOrderRow.shortTexts.isNone) = true := by kernel_rfl
theorem k25 : (Rows.fnBestOrderRow.kinds == (if Rows.fnBestOrderRow.domain.isEmpty then [] else Tryd.f8.params.toList.map fun t => match Tryd.prog.underlying t with | some (.int k) => some k | _ => none)) = true := by kernel_rfl
theorem k26 : (Rows.fnBestOrderRow.pinned == Rows.fnBestOrderRow.pinnedBy) = true := by kernel_rfl
theorem k27 : (Rows.fnBestOrderRow.veiled == (Tryd.f8.params.toList ++ (OpenSpec.ofChange Rows.fnBestOrderSpec).bare.plain.varTypes Tryd.prog ++ Tryd.f8.resultTypes.toList).any (Tryd.prog.veiledRec ·)) = true := by kernel_rfl
theorem k28 : (Rows.fnBestOrderRow.veiledFits Tryd.prog Tryd.f8.params.toList (Tryd.f8.params.toList ++ (OpenSpec.ofChange Rows.fnBestOrderSpec).bare.plain.varTypes Tryd.prog ++ Tryd.f8.resultTypes.toList)) = true := by kernel_rfl
set_option maxRecDepth 100000 in
theorem closed : joinedFacts Tryd.prog 8 Tryd.f8 (OpenSpec.ofChange Rows.fnBestOrderSpec).bare Rows.fnBestOrderRow = true := and2 (and2 (and2 (and2 (and2 (and2 (and2 (and2 (and2 (and2 (and2 (and2 (and2 (and2 (and2 (and2 (and2 (and2 (and2 (and2 (and2 (and2 (and2 (and2 (and2 (and2 (and2 (and2 (and2 (and2 (and2 k1 fpLaid) fpMaps) k4) k5) k6) fpStops) k8) fpKnobs) k10) k11) k12) k13) k14) k15) k16) k17) k17b) k18) k19) k20) k21) fpPlain) k23) fpHeard) fpEnter) fpLift) fpMake) k25) k26) k27) k28
theorem kw : Rows.fnBestOrderRow.wfByText (OpenSpec.ofChange Rows.fnBestOrderSpec) = true := by kernel_rfl
theorem kg : false = Rows.fnBestOrderRow.goesBy Tryd.pinned.checked.prog := by kernel_rfl
theorem km : laidOutB Tryd.prog = true := fpLaid
end fnBestOrder
end Go.Proofs.YtfjfcdifnfffbaaDoor
