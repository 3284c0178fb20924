/-
  The closed facts of one row, each for itself.
-/
import Derived.Test.YtfjfcdifnfffbaaDoorCards
import Derived.Test.YtfjfcdifnfffbaaDoorFacts
namespace Go.Proofs.YtfjfcdifnfffbaaDoor

namespace fnExactRouteMark
theorem k1 : (Rows.fnExactRouteMarkRow.wf (OpenSpec.ofChange (OpenSpec.ofChange Rows.fnExactRouteMarkSpec).bare)) = true := by kernel_rfl
theorem k4 : (Tryd.f15.params.all (Tryd.prog.readableRec ·)) = true := by kernel_rfl
theorem k5 : (namedTie Tryd.prog Rows.fnExactRouteMarkRow.named (OpenSpec.ofChange Rows.fnExactRouteMarkSpec).bare.vars) = true := by kernel_rfl
theorem k6 : (Rows.fnExactRouteMarkRow.stops == []) = true := by kernel_rfl
theorem k8 : (Rows.fnExactRouteMarkRow.knobs == []) = true := by kernel_rfl
theorem k10 : (Rows.fnExactRouteMarkRow.inPlace == Tryd.prog.inPlace 15) = true := by kernel_rfl
theorem k11 : (Rows.fnExactRouteMarkRow.unfollowed == Tryd.prog.unfollowed 15) = true := by kernel_rfl
theorem k12 : (Rows.fnExactRouteMarkRow.recurses == Tryd.prog.recurses 15) = true := by kernel_rfl
theorem k13 : (Rows.fnExactRouteMarkRow.named == Tryd.prog.varsNamed 15) = true := by kernel_rfl
theorem k14 : (Rows.fnExactRouteMarkRow.maps == (Tryd.f15.params.toList ++ (OpenSpec.ofChange Rows.fnExactRouteMarkSpec).bare.plain.varTypes Tryd.prog).any (Tryd.prog.mapsRec ·)) = true := by kernel_rfl
theorem k15 : (Rows.fnExactRouteMarkRow.ifaces == (Tryd.f15.params.toList ++ (OpenSpec.ofChange Rows.fnExactRouteMarkSpec).bare.plain.varTypes Tryd.prog).any (Tryd.prog.ifacesRec ·)) = true := by kernel_rfl
theorem k16 : (Rows.fnExactRouteMarkRow.mapsOut == Tryd.prog.mapsAmong Tryd.f15.resultTypes.toList) = true := by kernel_rfl
theorem k17 : (Rows.fnExactRouteMarkRow.loops == (Tryd.f15.params.toList ++ (OpenSpec.ofChange Rows.fnExactRouteMarkSpec).bare.plain.varTypes Tryd.prog).any (Tryd.prog.loopsFrom ·)) = true := by kernel_rfl
theorem k17b : (Rows.fnExactRouteMarkRow.wideKeys == (Tryd.f15.params.toList ++ (OpenSpec.ofChange Rows.fnExactRouteMarkSpec).bare.plain.varTypes Tryd.prog ++ Tryd.f15.resultTypes.toList).any (Tryd.prog.wideKeysFrom ·)) = true := by kernel_rfl
theorem k18 : ((OpenSpec.ofChange Rows.fnExactRouteMarkSpec).bare.vars.all (Tryd.prog.varReadable ·)) = true := by kernel_rfl
theorem k19 : (Tryd.f15.resultTypes.all (fun t => Tryd.prog.readableRec t && decide (t < Tryd.prog.types.size))) = true := by kernel_rfl
theorem k20 : (Rows.fnExactRouteMarkRow.ifacesOut == Tryd.f15.resultTypes.toList.any (Tryd.prog.ifacesRec ·)) = true := by kernel_rfl
theorem k21 : (Rows.fnExactRouteMarkRow.loopsOut == Tryd.f15.resultTypes.toList.any (Tryd.prog.loopsFrom ·)) = true := by kernel_rfl
theorem k23 : (Rows.fnExactRouteMarkRow.shortTexts.isNone) = true := by kernel_rfl
theorem k25 : (Rows.fnExactRouteMarkRow.kinds == (if Rows.fnExactRouteMarkRow.domain.isEmpty then [] else Tryd.f15.params.toList.map fun t => match Tryd.prog.underlying t with | some (.int k) => some k | _ => none)) = true := by kernel_rfl
theorem k26 : (Rows.fnExactRouteMarkRow.pinned == Rows.fnExactRouteMarkRow.pinnedBy) = true := by kernel_rfl
theorem k27 : (Rows.fnExactRouteMarkRow.veiled == (Tryd.f15.params.toList ++ (OpenSpec.ofChange Rows.fnExactRouteMarkSpec).bare.plain.varTypes Tryd.prog ++ Tryd.f15.resultTypes.toList).any (Tryd.prog.veiledRec ·)) = true := by kernel_rfl
theorem k28 : (Rows.fnExactRouteMarkRow.veiledFits Tryd.prog Tryd.f15.params.toList (Tryd.f15.params.toList ++ (OpenSpec.ofChange Rows.fnExactRouteMarkSpec).bare.plain.varTypes Tryd.prog ++ Tryd.f15.resultTypes.toList)) = true := by kernel_rfl
set_option maxRecDepth 100000 in
theorem closed : joinedFacts Tryd.prog 15 Tryd.f15 (OpenSpec.ofChange Rows.fnExactRouteMarkSpec).bare Rows.fnExactRouteMarkRow = true := and2 (and2 (and2 (and2 (and2 (and2 (and2 (and2 (and2 (and2 (and2 (and2 (and2 (and2 (and2 (and2 (and2 (and2 (and2 (and2 (and2 (and2 (and2 (and2 (and2 (and2 (and2 (and2 (and2 (and2 (and2 k1 fpLaid) fpMaps) k4) k5) k6) fpStops) k8) fpKnobs) k10) k11) k12) k13) k14) k15) k16) k17) k17b) k18) k19) k20) k21) fpPlain) k23) fpHeard) fpEnter) fpLift) fpMake) k25) k26) k27) k28
theorem kw : Rows.fnExactRouteMarkRow.wfByText (OpenSpec.ofChange Rows.fnExactRouteMarkSpec) = true := by kernel_rfl
theorem kg : false = Rows.fnExactRouteMarkRow.goesBy Tryd.pinned.checked.prog := by kernel_rfl
theorem km : laidOutB Tryd.prog = true := fpLaid
end fnExactRouteMark
end Go.Proofs.YtfjfcdifnfffbaaDoor
