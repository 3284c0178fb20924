/-
  The closed facts of one row, each for itself.
-/
import Derived.Test.YtfjfcdifnfffbaaDoorCards
import Derived.Test.YtfjfcdifnfffbaaDoorFacts
namespace Go.Proofs.YtfjfcdifnfffbaaDoor

namespace fnExactRouteBest
theorem k1 : (Rows.fnExactRouteBestRow.wf (OpenSpec.ofChange (OpenSpec.ofChange Rows.fnExactRouteBestSpec).bare)) = true := by kernel_rfl
theorem k4 : (Tryd.f18.params.all (Tryd.prog.readableRec ·)) = true := by kernel_rfl
theorem k5 : (namedTie Tryd.prog Rows.fnExactRouteBestRow.named (OpenSpec.ofChange Rows.fnExactRouteBestSpec).bare.vars) = true := by kernel_rfl
theorem k6 : (Rows.fnExactRouteBestRow.stops == []) = true := by kernel_rfl
theorem k8 : (Rows.fnExactRouteBestRow.knobs == []) = true := by kernel_rfl
theorem k10 : (Rows.fnExactRouteBestRow.inPlace == Tryd.prog.inPlace 18) = true := by kernel_rfl
theorem k11 : (Rows.fnExactRouteBestRow.unfollowed == Tryd.prog.unfollowed 18) = true := by kernel_rfl
theorem k12 : (Rows.fnExactRouteBestRow.recurses == Tryd.prog.recurses 18) = true := by kernel_rfl
theorem k13 : (Rows.fnExactRouteBestRow.named == Tryd.prog.varsNamed 18) = true := by kernel_rfl
theorem k14 : (Rows.fnExactRouteBestRow.maps == (Tryd.f18.params.toList ++ (OpenSpec.ofChange Rows.fnExactRouteBestSpec).bare.plain.varTypes Tryd.prog).any (Tryd.prog.mapsRec ·)) = true := by kernel_rfl
theorem k15 : (Rows.fnExactRouteBestRow.ifaces == (Tryd.f18.params.toList ++ (OpenSpec.ofChange Rows.fnExactRouteBestSpec).bare.plain.varTypes Tryd.prog).any (Tryd.prog.ifacesRec ·)) = true := by kernel_rfl
theorem k16 : (Rows.fnExactRouteBestRow.mapsOut == Tryd.prog.mapsAmong Tryd.f18.resultTypes.toList) = true := by kernel_rfl
theorem k17 : (Rows.fnExactRouteBestRow.loops == (Tryd.f18.params.toList ++ (OpenSpec.ofChange Rows.fnExactRouteBestSpec).bare.plain.varTypes Tryd.prog).any (Tryd.prog.loopsFrom ·)) = true := by kernel_rfl
theorem k17b : (Rows.fnExactRouteBestRow.wideKeys == (Tryd.f18.params.toList ++ (OpenSpec.ofChange Rows.fnExactRouteBestSpec).bare.plain.varTypes Tryd.prog ++ Tryd.f18.resultTypes.toList).any (Tryd.prog.wideKeysFrom ·)) = true := by kernel_rfl
theorem k18 : ((OpenSpec.ofChange Rows.fnExactRouteBestSpec).bare.vars.all (Tryd.prog.varReadable ·)) = true := by kernel_rfl
theorem k19 : (Tryd.f18.resultTypes.all (fun t => Tryd.prog.readableRec t && decide (t < Tryd.prog.types.size))) = true := by kernel_rfl
theorem k20 : (Rows.fnExactRouteBestRow.ifacesOut == Tryd.f18.resultTypes.toList.any (Tryd.prog.ifacesRec ·)) = true := by kernel_rfl
theorem k21 : (Rows.fnExactRouteBestRow.loopsOut == Tryd.f18.resultTypes.toList.any (Tryd.prog.loopsFrom ·)) = true := by kernel_rfl
theorem k23 : (Rows.fnExactRouteBestRow.shortTexts.isNone) = true := by kernel_rfl
theorem k25 : (Rows.fnExactRouteBestRow.kinds == (if Rows.fnExactRouteBestRow.domain.isEmpty then [] else Tryd.f18.params.toList.map fun t => match Tryd.prog.underlying t with | some (.int k) => some k | _ => none)) = true := by kernel_rfl
theorem k26 : (Rows.fnExactRouteBestRow.pinned == Rows.fnExactRouteBestRow.pinnedBy) = true := by kernel_rfl
theorem k27 : (Rows.fnExactRouteBestRow.veiled == (Tryd.f18.params.toList ++ (OpenSpec.ofChange Rows.fnExactRouteBestSpec).bare.plain.varTypes Tryd.prog ++ Tryd.f18.resultTypes.toList).any (Tryd.prog.veiledRec ·)) = true := by kernel_rfl
theorem k28 : (Rows.fnExactRouteBestRow.veiledFits Tryd.prog Tryd.f18.params.toList (Tryd.f18.params.toList ++ (OpenSpec.ofChange Rows.fnExactRouteBestSpec).bare.plain.varTypes Tryd.prog ++ Tryd.f18.resultTypes.toList)) = true := by kernel_rfl
set_option maxRecDepth 100000 in
theorem closed : joinedFacts Tryd.prog 18 Tryd.f18 (OpenSpec.ofChange Rows.fnExactRouteBestSpec).bare Rows.fnExactRouteBestRow = true := and2 (and2 (and2 (and2 (and2 (and2 (and2 (and2 (and2 (and2 (and2 (and2 (and2 (and2 (and2 (and2 (and2 (and2 (and2 (and2 (and2 (and2 (and2 (and2 (and2 (and2 (and2 (and2 (and2 (and2 (and2 k1 fpLaid) fpMaps) k4) k5) k6) fpStops) k8) fpKnobs) k10) k11) k12) k13) k14) k15) k16) k17) k17b) k18) k19) k20) k21) fpPlain) k23) fpHeard) fpEnter) fpLift) fpMake) k25) k26) k27) k28
theorem kw : Rows.fnExactRouteBestRow.wfByText (OpenSpec.ofChange Rows.fnExactRouteBestSpec) = true := by kernel_rfl
theorem kg : false = Rows.fnExactRouteBestRow.goesBy Tryd.pinned.checked.prog := by kernel_rfl
theorem km : laidOutB Tryd.prog = true := fpLaid
end fnExactRouteBest
end Go.Proofs.YtfjfcdifnfffbaaDoor
