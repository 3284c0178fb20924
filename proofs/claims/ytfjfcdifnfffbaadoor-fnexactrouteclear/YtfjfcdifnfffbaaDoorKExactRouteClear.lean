/-
  The closed facts of one row, each for itself.
-/
import Derived.Test.YtfjfcdifnfffbaaDoorCards
import Derived.Test.YtfjfcdifnfffbaaDoorFacts
namespace Go.Proofs.YtfjfcdifnfffbaaDoor

namespace fnExactRouteClear
theorem k1 : (Rows.fnExactRouteClearRow.wf (OpenSpec.ofChange (OpenSpec.ofChange Rows.fnExactRouteClearSpec).bare)) = true := by kernel_rfl
theorem k4 : (Tryd.f16.params.all (Tryd.prog.readableRec ·)) = true := by kernel_rfl
theorem k5 : (namedTie Tryd.prog Rows.fnExactRouteClearRow.named (OpenSpec.ofChange Rows.fnExactRouteClearSpec).bare.vars) = true := by kernel_rfl
theorem k6 : (Rows.fnExactRouteClearRow.stops == []) = true := by kernel_rfl
theorem k8 : (Rows.fnExactRouteClearRow.knobs == []) = true := by kernel_rfl
theorem k10 : (Rows.fnExactRouteClearRow.inPlace == Tryd.prog.inPlace 16) = true := by kernel_rfl
theorem k11 : (Rows.fnExactRouteClearRow.unfollowed == Tryd.prog.unfollowed 16) = true := by kernel_rfl
theorem k12 : (Rows.fnExactRouteClearRow.recurses == Tryd.prog.recurses 16) = true := by kernel_rfl
theorem k13 : (Rows.fnExactRouteClearRow.named == Tryd.prog.varsNamed 16) = true := by kernel_rfl
theorem k14 : (Rows.fnExactRouteClearRow.maps == (Tryd.f16.params.toList ++ (OpenSpec.ofChange Rows.fnExactRouteClearSpec).bare.plain.varTypes Tryd.prog).any (Tryd.prog.mapsRec ·)) = true := by kernel_rfl
theorem k15 : (Rows.fnExactRouteClearRow.ifaces == (Tryd.f16.params.toList ++ (OpenSpec.ofChange Rows.fnExactRouteClearSpec).bare.plain.varTypes Tryd.prog).any (Tryd.prog.ifacesRec ·)) = true := by kernel_rfl
theorem k16 : (Rows.fnExactRouteClearRow.mapsOut == Tryd.prog.mapsAmong Tryd.f16.resultTypes.toList) = true := by kernel_rfl
theorem k17 : (Rows.fnExactRouteClearRow.loops == (Tryd.f16.params.toList ++ (OpenSpec.ofChange Rows.fnExactRouteClearSpec).bare.plain.varTypes Tryd.prog).any (Tryd.prog.loopsFrom ·)) = true := by kernel_rfl
theorem k17b : (Rows.fnExactRouteClearRow.wideKeys == (Tryd.f16.params.toList ++ (OpenSpec.ofChange Rows.fnExactRouteClearSpec).bare.plain.varTypes Tryd.prog ++ Tryd.f16.resultTypes.toList).any (Tryd.prog.wideKeysFrom ·)) = true := by kernel_rfl
theorem k18 : ((OpenSpec.ofChange Rows.fnExactRouteClearSpec).bare.vars.all (Tryd.prog.varReadable ·)) = true := by kernel_rfl
theorem k19 : (Tryd.f16.resultTypes.all (fun t => Tryd.prog.readableRec t && decide (t < Tryd.prog.types.size))) = true := by kernel_rfl
theorem k20 : (Rows.fnExactRouteClearRow.ifacesOut == Tryd.f16.resultTypes.toList.any (Tryd.prog.ifacesRec ·)) = true := by kernel_rfl
theorem k21 : (Rows.fnExactRouteClearRow.loopsOut == Tryd.f16.resultTypes.toList.any (Tryd.prog.loopsFrom ·)) = true := by kernel_rfl
theorem k23 : (Rows.fnExactRouteClearRow.shortTexts.isNone) = true := by kernel_rfl
theorem k25 : (Rows.fnExactRouteClearRow.kinds == (if Rows.fnExactRouteClearRow.domain.isEmpty then [] else Tryd.f16.params.toList.map fun t => match Tryd.prog.underlying t with | some (.int k) => some k | _ => none)) = true := by kernel_rfl
theorem k26 : (Rows.fnExactRouteClearRow.pinned == Rows.fnExactRouteClearRow.pinnedBy) = true := by kernel_rfl
theorem k27 : (Rows.fnExactRouteClearRow.veiled == (Tryd.f16.params.toList ++ (OpenSpec.ofChange Rows.fnExactRouteClearSpec).bare.plain.varTypes Tryd.prog ++ Tryd.f16.resultTypes.toList).any (Tryd.prog.veiledRec ·)) = true := by kernel_rfl
theorem k28 : (Rows.fnExactRouteClearRow.veiledFits Tryd.prog Tryd.f16.params.toList (Tryd.f16.params.toList ++ (OpenSpec.ofChange Rows.fnExactRouteClearSpec).bare.plain.varTypes Tryd.prog ++ Tryd.f16.resultTypes.toList)) = true := by kernel_rfl
set_option maxRecDepth 100000 in
theorem closed : joinedFacts Tryd.prog 16 Tryd.f16 (OpenSpec.ofChange Rows.fnExactRouteClearSpec).bare Rows.fnExactRouteClearRow = true := and2 (and2 (and2 (and2 (and2 (and2 (and2 (and2 (and2 (and2 (and2 (and2 (and2 (and2 (and2 (and2 (and2 (and2 (and2 (and2 (and2 (and2 (and2 (and2 (and2 (and2 (and2 (and2 (and2 (and2 (and2 k1 fpLaid) fpMaps) k4) k5) k6) fpStops) k8) fpKnobs) k10) k11) k12) k13) k14) k15) k16) k17) k17b) k18) k19) k20) k21) fpPlain) k23) fpHeard) fpEnter) fpLift) fpMake) k25) k26) k27) k28
theorem kw : Rows.fnExactRouteClearRow.wfByText (OpenSpec.ofChange Rows.fnExactRouteClearSpec) = true := by kernel_rfl
theorem kg : false = Rows.fnExactRouteClearRow.goesBy Tryd.pinned.checked.prog := by kernel_rfl
theorem km : laidOutB Tryd.prog = true := fpLaid
end fnExactRouteClear
end Go.Proofs.YtfjfcdifnfffbaaDoor
