/-
  The closed facts of one row, each for itself.
-/
import Derived.Test.YtnnmgbgkgnejlaaDoorCards
import Derived.Test.YtnnmgbgkgnejlaaDoorFacts
namespace Go.Proofs.YtnnmgbgkgnejlaaDoor

namespace fnHijack
theorem k1 : (Rows.fnHijackRow.wf (OpenSpec.ofChange (OpenSpec.ofChange Rows.fnHijackSpec).bare)) = true := by kernel_rfl
theorem k4 : (Tryd.f7.params.all (Tryd.prog.readableRec ·)) = true := by kernel_rfl
theorem k5 : (namedTie Tryd.prog Rows.fnHijackRow.named (OpenSpec.ofChange Rows.fnHijackSpec).bare.vars) = true := by kernel_rfl
theorem k6 : (Rows.fnHijackRow.stops == []) = true := by kernel_rfl
theorem k8 : (Rows.fnHijackRow.knobs == []) = true := by kernel_rfl
theorem k10 : (Rows.fnHijackRow.inPlace == Tryd.prog.inPlace 7) = true := by kernel_rfl
theorem k11 : (Rows.fnHijackRow.unfollowed == Tryd.prog.unfollowed 7) = true := by kernel_rfl
theorem k12 : (Rows.fnHijackRow.recurses == Tryd.prog.recurses 7) = true := by kernel_rfl
theorem k13 : (Rows.fnHijackRow.named == Tryd.prog.varsNamed 7) = true := by kernel_rfl
theorem k14 : (Rows.fnHijackRow.maps == (Tryd.f7.params.toList ++ (OpenSpec.ofChange Rows.fnHijackSpec).bare.plain.varTypes Tryd.prog).any (Tryd.prog.mapsRec ·)) = true := by kernel_rfl
theorem k15 : (Rows.fnHijackRow.ifaces == (Tryd.f7.params.toList ++ (OpenSpec.ofChange Rows.fnHijackSpec).bare.plain.varTypes Tryd.prog).any (Tryd.prog.ifacesRec ·)) = true := by kernel_rfl
theorem k16 : (Rows.fnHijackRow.mapsOut == Tryd.prog.mapsAmong Tryd.f7.resultTypes.toList) = true := by kernel_rfl
theorem k17 : (Rows.fnHijackRow.loops == (Tryd.f7.params.toList ++ (OpenSpec.ofChange Rows.fnHijackSpec).bare.plain.varTypes Tryd.prog).any (Tryd.prog.loopsFrom ·)) = true := by kernel_rfl
theorem k17b : (Rows.fnHijackRow.wideKeys == (Tryd.f7.params.toList ++ (OpenSpec.ofChange Rows.fnHijackSpec).bare.plain.varTypes Tryd.prog ++ Tryd.f7.resultTypes.toList).any (Tryd.prog.wideKeysFrom ·)) = true := by kernel_rfl
theorem k18 : ((OpenSpec.ofChange Rows.fnHijackSpec).bare.vars.all (Tryd.prog.varReadable ·)) = true := by kernel_rfl
theorem k19 : (Tryd.f7.resultTypes.all (fun t => Tryd.prog.readableRec t && decide (t < Tryd.prog.types.size))) = true := by kernel_rfl
theorem k20 : (Rows.fnHijackRow.ifacesOut == Tryd.f7.resultTypes.toList.any (Tryd.prog.ifacesRec ·)) = true := by kernel_rfl
theorem k21 : (Rows.fnHijackRow.loopsOut == Tryd.f7.resultTypes.toList.any (Tryd.prog.loopsFrom ·)) = true := by kernel_rfl
theorem k23 : (Rows.fnHijackRow.shortTexts.isNone) = true := by kernel_rfl
theorem k25 : (Rows.fnHijackRow.kinds == (if Rows.fnHijackRow.domain.isEmpty then [] else Tryd.f7.params.toList.map fun t => match Tryd.prog.underlying t with | some (.int k) => some k | _ => none)) = true := by kernel_rfl
theorem k26 : (Rows.fnHijackRow.pinned == Rows.fnHijackRow.pinnedBy) = true := by kernel_rfl
theorem k27 : (Rows.fnHijackRow.veiled == (Tryd.f7.params.toList ++ (OpenSpec.ofChange Rows.fnHijackSpec).bare.plain.varTypes Tryd.prog ++ Tryd.f7.resultTypes.toList).any (Tryd.prog.veiledRec ·)) = true := by kernel_rfl
theorem k28 : (Rows.fnHijackRow.veiledFits Tryd.prog Tryd.f7.params.toList (Tryd.f7.params.toList ++ (OpenSpec.ofChange Rows.fnHijackSpec).bare.plain.varTypes Tryd.prog ++ Tryd.f7.resultTypes.toList)) = true := by kernel_rfl
set_option maxRecDepth 100000 in
theorem closed : joinedFacts Tryd.prog 7 Tryd.f7 (OpenSpec.ofChange Rows.fnHijackSpec).bare Rows.fnHijackRow = true := and2 (and2 (and2 (and2 (and2 (and2 (and2 (and2 (and2 (and2 (and2 (and2 (and2 (and2 (and2 (and2 (and2 (and2 (and2 (and2 (and2 (and2 (and2 (and2 (and2 (and2 (and2 (and2 (and2 (and2 (and2 k1 fpLaid) fpMaps) k4) k5) k6) fpStops) k8) fpKnobs) k10) k11) k12) k13) k14) k15) k16) k17) k17b) k18) k19) k20) k21) fpPlain) k23) fpHeard) fpEnter) fpLift) fpMake) k25) k26) k27) k28
theorem kw : Rows.fnHijackRow.wfByText (OpenSpec.ofChange Rows.fnHijackSpec) = true := by kernel_rfl
theorem kg : false = Rows.fnHijackRow.goesBy Tryd.pinned.checked.prog := by kernel_rfl
theorem km : laidOutB Tryd.prog = true := fpLaid
end fnHijack
end Go.Proofs.YtnnmgbgkgnejlaaDoor
