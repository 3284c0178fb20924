/-
  The closed facts of one row, each for itself.
-/
import Derived.Test.YtnnmgbgkgnejlaaDoorCards
import Derived.Test.YtnnmgbgkgnejlaaDoorFacts
namespace Go.Proofs.YtnnmgbgkgnejlaaDoor

namespace fnShorten
theorem k1 : (Rows.fnShortenRow.wf (OpenSpec.ofChange (OpenSpec.ofChange Rows.fnShortenSpec).bare)) = true := by kernel_rfl
theorem k4 : (Tryd.f8.params.all (Tryd.prog.readableRec ·)) = true := by kernel_rfl
theorem k5 : (namedTie Tryd.prog Rows.fnShortenRow.named (OpenSpec.ofChange Rows.fnShortenSpec).bare.vars) = true := by kernel_rfl
theorem k6 : (Rows.fnShortenRow.stops == []) = true := by kernel_rfl
theorem k8 : (Rows.fnShortenRow.knobs == []) = true := by kernel_rfl
theorem k10 : (Rows.fnShortenRow.inPlace == Tryd.prog.inPlace 8) = true := by kernel_rfl
theorem k11 : (Rows.fnShortenRow.unfollowed == Tryd.prog.unfollowed 8) = true := by kernel_rfl
theorem k12 : (Rows.fnShortenRow.recurses == Tryd.prog.recurses 8) = true := by kernel_rfl
theorem k13 : (Rows.fnShortenRow.named == Tryd.prog.varsNamed 8) = true := by kernel_rfl
theorem k14 : (Rows.fnShortenRow.maps == (Tryd.f8.params.toList ++ (OpenSpec.ofChange Rows.fnShortenSpec).bare.plain.varTypes Tryd.prog).any (Tryd.prog.mapsRec ·)) = true := by kernel_rfl
theorem k15 : (Rows.fnShortenRow.ifaces == (Tryd.f8.params.toList ++ (OpenSpec.ofChange Rows.fnShortenSpec).bare.plain.varTypes Tryd.prog).any (Tryd.prog.ifacesRec ·)) = true := by kernel_rfl
theorem k16 : (Rows.fnShortenRow.mapsOut == Tryd.prog.mapsAmong Tryd.f8.resultTypes.toList) = true := by kernel_rfl
theorem k17 : (Rows.fnShortenRow.loops == (Tryd.f8.params.toList ++ (OpenSpec.ofChange Rows.fnShortenSpec).bare.plain.varTypes Tryd.prog).any (Tryd.prog.loopsFrom ·)) = true := by kernel_rfl
theorem k17b : (Rows.fnShortenRow.wideKeys == (Tryd.f8.params.toList ++ (OpenSpec.ofChange Rows.fnShortenSpec).bare.plain.varTypes Tryd.prog ++ Tryd.f8.resultTypes.toList).any (Tryd.prog.wideKeysFrom ·)) = true := by kernel_rfl
theorem k18 : ((OpenSpec.ofChange Rows.fnShortenSpec).bare.vars.all (Tryd.prog.varReadable ·)) = true := by kernel_rfl
theorem k19 : (Tryd.f8.resultTypes.all (fun t => Tryd.prog.readableRec t && decide (t < Tryd.prog.types.size))) = true := by kernel_rfl
theorem k20 : (Rows.fnShortenRow.ifacesOut == Tryd.f8.resultTypes.toList.any (Tryd.prog.ifacesRec ·)) = true := by kernel_rfl
theorem k21 : (Rows.fnShortenRow.loopsOut == Tryd.f8.resultTypes.toList.any (Tryd.prog.loopsFrom ·)) = true := by kernel_rfl
theorem k23 : (Rows.fnShortenRow.shortTexts.isNone) = true := by kernel_rfl
theorem k25 : (Rows.fnShortenRow.kinds == (if Rows.fnShortenRow.domain.isEmpty then [] else Tryd.f8.params.toList.map fun t => match Tryd.prog.underlying t with | some (.int k) => some k | _ => none)) = true := by kernel_rfl
theorem k26 : (Rows.fnShortenRow.pinned == Rows.fnShortenRow.pinnedBy) = true := by kernel_rfl
theorem k27 : (Rows.fnShortenRow.veiled == (Tryd.f8.params.toList ++ (OpenSpec.ofChange Rows.fnShortenSpec).bare.plain.varTypes Tryd.prog ++ Tryd.f8.resultTypes.toList).any (Tryd.prog.veiledRec ·)) = true := by kernel_rfl
theorem k28 : (Rows.fnShortenRow.veiledFits Tryd.prog Tryd.f8.params.toList (Tryd.f8.params.toList ++ (OpenSpec.ofChange Rows.fnShortenSpec).bare.plain.varTypes Tryd.prog ++ Tryd.f8.resultTypes.toList)) = true := by kernel_rfl
set_option maxRecDepth 100000 in
theorem closed : joinedFacts Tryd.prog 8 Tryd.f8 (OpenSpec.ofChange Rows.fnShortenSpec).bare Rows.fnShortenRow = true := and2 (and2 (and2 (and2 (and2 (and2 (and2 (and2 (and2 (and2 (and2 (and2 (and2 (and2 (and2 (and2 (and2 (and2 (and2 (and2 (and2 (and2 (and2 (and2 (and2 (and2 (and2 (and2 (and2 (and2 (and2 k1 fpLaid) fpMaps) k4) k5) k6) fpStops) k8) fpKnobs) k10) k11) k12) k13) k14) k15) k16) k17) k17b) k18) k19) k20) k21) fpPlain) k23) fpHeard) fpEnter) fpLift) fpMake) k25) k26) k27) k28
theorem kw : Rows.fnShortenRow.wfByText (OpenSpec.ofChange Rows.fnShortenSpec) = true := by kernel_rfl
theorem kg : false = Rows.fnShortenRow.goesBy Tryd.pinned.checked.prog := by kernel_rfl
theorem km : laidOutB Tryd.prog = true := fpLaid
end fnShorten
end Go.Proofs.YtnnmgbgkgnejlaaDoor
