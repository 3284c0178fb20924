/- For every input, the program's RelsOrder answers as the document's model of it does, leaves its arguments as they were, and what it answers is its own memory; nothing is asked of the input. -/
import Derived.Test.YtnljcppefnaapaaFacts
import Derived.Test.YtnljcppefnaapaaHoXb
import Derived.Test.YtnljcppefnaapaaHoOpen
import Derived.ProofKit
import Derived.OpenShut
import Derived.ShutString
import Derived.ChangeOld
import Derived.Below
import Derived.Lib.SmallJoins
namespace Go.Proofs.Ytnljcppefnaapaa
open Go.ChangeShapes Go.WideShapes Go.ChangeAt Go.RowKit Go.Joins
open Go.ChangeMaps (open_string shut_string)

namespace fnExactRelsOrder
set_option linter.unusedVariables false
theorem own : ownKnob Try.prog.godebug = none := fpOwn
theorem laidOut : laidOutB Try.prog = true := fpLaid
set_option maxRecDepth 100000 in
theorem lifted (os : Os) (started : os.Started) (H : Type) (enc : TypeId × Value → H) :
    ReturnsInHanded {} Try.checked os 16 .any (Rows.fnExactRelsOrderSpec.pre6 enc Try.prog Try.f16 Rows.fnExactRelsOrderRow.domain false) (Rows.fnExactRelsOrderSpec.post enc Try.prog Try.f16 false true false false) := by
  refine returnsInHanded_of_change (C := Try.checked) own started (by kernel_rfl) Try.func16
    (ChangeSpec.witness6 (enc := enc) (C := Try.checked) false ⟨#[], #[.slice none 0 0], []⟩ 8 (by kernel_rfl) (by kernel_rfl) (by kernel_rfl) (by kernel_rfl)) ?_
  intro W base args ds gs before hval0 hW hcnd _
  have hval : ∀ (j : Nat) t v, Try.f16.params[j]? = some t → args[j]? = some v → Value.okWide Try.prog W .any base t v := hval0
  have hW' := hW
  obtain ⟨p, q, hA0, hV, rfl, hfz, hnd⟩ := hW
  have hA : DataW.TrodAll enc Try.prog W 0 (fun _ => true) true Try.f16.params.toList args.toList ds p := hA0
  rw [Try.params16] at hA hval
  obtain ⟨v0, vs0, d0, ds0, p0, q0, hargs, rfl, rfl, h0, r0⟩ := trodAll_cons hA
  obtain ⟨rfl, rfl, rfl⟩ := trodAll_nil r0
  obtain rfl : args = #[v0] := by cases args; simp_all
  obtain ⟨rfl, rfl⟩ := trodVars_none hV
  have k0 := h0
  have lt0 : ∀ x ∈ p0, x.block < W.heap.size := by obtain ⟨m, hm⟩ := k0; exact DataW.trod_lt m _ _ _ hm
  obtain ⟨a0, len0, cap0, rfl⟩ := okWide_slice Try.underlying23 (hval 0 23 v0 rfl rfl)
  obtain ⟨L0, nn0, wx0, mx0, nx0⟩ := open_intSS h0
  clear hA0 hval0
  refine (exactRelsOrder_walk a0 len0 cap0 L0 W nn0 wx0 mx0 nx0).mono fun e W' ⟨he, bel⟩ => ?_
  subst he
  exact ⟨_, rfl, _, _, _, [], _, [], hW', trodAll_mk1 (shut_bool Try.underlying4 _), (trodAll_cons_mk (Below.trod laidOut (by kernel_rfl) (of_decide_eq_true (by kernel_rfl)) k0 bel lt0) trodAll_mk0), rfl, bel.frame _, fun h => by cases h⟩

theorem k1 : (Rows.fnExactRelsOrderRow.wf (OpenSpec.ofChange Rows.fnExactRelsOrderSpec)) = true := by kernel_rfl
theorem k4 : (Try.f16.params.all (Try.prog.readableRec ·)) = true := by kernel_rfl
theorem k5 : (namedTie Try.prog Rows.fnExactRelsOrderRow.named Rows.fnExactRelsOrderSpec.vars) = true := by kernel_rfl
theorem k6 : (Rows.fnExactRelsOrderRow.stops == []) = true := by kernel_rfl
theorem k8 : (Rows.fnExactRelsOrderRow.knobs == []) = true := by kernel_rfl
theorem k10 : (Rows.fnExactRelsOrderRow.inPlace == Try.prog.inPlace 16) = true := by kernel_rfl
theorem k11 : (Rows.fnExactRelsOrderRow.unfollowed == Try.prog.unfollowed 16) = true := by kernel_rfl
theorem k12 : (Rows.fnExactRelsOrderRow.recurses == Try.prog.recurses 16) = true := by kernel_rfl
theorem k13 : (Rows.fnExactRelsOrderRow.named == Try.prog.varsNamed 16) = true := by kernel_rfl
theorem k14 : (Rows.fnExactRelsOrderRow.maps == (Try.f16.params.toList ++ Rows.fnExactRelsOrderSpec.plain.varTypes Try.prog).any (Try.prog.mapsRec ·)) = true := by kernel_rfl
theorem k15 : (Rows.fnExactRelsOrderRow.ifaces == (Try.f16.params.toList ++ Rows.fnExactRelsOrderSpec.plain.varTypes Try.prog).any (Try.prog.ifacesRec ·)) = true := by kernel_rfl
theorem k16 : (Rows.fnExactRelsOrderRow.mapsOut == Try.prog.mapsAmong Try.f16.resultTypes.toList) = true := by kernel_rfl
theorem k17 : (Rows.fnExactRelsOrderRow.loops == (Try.f16.params.toList ++ Rows.fnExactRelsOrderSpec.plain.varTypes Try.prog).any (Try.prog.loopsFrom ·)) = true := by kernel_rfl
theorem k17b : (Rows.fnExactRelsOrderRow.wideKeys == (Try.f16.params.toList ++ Rows.fnExactRelsOrderSpec.plain.varTypes Try.prog ++ Try.f16.resultTypes.toList).any (Try.prog.wideKeysFrom ·)) = true := by kernel_rfl
theorem k18 : (Rows.fnExactRelsOrderSpec.vars.all (Try.prog.varReadable ·)) = true := by kernel_rfl
theorem k19 : (Try.f16.resultTypes.all (fun t => Try.prog.readableRec t && decide (t < Try.prog.types.size))) = true := by kernel_rfl
theorem k20 : (Rows.fnExactRelsOrderRow.ifacesOut == Try.f16.resultTypes.toList.any (Try.prog.ifacesRec ·)) = true := by kernel_rfl
theorem k21 : (Rows.fnExactRelsOrderRow.loopsOut == Try.f16.resultTypes.toList.any (Try.prog.loopsFrom ·)) = true := by kernel_rfl
theorem k23 : (Rows.fnExactRelsOrderRow.shortTexts.isNone) = true := by kernel_rfl
theorem k25 : (Rows.fnExactRelsOrderRow.kinds == (if Rows.fnExactRelsOrderRow.domain.isEmpty then [] else Try.f16.params.toList.map fun t => match Try.prog.underlying t with | some (.int k) => some k | _ => none)) = true := by kernel_rfl
theorem k26 : (Rows.fnExactRelsOrderRow.pinned == Rows.fnExactRelsOrderRow.pinnedBy) = true := by kernel_rfl
theorem k27 : (Rows.fnExactRelsOrderRow.veiled == (Try.f16.params.toList ++ Rows.fnExactRelsOrderSpec.plain.varTypes Try.prog ++ Try.f16.resultTypes.toList).any (Try.prog.veiledRec ·)) = true := by kernel_rfl
theorem k28 : (Rows.fnExactRelsOrderRow.veiledFits Try.prog Try.f16.params.toList (Try.f16.params.toList ++ Rows.fnExactRelsOrderSpec.plain.varTypes Try.prog ++ Try.f16.resultTypes.toList)) = true := by kernel_rfl
set_option maxRecDepth 100000 in
theorem closed : joinedFacts Try.prog 16 Try.f16 Rows.fnExactRelsOrderSpec Rows.fnExactRelsOrderRow = true := and2 (and2 (and2 (and2 (and2 (and2 (and2 (and2 (and2 (and2 (and2 (and2 (and2 (and2 (and2 (and2 (and2 (and2 (and2 (and2 (and2 (and2 (and2 (and2 (and2 (and2 (and2 (and2 (and2 (and2 (and2 k1 fpLaid) fpMaps) k4) k5) k6) fpStops) k8) fpKnobs) k10) k11) k12) k13) k14) k15) k16) k17) k17b) k18) k19) k20) k21) fpPlain) k23) fpHeard) fpEnter) fpLift) fpMake) k25) k26) k27) k28
theorem over : Rows.fnExactRelsOrderRow.holds Try.pinned (OpenSpec.ofChange Rows.fnExactRelsOrderSpec) :=
  OpenClaim.holds_of_wide 16 Try.f16 rfl rfl rfl rfl rfl rfl rfl ⟨rfl, rfl, rfl, rfl, rfl⟩ rfl rfl rfl rfl rfl (by kernel_rfl) Try.func16 closed
    (of_decide_eq_true (by kernel_rfl)) (by unfold Func.isWrapper; first | (rw [if_pos (by decide +kernel)]; kernel_rfl) | (rw [if_neg (by decide +kernel)]; exact ⟨rfl, rfl⟩))
    (fun os started H enc _ => lifted os started H enc)
end fnExactRelsOrder

theorem fnExactRelsOrder_holds : Rows.FnExactRelsOrderSaid := fnExactRelsOrder.over
#print axioms fnExactRelsOrder_holds
end Go.Proofs.Ytnljcppefnaapaa
