/- For every input, the program's PolicyAll answers as the document's model of it does, leaves its arguments as they were, and what it answers is its own memory: the statement over the program's error variable, tied to the program's text. -/
import Derived.Test.YtioppkalehnoaaaGreatDoorCards
import Derived.Test.YtioppkalehnoaaaGreatDoorTie
import Derived.Test.YtioppkalehnoaaaGreatDoorROpen
import Derived.Test.YtioppkalehnoaaaGreatDoorClOpen
import Derived.Test.YtioppkalehnoaaaGreatDoorFacts
import Derived.Test.YtioppkalehnoaaaGreatDoorKExactPolicyAll
import Derived.Test.YtioppkalehnoaaaGreatDoorClExD
import Derived.Test.YtioppkalehnoaaaGreatDoorClRo
import Derived.Deep.DeepWitnessRowRef
import Derived.Lay
namespace Go.Proofs.YtioppkalehnoaaaGreatDoor
open Go.ChangeShapes Go.WideShapes Go.ChangeAt Go.RowKit Go.Joins
open Go.ChangeMaps (open_string shut_string)

theorem facts_of {W : World} (h : laidMetH Tryz.prog Rows.fnExactPolicyAllRow.laid W) : ∃ p, ErrIs W p ∧ True := by
  have h0 : laidMet Tryz.prog Rows.fnExactPolicyAllRow.laid W := h
  exact one_fact h0

namespace fnExactPolicyAll
set_option linter.unusedVariables false
theorem own : ownKnob Tryz.prog.godebug = none := by kernel_rfl
theorem laidOut : laidOutB Tryz.prog = true := by kernel_rfl
set_option maxRecDepth 100000 in
theorem contract (H : Type) (enc : TypeId × Value → H) (W : World) (base : Nat) (args : Array Value) (ds gs : List (DataW H)) (before : List MemPlace)
    (hval : ∀ (j : Nat) t v, Tryz.f4.params[j]? = some t → args[j]? = some v → Value.okWide Tryz.prog W .any base t v)
    (hW : DataW.Whole enc Tryz.prog Tryz.f4.params.toList Rows.fnExactPolicyAllSpec.vars false W args.toList ds gs before) (hL : laidMetH Tryz.prog Rows.fnExactPolicyAllRow.laid W) :
    Calls Tryz.prog 4 args W fun e W' => ∃ v, e = .returned v ∧ Rows.fnExactPolicyAllSpec.post enc Tryz.prog Tryz.f4 false true false false W args v W' := by
  have hW' := hW
  obtain ⟨p, q, hA0, hV, rfl, hfz, hnd⟩ := hW
  have hA : DataW.TrodAll enc Tryz.prog W 0 (fun _ => true) true Tryz.f4.params.toList args.toList ds p := hA0
  rw [Tryz.params4] at hA hval
  obtain ⟨v0, vs0, d0, ds0, p0, q0, hargs, rfl, rfl, h0, r0⟩ := trodAll_cons hA
  obtain ⟨v1, vs1, d1, ds1, p1, q1, rfl, rfl, rfl, h1, r1⟩ := trodAll_cons r0
  obtain ⟨rfl, rfl, rfl⟩ := trodAll_nil r1
  obtain rfl : args = #[v0, v1] := by cases args; simp_all
  have hV1 : DataW.TrodVars enc Tryz.prog W (fun _ => true) ["loop.example/wayboard/impl.errNoPath"] gs q := hV
  obtain ⟨pE, hvE, hxE⟩ := facts_of hL
  have vr : ∀ {X : World}, ErrIs X pE → ∀ sp : Nat → Bool, DataW.TrodVars enc Tryz.prog X sp ["loop.example/wayboard/impl.errNoPath"] [tok enc (errV pE)] [.cell 0 0] := fun x sp => vars_read1 enc gErr gErrType Tryz.underlying100 x trivial sp
  obtain ⟨rfl, rfl⟩ := hV1.unique (vr hvE _)
  have k0 := h0
  have lt0 : ∀ x ∈ p0, x.block < W.heap.size := by obtain ⟨m, hm⟩ := k0; exact DataW.trod_lt m _ _ _ hm
  have k1 := h1
  have lt1 : ∀ x ∈ p1, x.block < W.heap.size := by obtain ⟨m, hm⟩ := k1; exact DataW.trod_lt m _ _ _ hm
  obtain ⟨a0, len0, cap0, rfl⟩ := okWide_slice Tryz.underlying22 (hval 0 22 v0 rfl rfl)
  obtain ⟨L0, nn0, wx0, nx0⟩ := open_clS h0
  obtain ⟨a1, len1, cap1, rfl⟩ := okWide_slice Tryz.underlying43 (hval 1 43 v1 rfl rfl)
  obtain ⟨L1, nn1, wx1, nx1⟩ := open_rtS h1
  clear hA0
  refine (exactPolicyAll_walk a0 len0 cap0 L0 a1 len1 cap1 L1 W nn0 wx0 nx0 nn1 wx1 nx1 pE hvE.ev hxE).mono fun e W' ⟨he, bel⟩ => ?_
  subst he
  exact ⟨_, rfl, _, _, _, [], _, [.cell 0 0], hW', trodAll_mk1 (shut_bool Tryz.underlying4 _), (trodAll_cons_mk (Below.trod laidOut (by kernel_rfl) (of_decide_eq_true (by kernel_rfl)) k0 bel lt0) (trodAll_cons_mk (Below.trod laidOut (by kernel_rfl) (of_decide_eq_true (by kernel_rfl)) k1 bel lt1) trodAll_mk0)), vr (Joins.var_stays gErr hvE bel (Nat.le_refl _)) _, bel.frame _, fun h => by cases h⟩
theorem met (os : Os) : laidMet Tryz.prog Rows.fnExactPolicyAllRow.laid ((doorWorld os).forCall (fun _ _ => 0) ⟨#[], #[.slice none 0 0, .slice none 0 0], []⟩).memory :=
  laidMet_of_run' 8 (by kernel_rfl) (by kernel_rfl)
theorem reads (os : Os) {H : Type} (enc : TypeId × Value → H) : ∃ places, DataW.whole enc Tryz.prog ((doorWorld os).forCall (fun _ _ => 0) ⟨#[], #[.slice none 0 0, .slice none 0 0], []⟩).memory Tryz.f4.params.toList Rows.fnExactPolicyAllSpec.vars false (#[.slice none 0 0, .slice none 0 0] : Array Value).toList 8 = some ([.nil, .nil], [tok enc (errV ⟨6, 0, none⟩)], places) :=
  ⟨[.cell 0 0], by kernel_rfl⟩
set_option maxRecDepth 100000 in
theorem lifted (os : Os) (started : os.Started) (H : Type) (enc : TypeId × Value → H) (F : Stop.Interp) :
    ReturnsInHanded {} Tryz.checked os 4 .any ((OpenSpec.ofChange Rows.fnExactPolicyAllSpec).preRow enc Tryz.prog Tryz.f4 Rows.fnExactPolicyAllRow.domain false Rows.fnExactPolicyAllRow.laid) (((OpenSpec.ofChange Rows.fnExactPolicyAllSpec).at F).post enc Tryz.prog Tryz.f4 false true false false) := by
  obtain ⟨places, hx⟩ := reads os enc
  refine returnsInHanded_of_row (C := Tryz.checked) (s := OpenSpec.ofChange Rows.fnExactPolicyAllSpec) own started (by kernel_rfl) Tryz.func4
    (witness_row_atRef (enc := enc) (C := Tryz.checked) false (doorWorld os) #[.slice none 0 0, .slice none 0 0] rfl (by kernel_rfl) (by kernel_rfl) (by kernel_rfl)
      (OpenSpec.preRow_of_cond 8 hx (by kernel_rfl) (fun k hk => by cases hk) (by kernel_rfl) (met os))) ?_
  intro W base args ds gs before hval hW _ _ _ hL _ _
  exact contract H enc W base args ds gs before hval hW hL
set_option maxRecDepth 100000 in
theorem said : Rows.FnExactPolicyAllSaid :=
  OpenClaim.holds_of_cond 4 Tryz.f4 rfl rfl rfl rfl rfl rfl rfl ⟨rfl, rfl, rfl, rfl, rfl⟩ rfl rfl rfl rfl rfl (by kernel_rfl) Tryz.func4 closed
    (of_decide_eq_true (by kernel_rfl)) (by unfold Func.isWrapper; first | (rw [if_pos (by decide +kernel)]; kernel_rfl) | (rw [if_neg (by decide +kernel)]; exact ⟨rfl, rfl⟩))
    (fun os started H enc _ F => by rw [OpenClaim.pre_eq_preRow]; exact lifted os started H enc F)
theorem plain (f : FuncId) (fn : Func) (hf : Tryz.pinned.checked.prog.funcNamed "loop.example/wayboard/laws.FnExactPolicyAll" = some f) (hfn : Tryz.pinned.checked.prog.funcs[f]? = some fn) :
    true = Tryz.pinned.checked.prog.looks [] ∧ ∀ (j : Nat) t, fn.params[j]? = some t → Tryz.pinned.checked.prog.wantsStandIn t = false := by
  obtain rfl : f = 4 := Option.some.inj ((show Tryz.prog.funcNamed "loop.example/wayboard/laws.FnExactPolicyAll" = some 4 by kernel_rfl).symm.trans hf) |>.symm
  obtain rfl : fn = Tryz.f4 := (Option.some.inj (Tryz.func4.symm.trans hfn)).symm
  refine ⟨by kernel_rfl, fun j t ht => ?_⟩
  rw [Tryz.params4] at ht
  obtain rfl | rfl : t = 22 ∨ t = 43 := by simpa using Array.mem_of_getElem? ht
  · exact (show Tryz.prog.wantsStandIn 22 = false by kernel_rfl)
  · exact (show Tryz.prog.wantsStandIn 43 = false by kernel_rfl)
end fnExactPolicyAll

theorem fnExactPolicyAll_holds : Rows.FnExactPolicyAllCardSaid :=
  Claim7.holds_tied_plain_at .later [] _ _ _ _ fnExactPolicyAll.said (fun _ h => by cases h) fnExactPolicyAll.kw (fun _ h => by cases h) fnExactPolicyAll_row_tie rfl ⟨rfl, rfl⟩ (by kernel_rfl) rfl fnExactPolicyAll.plain fnExactPolicyAll.kg
#print axioms fnExactPolicyAll_holds
end Go.Proofs.YtioppkalehnoaaaGreatDoor
