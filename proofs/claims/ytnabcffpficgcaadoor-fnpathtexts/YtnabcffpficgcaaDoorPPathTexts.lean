/- For every code of bytes, the law that two drawn paths have two texts holds of the program and of the document's model: the statement over the program's error variable, tied to the program's text. -/
import Derived.Test.YtnabcffpficgcaaDoorCards
import Derived.Test.YtnabcffpficgcaaDoorTie
import Derived.Test.YtnabcffpficgcaaDoorPOpen
import Derived.Test.YtnabcffpficgcaaDoorFacts
import Derived.Test.YtnabcffpficgcaaDoorPLawE
import Derived.Deep.DeepWitnessRowRef
namespace Go.Proofs.YtnabcffpficgcaaDoor
open Go.ChangeShapes Go.WideShapes Go.ChangeAt Go.RowKit Go.Joins
open Go.ChangeMaps (open_string shut_string)

theorem facts_of {W : World} (h : laidMetH Tryd.prog Rows.fnPathTextsRow.laid W) : ∃ p, ErrIs W p ∧ True := by
  have h0 : laidMet Tryd.prog Rows.fnPathTextsRow.laid W := h
  exact text_fact h0

namespace fnPathTexts
set_option linter.unusedVariables false
theorem own : ownKnob Tryd.prog.godebug = none := by kernel_rfl
theorem laidOut : laidOutB Tryd.prog = true := by kernel_rfl
set_option maxRecDepth 100000 in
theorem contract (H : Type) (enc : TypeId × Value → H) (W : World) (base : Nat) (args : Array Value) (ds gs : List (DataW H)) (before : List MemPlace)
    (hval : ∀ (j : Nat) t v, Tryd.f17.params[j]? = some t → args[j]? = some v → Value.okWide Tryd.prog W .any base t v)
    (hW : DataW.Whole enc Tryd.prog Tryd.f17.params.toList Rows.fnPathTextsSpec.vars false W args.toList ds gs before) (hL : laidMetH Tryd.prog Rows.fnPathTextsRow.laid W) :
    Calls Tryd.prog 17 args W fun e W' => ∃ v, e = .returned v ∧ Rows.fnPathTextsSpec.post enc Tryd.prog Tryd.f17 false true false false W args v W' := by
  have hW' := hW
  obtain ⟨p, q, hA0, hV, rfl, hfz, hnd⟩ := hW
  have hA : DataW.TrodAll enc Tryd.prog W 0 (fun _ => true) true Tryd.f17.params.toList args.toList ds p := hA0
  rw [Tryd.params17] at hA hval
  obtain ⟨v0, vs0, d0, ds0, p0, q0, hargs, rfl, rfl, h0, r0⟩ := trodAll_cons hA
  obtain ⟨rfl, rfl, rfl⟩ := trodAll_nil r0
  obtain rfl : args = #[v0] := by cases args; simp_all
  have hV1 : DataW.TrodVars enc Tryd.prog W (fun _ => true) ["loop.example/wayboard/impl.errNoPath"] gs q := hV
  obtain ⟨pE, hvE, hxE⟩ := facts_of hL
  have vr : ∀ {X : World}, ErrIs X pE → ∀ sp : Nat → Bool, DataW.TrodVars enc Tryd.prog X sp ["loop.example/wayboard/impl.errNoPath"] [tok enc (errV pE)] [.cell 0 0] := fun x sp => vars_read1 enc gErr gErrType Tryd.underlying48 x trivial sp
  obtain ⟨rfl, rfl⟩ := hV1.unique (vr hvE _)
  have k0 := h0
  have lt0 : ∀ x ∈ p0, x.block < W.heap.size := by obtain ⟨m, hm⟩ := k0; exact DataW.trod_lt m _ _ _ hm
  obtain ⟨a0, len0, cap0, rfl⟩ := okWide_slice Tryd.underlying34 (hval 0 34 v0 rfl rfl)
  obtain ⟨zs0, wx0⟩ : ∃ zs, IsRow W a0 len0 cap0 zs := by
    obtain ⟨fuel, hf⟩ := h0
    rcases open_ints Tryd.underlying34 Tryd.underlying5 (by kernel_rfl) hf with ⟨hcs, _⟩ | ⟨x, l, c, zs, hcs, _, hl, hm, hz, _, hcell, hwz⟩
    · simp [Value.cells] at hcs
      obtain ⟨rfl, rfl, rfl⟩ := hcs
      exact ⟨[], .inl ⟨rfl, rfl, rfl, rfl⟩⟩
    · simp [Value.cells] at hcs
      obtain ⟨rfl, rfl, rfl⟩ := hcs
      exact ⟨zs, .inr ⟨_, rfl, hl, hm, by simpa using hz, hcell, hwz⟩⟩
  clear hA0
  refine (lawPathTexts a0 len0 cap0 zs0 W wx0 pE hvE.ev hxE).mono fun e W' ⟨he, bel⟩ => ?_
  subst he
  exact ⟨_, rfl, _, _, _, [], _, [.cell 0 0], hW', trodAll_mk1 (shut_bool Tryd.underlying4 _), (trodAll_cons_mk (Below.trod laidOut (by kernel_rfl) (of_decide_eq_true (by kernel_rfl)) k0 bel lt0) trodAll_mk0), vr (Joins.var_stays gErr hvE bel (Nat.le_refl _)) _, bel.frame _, fun h => by cases h⟩
theorem met (os : Os) : laidMet Tryd.prog Rows.fnPathTextsRow.laid ((doorWorld os).forCall (fun _ _ => 0) ⟨#[], #[.slice none 0 0], []⟩).memory :=
  laidMet_of_run' 8 (by kernel_rfl) (by kernel_rfl)
theorem reads (os : Os) {H : Type} (enc : TypeId × Value → H) : ∃ places, DataW.whole enc Tryd.prog ((doorWorld os).forCall (fun _ _ => 0) ⟨#[], #[.slice none 0 0], []⟩).memory Tryd.f17.params.toList Rows.fnPathTextsSpec.vars false (#[.slice none 0 0] : Array Value).toList 8 = some ([.nil], [tok enc (errV ⟨16, 0, none⟩)], places) :=
  ⟨[.cell 0 0], by kernel_rfl⟩
set_option maxRecDepth 100000 in
theorem lifted (os : Os) (started : os.Started) (H : Type) (enc : TypeId × Value → H) (F : Stop.Interp) :
    ReturnsInHanded {} Tryd.checked os 17 .any ((OpenSpec.ofChange Rows.fnPathTextsSpec).preRow enc Tryd.prog Tryd.f17 Rows.fnPathTextsRow.domain false Rows.fnPathTextsRow.laid) (((OpenSpec.ofChange Rows.fnPathTextsSpec).at F).post enc Tryd.prog Tryd.f17 false true false false) := by
  obtain ⟨places, hx⟩ := reads os enc
  refine returnsInHanded_of_row (C := Tryd.checked) (s := OpenSpec.ofChange Rows.fnPathTextsSpec) own started (by kernel_rfl) Tryd.func17
    (witness_row_atRef (enc := enc) (C := Tryd.checked) false (doorWorld os) #[.slice none 0 0] rfl (by kernel_rfl) (by kernel_rfl) (by kernel_rfl)
      (OpenSpec.preRow_of_cond 8 hx (by kernel_rfl) (fun k hk => by cases hk) (by kernel_rfl) (met os))) ?_
  intro W base args ds gs before hval hW _ _ _ hL _ _
  exact contract H enc W base args ds gs before hval hW hL
theorem k1 : (Rows.fnPathTextsRow.wf (OpenSpec.ofChange (OpenSpec.ofChange Rows.fnPathTextsSpec).bare)) = true := by kernel_rfl
theorem k4 : (Tryd.f17.params.all (Tryd.prog.readableRec ·)) = true := by kernel_rfl
theorem k5 : (namedTie Tryd.prog Rows.fnPathTextsRow.named (OpenSpec.ofChange Rows.fnPathTextsSpec).bare.vars) = true := by kernel_rfl
theorem k6 : (Rows.fnPathTextsRow.stops == []) = true := by kernel_rfl
theorem k8 : (Rows.fnPathTextsRow.knobs == []) = true := by kernel_rfl
theorem k10 : (Rows.fnPathTextsRow.inPlace == Tryd.prog.inPlace 17) = true := by kernel_rfl
theorem k11 : (Rows.fnPathTextsRow.unfollowed == Tryd.prog.unfollowed 17) = true := by kernel_rfl
theorem k12 : (Rows.fnPathTextsRow.recurses == Tryd.prog.recurses 17) = true := by kernel_rfl
theorem k13 : (Rows.fnPathTextsRow.named == Tryd.prog.varsNamed 17) = true := by kernel_rfl
theorem k14 : (Rows.fnPathTextsRow.maps == (Tryd.f17.params.toList ++ (OpenSpec.ofChange Rows.fnPathTextsSpec).bare.plain.varTypes Tryd.prog).any (Tryd.prog.mapsRec ·)) = true := by kernel_rfl
theorem k15 : (Rows.fnPathTextsRow.ifaces == (Tryd.f17.params.toList ++ (OpenSpec.ofChange Rows.fnPathTextsSpec).bare.plain.varTypes Tryd.prog).any (Tryd.prog.ifacesRec ·)) = true := by kernel_rfl
theorem k16 : (Rows.fnPathTextsRow.mapsOut == Tryd.prog.mapsAmong Tryd.f17.resultTypes.toList) = true := by kernel_rfl
theorem k17 : (Rows.fnPathTextsRow.loops == (Tryd.f17.params.toList ++ (OpenSpec.ofChange Rows.fnPathTextsSpec).bare.plain.varTypes Tryd.prog).any (Tryd.prog.loopsFrom ·)) = true := by kernel_rfl
theorem k17b : (Rows.fnPathTextsRow.wideKeys == (Tryd.f17.params.toList ++ (OpenSpec.ofChange Rows.fnPathTextsSpec).bare.plain.varTypes Tryd.prog ++ Tryd.f17.resultTypes.toList).any (Tryd.prog.wideKeysFrom ·)) = true := by kernel_rfl
theorem k18 : ((OpenSpec.ofChange Rows.fnPathTextsSpec).bare.vars.all (Tryd.prog.varReadable ·)) = true := by kernel_rfl
theorem k19 : (Tryd.f17.resultTypes.all (fun t => Tryd.prog.readableRec t && decide (t < Tryd.prog.types.size))) = true := by kernel_rfl
theorem k20 : (Rows.fnPathTextsRow.ifacesOut == Tryd.f17.resultTypes.toList.any (Tryd.prog.ifacesRec ·)) = true := by kernel_rfl
theorem k21 : (Rows.fnPathTextsRow.loopsOut == Tryd.f17.resultTypes.toList.any (Tryd.prog.loopsFrom ·)) = true := by kernel_rfl
theorem k23 : (Rows.fnPathTextsRow.shortTexts.isNone) = true := by kernel_rfl
theorem k25 : (Rows.fnPathTextsRow.kinds == (if Rows.fnPathTextsRow.domain.isEmpty then [] else Tryd.f17.params.toList.map fun t => match Tryd.prog.underlying t with | some (.int k) => some k | _ => none)) = true := by kernel_rfl
theorem k26 : (Rows.fnPathTextsRow.pinned == Rows.fnPathTextsRow.pinnedBy) = true := by kernel_rfl
theorem k27 : (Rows.fnPathTextsRow.veiled == (Tryd.f17.params.toList ++ (OpenSpec.ofChange Rows.fnPathTextsSpec).bare.plain.varTypes Tryd.prog ++ Tryd.f17.resultTypes.toList).any (Tryd.prog.veiledRec ·)) = true := by kernel_rfl
theorem k28 : (Rows.fnPathTextsRow.veiledFits Tryd.prog Tryd.f17.params.toList (Tryd.f17.params.toList ++ (OpenSpec.ofChange Rows.fnPathTextsSpec).bare.plain.varTypes Tryd.prog ++ Tryd.f17.resultTypes.toList)) = true := by kernel_rfl
set_option maxRecDepth 100000 in
theorem closed : joinedFacts Tryd.prog 17 Tryd.f17 (OpenSpec.ofChange Rows.fnPathTextsSpec).bare Rows.fnPathTextsRow = true := and2 (and2 (and2 (and2 (and2 (and2 (and2 (and2 (and2 (and2 (and2 (and2 (and2 (and2 (and2 (and2 (and2 (and2 (and2 (and2 (and2 (and2 (and2 (and2 (and2 (and2 (and2 (and2 (and2 (and2 (and2 k1 fpLaid) fpMaps) k4) k5) k6) fpStops) k8) fpKnobs) k10) k11) k12) k13) k14) k15) k16) k17) k17b) k18) k19) k20) k21) fpPlain) k23) fpHeard) fpEnter) fpLift) fpMake) k25) k26) k27) k28
set_option maxRecDepth 100000 in
theorem said : Rows.FnPathTextsSaid :=
  OpenClaim.holds_of_cond 17 Tryd.f17 rfl rfl rfl rfl rfl rfl rfl ⟨rfl, rfl, rfl, rfl, rfl⟩ rfl rfl rfl rfl rfl (by kernel_rfl) Tryd.func17 closed
    (of_decide_eq_true (by kernel_rfl)) (by unfold Func.isWrapper; first | (rw [if_pos (by decide +kernel)]; kernel_rfl) | (rw [if_neg (by decide +kernel)]; exact ⟨rfl, rfl⟩))
    (fun os started H enc _ F => by rw [OpenClaim.pre_eq_preRow]; exact lifted os started H enc F)
theorem plain (f : FuncId) (fn : Func) (hf : Tryd.pinned.checked.prog.funcNamed "loop.example/wayboard/laws.FnPathTexts" = some f) (hfn : Tryd.pinned.checked.prog.funcs[f]? = some fn) :
    true = Tryd.pinned.checked.prog.looks [] ∧ ∀ (j : Nat) t, fn.params[j]? = some t → Tryd.pinned.checked.prog.wantsStandIn t = false := by
  obtain rfl : f = 17 := Option.some.inj ((show Tryd.prog.funcNamed "loop.example/wayboard/laws.FnPathTexts" = some 17 by kernel_rfl).symm.trans hf) |>.symm
  obtain rfl : fn = Tryd.f17 := (Option.some.inj (Tryd.func17.symm.trans hfn)).symm
  refine ⟨by kernel_rfl, fun j t ht => ?_⟩
  rw [Tryd.params17] at ht
  obtain rfl : t = 34 := by simpa using Array.mem_of_getElem? ht
  · exact (show Tryd.prog.wantsStandIn 34 = false by kernel_rfl)
end fnPathTexts

theorem fnPathTexts_holds : Rows.FnPathTextsCardSaid :=
  Claim7.holds_tied_plain_at .later [] _ _ _ _ fnPathTexts.said (fun _ h => by cases h) (by kernel_rfl) (fun _ h => by cases h) fnPathTexts_row_tie rfl ⟨rfl, rfl⟩ (by kernel_rfl) rfl fnPathTexts.plain (by kernel_rfl)
#print axioms fnPathTexts_holds
end Go.Proofs.YtnabcffpficgcaaDoor
