/- For every code of bytes, the law that a rest of a drawn path is a path, which does not have what is ahead, holds of the program and of the document's model: the statement over the program's error variable, tied to the program's text. -/
import Derived.Test.YtnabcffpficgcaaDoorCards
import Derived.Test.YtnabcffpficgcaaDoorTie
import Derived.Test.YtnabcffpficgcaaDoorPOpen
import Derived.Test.YtnabcffpficgcaaDoorFacts
import Derived.Test.YtnabcffpficgcaaDoorPLawF
import Derived.Deep.DeepWitnessRowRef
namespace Go.Proofs.YtnabcffpficgcaaDoor
open Go.ChangeShapes Go.WideShapes Go.ChangeAt Go.RowKit Go.Joins
open Go.ChangeMaps (open_string shut_string)

theorem facts_of {W : World} (h : laidMetH Tryd.prog Rows.fnPathRestRow.laid W) : ∃ p, ErrIs W p ∧ True := by
  have h0 : laidMet Tryd.prog Rows.fnPathRestRow.laid W := h
  exact text_fact h0

namespace fnPathRest
set_option linter.unusedVariables false
theorem own : ownKnob Tryd.prog.godebug = none := by kernel_rfl
theorem laidOut : laidOutB Tryd.prog = true := by kernel_rfl
set_option maxRecDepth 100000 in
theorem contract (H : Type) (enc : TypeId × Value → H) (W : World) (base : Nat) (args : Array Value) (ds gs : List (DataW H)) (before : List MemPlace)
    (hval : ∀ (j : Nat) t v, Tryd.f16.params[j]? = some t → args[j]? = some v → Value.okWide Tryd.prog W .any base t v)
    (hW : DataW.Whole enc Tryd.prog Tryd.f16.params.toList Rows.fnPathRestSpec.vars false W args.toList ds gs before) (hL : laidMetH Tryd.prog Rows.fnPathRestRow.laid W) :
    Calls Tryd.prog 16 args W fun e W' => ∃ v, e = .returned v ∧ Rows.fnPathRestSpec.post enc Tryd.prog Tryd.f16 false true false false W args v W' := by
  have hW' := hW
  obtain ⟨p, q, hA0, hV, rfl, hfz, hnd⟩ := hW
  have hA : DataW.TrodAll enc Tryd.prog W 0 (fun _ => true) true Tryd.f16.params.toList args.toList ds p := hA0
  rw [Tryd.params16] at hA hval
  obtain ⟨v0, vs0, d0, ds0, p0, q0, hargs, rfl, rfl, h0, r0⟩ := trodAll_cons hA
  obtain ⟨v1, vs1, d1, ds1, p1, q1, rfl, rfl, rfl, h1, r1⟩ := trodAll_cons r0
  obtain ⟨rfl, rfl, rfl⟩ := trodAll_nil r1
  obtain rfl : args = #[v0, v1] := by cases args; simp_all
  have hV1 : DataW.TrodVars enc Tryd.prog W (fun _ => true) ["loop.example/wayboard/impl.errNoPath"] gs q := hV
  obtain ⟨pE, hvE, hxE⟩ := facts_of hL
  have vr : ∀ {X : World}, ErrIs X pE → ∀ sp : Nat → Bool, DataW.TrodVars enc Tryd.prog X sp ["loop.example/wayboard/impl.errNoPath"] [tok enc (errV pE)] [.cell 0 0] := fun x sp => vars_read1 enc gErr gErrType Tryd.underlying48 x trivial sp
  obtain ⟨rfl, rfl⟩ := hV1.unique (vr hvE _)
  have k0 := h0
  have lt0 : ∀ x ∈ p0, x.block < W.heap.size := by obtain ⟨m, hm⟩ := k0; exact DataW.trod_lt m _ _ _ hm
  have k1 := h1
  have lt1 : ∀ x ∈ p1, x.block < W.heap.size := by obtain ⟨m, hm⟩ := k1; exact DataW.trod_lt m _ _ _ hm
  obtain ⟨a0, len0, cap0, rfl⟩ := okWide_slice Tryd.underlying34 (hval 0 34 v0 rfl rfl)
  obtain ⟨zs0, wx0⟩ : ∃ zs, IsRow W a0 len0 cap0 zs := by
    obtain ⟨fuel, hf⟩ := h0
    rcases open_ints Tryd.underlying34 Tryd.underlying5 (by kernel_rfl) hf with ⟨hcs, _⟩ | ⟨x, l, c, zs, hcs, _, hl, hm, hz, _, hcell, hwz⟩
    · simp [Value.cells] at hcs
      obtain ⟨rfl, rfl, rfl⟩ := hcs
      exact ⟨[], .inl ⟨rfl, rfl, rfl, rfl⟩⟩
    · simp [Value.cells] at hcs
      obtain ⟨rfl, rfl, rfl⟩ := hcs
      exact ⟨zs, .inr ⟨_, rfl, hl, hm, by simpa using hz, hcell, hwz⟩⟩
  obtain ⟨a1, len1, cap1, rfl⟩ := okWide_slice Tryd.underlying34 (hval 1 34 v1 rfl rfl)
  obtain ⟨zs1, wx1⟩ : ∃ zs, IsRow W a1 len1 cap1 zs := by
    obtain ⟨fuel, hf⟩ := h1
    rcases open_ints Tryd.underlying34 Tryd.underlying5 (by kernel_rfl) hf with ⟨hcs, _⟩ | ⟨x, l, c, zs, hcs, _, hl, hm, hz, _, hcell, hwz⟩
    · simp [Value.cells] at hcs
      obtain ⟨rfl, rfl, rfl⟩ := hcs
      exact ⟨[], .inl ⟨rfl, rfl, rfl, rfl⟩⟩
    · simp [Value.cells] at hcs
      obtain ⟨rfl, rfl, rfl⟩ := hcs
      exact ⟨zs, .inr ⟨_, rfl, hl, hm, by simpa using hz, hcell, hwz⟩⟩
  clear hA0
  refine (lawPathRest a0 len0 cap0 zs0 a1 len1 cap1 zs1 W wx0 wx1 pE hvE.ev hxE).mono fun e W' ⟨he, bel⟩ => ?_
  subst he
  exact ⟨_, rfl, _, _, _, [], _, [.cell 0 0], hW', trodAll_mk1 (shut_bool Tryd.underlying4 _), (trodAll_cons_mk (Below.trod laidOut (by kernel_rfl) (of_decide_eq_true (by kernel_rfl)) k0 bel lt0) (trodAll_cons_mk (Below.trod laidOut (by kernel_rfl) (of_decide_eq_true (by kernel_rfl)) k1 bel lt1) trodAll_mk0)), vr (Joins.var_stays gErr hvE bel (Nat.le_refl _)) _, bel.frame _, fun h => by cases h⟩
theorem met (os : Os) : laidMet Tryd.prog Rows.fnPathRestRow.laid ((doorWorld os).forCall (fun _ _ => 0) ⟨#[], #[.slice none 0 0, .slice none 0 0], []⟩).memory :=
  laidMet_of_run' 8 (by kernel_rfl) (by kernel_rfl)
theorem reads (os : Os) {H : Type} (enc : TypeId × Value → H) : ∃ places, DataW.whole enc Tryd.prog ((doorWorld os).forCall (fun _ _ => 0) ⟨#[], #[.slice none 0 0, .slice none 0 0], []⟩).memory Tryd.f16.params.toList Rows.fnPathRestSpec.vars false (#[.slice none 0 0, .slice none 0 0] : Array Value).toList 8 = some ([.nil, .nil], [tok enc (errV ⟨16, 0, none⟩)], places) :=
  ⟨[.cell 0 0], by kernel_rfl⟩
set_option maxRecDepth 100000 in
theorem lifted (os : Os) (started : os.Started) (H : Type) (enc : TypeId × Value → H) (F : Stop.Interp) :
    ReturnsInHanded {} Tryd.checked os 16 .any ((OpenSpec.ofChange Rows.fnPathRestSpec).preRow enc Tryd.prog Tryd.f16 Rows.fnPathRestRow.domain false Rows.fnPathRestRow.laid) (((OpenSpec.ofChange Rows.fnPathRestSpec).at F).post enc Tryd.prog Tryd.f16 false true false false) := by
  obtain ⟨places, hx⟩ := reads os enc
  refine returnsInHanded_of_row (C := Tryd.checked) (s := OpenSpec.ofChange Rows.fnPathRestSpec) own started (by kernel_rfl) Tryd.func16
    (witness_row_atRef (enc := enc) (C := Tryd.checked) false (doorWorld os) #[.slice none 0 0, .slice none 0 0] rfl (by kernel_rfl) (by kernel_rfl) (by kernel_rfl)
      (OpenSpec.preRow_of_cond 8 hx (by kernel_rfl) (fun k hk => by cases hk) (by kernel_rfl) (met os))) ?_
  intro W base args ds gs before hval hW _ _ _ hL _ _
  exact contract H enc W base args ds gs before hval hW hL
theorem k1 : (Rows.fnPathRestRow.wf (OpenSpec.ofChange (OpenSpec.ofChange Rows.fnPathRestSpec).bare)) = true := by kernel_rfl
theorem k4 : (Tryd.f16.params.all (Tryd.prog.readableRec ·)) = true := by kernel_rfl
theorem k5 : (namedTie Tryd.prog Rows.fnPathRestRow.named (OpenSpec.ofChange Rows.fnPathRestSpec).bare.vars) = true := by kernel_rfl
theorem k6 : (Rows.fnPathRestRow.stops == []) = true := by kernel_rfl
theorem k8 : (Rows.fnPathRestRow.knobs == []) = true := by kernel_rfl
theorem k10 : (Rows.fnPathRestRow.inPlace == Tryd.prog.inPlace 16) = true := by kernel_rfl
theorem k11 : (Rows.fnPathRestRow.unfollowed == Tryd.prog.unfollowed 16) = true := by kernel_rfl
theorem k12 : (Rows.fnPathRestRow.recurses == Tryd.prog.recurses 16) = true := by kernel_rfl
theorem k13 : (Rows.fnPathRestRow.named == Tryd.prog.varsNamed 16) = true := by kernel_rfl
theorem k14 : (Rows.fnPathRestRow.maps == (Tryd.f16.params.toList ++ (OpenSpec.ofChange Rows.fnPathRestSpec).bare.plain.varTypes Tryd.prog).any (Tryd.prog.mapsRec ·)) = true := by kernel_rfl
theorem k15 : (Rows.fnPathRestRow.ifaces == (Tryd.f16.params.toList ++ (OpenSpec.ofChange Rows.fnPathRestSpec).bare.plain.varTypes Tryd.prog).any (Tryd.prog.ifacesRec ·)) = true := by kernel_rfl
theorem k16 : (Rows.fnPathRestRow.mapsOut == Tryd.prog.mapsAmong Tryd.f16.resultTypes.toList) = true := by kernel_rfl
theorem k17 : (Rows.fnPathRestRow.loops == (Tryd.f16.params.toList ++ (OpenSpec.ofChange Rows.fnPathRestSpec).bare.plain.varTypes Tryd.prog).any (Tryd.prog.loopsFrom ·)) = true := by kernel_rfl
theorem k17b : (Rows.fnPathRestRow.wideKeys == (Tryd.f16.params.toList ++ (OpenSpec.ofChange Rows.fnPathRestSpec).bare.plain.varTypes Tryd.prog ++ Tryd.f16.resultTypes.toList).any (Tryd.prog.wideKeysFrom ·)) = true := by kernel_rfl
theorem k18 : ((OpenSpec.ofChange Rows.fnPathRestSpec).bare.vars.all (Tryd.prog.varReadable ·)) = true := by kernel_rfl
theorem k19 : (Tryd.f16.resultTypes.all (fun t => Tryd.prog.readableRec t && decide (t < Tryd.prog.types.size))) = true := by kernel_rfl
theorem k20 : (Rows.fnPathRestRow.ifacesOut == Tryd.f16.resultTypes.toList.any (Tryd.prog.ifacesRec ·)) = true := by kernel_rfl
theorem k21 : (Rows.fnPathRestRow.loopsOut == Tryd.f16.resultTypes.toList.any (Tryd.prog.loopsFrom ·)) = true := by kernel_rfl
theorem k23 : (Rows.fnPathRestRow.shortTexts.isNone) = true := by kernel_rfl
theorem k25 : (Rows.fnPathRestRow.kinds == (if Rows.fnPathRestRow.domain.isEmpty then [] else Tryd.f16.params.toList.map fun t => match Tryd.prog.underlying t with | some (.int k) => some k | _ => none)) = true := by kernel_rfl
theorem k26 : (Rows.fnPathRestRow.pinned == Rows.fnPathRestRow.pinnedBy) = true := by kernel_rfl
theorem k27 : (Rows.fnPathRestRow.veiled == (Tryd.f16.params.toList ++ (OpenSpec.ofChange Rows.fnPathRestSpec).bare.plain.varTypes Tryd.prog ++ Tryd.f16.resultTypes.toList).any (Tryd.prog.veiledRec ·)) = true := by kernel_rfl
theorem k28 : (Rows.fnPathRestRow.veiledFits Tryd.prog Tryd.f16.params.toList (Tryd.f16.params.toList ++ (OpenSpec.ofChange Rows.fnPathRestSpec).bare.plain.varTypes Tryd.prog ++ Tryd.f16.resultTypes.toList)) = true := by kernel_rfl
set_option maxRecDepth 100000 in
theorem closed : joinedFacts Tryd.prog 16 Tryd.f16 (OpenSpec.ofChange Rows.fnPathRestSpec).bare Rows.fnPathRestRow = true := and2 (and2 (and2 (and2 (and2 (and2 (and2 (and2 (and2 (and2 (and2 (and2 (and2 (and2 (and2 (and2 (and2 (and2 (and2 (and2 (and2 (and2 (and2 (and2 (and2 (and2 (and2 (and2 (and2 (and2 (and2 k1 fpLaid) fpMaps) k4) k5) k6) fpStops) k8) fpKnobs) k10) k11) k12) k13) k14) k15) k16) k17) k17b) k18) k19) k20) k21) fpPlain) k23) fpHeard) fpEnter) fpLift) fpMake) k25) k26) k27) k28
set_option maxRecDepth 100000 in
theorem said : Rows.FnPathRestSaid :=
  OpenClaim.holds_of_cond 16 Tryd.f16 rfl rfl rfl rfl rfl rfl rfl ⟨rfl, rfl, rfl, rfl, rfl⟩ rfl rfl rfl rfl rfl (by kernel_rfl) Tryd.func16 closed
    (of_decide_eq_true (by kernel_rfl)) (by unfold Func.isWrapper; first | (rw [if_pos (by decide +kernel)]; kernel_rfl) | (rw [if_neg (by decide +kernel)]; exact ⟨rfl, rfl⟩))
    (fun os started H enc _ F => by rw [OpenClaim.pre_eq_preRow]; exact lifted os started H enc F)
theorem plain (f : FuncId) (fn : Func) (hf : Tryd.pinned.checked.prog.funcNamed "loop.example/wayboard/laws.FnPathRest" = some f) (hfn : Tryd.pinned.checked.prog.funcs[f]? = some fn) :
    true = Tryd.pinned.checked.prog.looks [] ∧ ∀ (j : Nat) t, fn.params[j]? = some t → Tryd.pinned.checked.prog.wantsStandIn t = false := by
  obtain rfl : f = 16 := Option.some.inj ((show Tryd.prog.funcNamed "loop.example/wayboard/laws.FnPathRest" = some 16 by kernel_rfl).symm.trans hf) |>.symm
  obtain rfl : fn = Tryd.f16 := (Option.some.inj (Tryd.func16.symm.trans hfn)).symm
  refine ⟨by kernel_rfl, fun j t ht => ?_⟩
  rw [Tryd.params16] at ht
  obtain rfl : t = 34 := by simpa using Array.mem_of_getElem? ht
  · exact (show Tryd.prog.wantsStandIn 34 = false by kernel_rfl)
end fnPathRest

theorem fnPathRest_holds : Rows.FnPathRestCardSaid :=
  Claim7.holds_tied_plain_at .later [] _ _ _ _ fnPathRest.said (fun _ h => by cases h) (by kernel_rfl) (fun _ h => by cases h) fnPathRest_row_tie rfl ⟨rfl, rfl⟩ (by kernel_rfl) rfl fnPathRest.plain (by kernel_rfl)
#print axioms fnPathRest_holds
end Go.Proofs.YtnabcffpficgcaaDoor
