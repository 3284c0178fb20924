/- For every code of bytes, the law that a drawn text is read as a path only where it is that path's own text holds of the program and of the document's model: the statement over the program's error variable, tied to the program's text. -/
import Derived.Test.YtnabcffpficgcaaDoorCards
import Derived.Test.YtnabcffpficgcaaDoorTie
import Derived.Test.YtnabcffpficgcaaDoorPOpen
import Derived.Test.YtnabcffpficgcaaDoorFacts
import Derived.Test.YtnabcffpficgcaaDoorPReadF
import Derived.Deep.DeepWitnessRowRef
import Derived.Lay
namespace Go.Proofs.YtnabcffpficgcaaDoor
open Go.ChangeShapes Go.WideShapes Go.ChangeAt Go.RowKit Go.Joins
open Go.ChangeMaps (open_string shut_string)

theorem facts_of {W : World} (h : laidMetH Tryd.prog Rows.fnPathStrictRow.laid W) (hs : W.ShapedOpen Tryd.prog) : ∃ p, ErrIs W p ∧ PErrs W ∧ MaxI W := by
  have h0 : laidMet Tryd.prog Rows.fnPathStrictRow.laid W := h
  exact read_fact h0 hs

namespace fnPathStrict
set_option linter.unusedVariables false
theorem own : ownKnob Tryd.prog.godebug = none := by kernel_rfl
theorem laidOut : laidOutB Tryd.prog = true := by kernel_rfl
set_option maxRecDepth 100000 in
theorem contract (H : Type) (enc : TypeId × Value → H) (W : World) (base : Nat) (args : Array Value) (ds gs : List (DataW H)) (before : List MemPlace)
    (hval : ∀ (j : Nat) t v, Tryd.f10.params[j]? = some t → args[j]? = some v → Value.okWide Tryd.prog W .any base t v)
    (hW : DataW.Whole enc Tryd.prog Tryd.f10.params.toList Rows.fnPathStrictSpec.vars false W args.toList ds gs before) (hL : laidMetH Tryd.prog Rows.fnPathStrictRow.laid W) (hSh : W.ShapedOpen Tryd.prog) :
    Calls Tryd.prog 10 args W fun e W' => ∃ v, e = .returned v ∧ Rows.fnPathStrictSpec.post enc Tryd.prog Tryd.f10 false true false false W args v W' := by
  have hW' := hW
  obtain ⟨p, q, hA0, hV, rfl, hfz, hnd⟩ := hW
  have hA : DataW.TrodAll enc Tryd.prog W 0 (fun _ => true) true Tryd.f10.params.toList args.toList ds p := hA0
  rw [Tryd.params10] at hA hval
  obtain ⟨v0, vs0, d0, ds0, p0, q0, hargs, rfl, rfl, h0, r0⟩ := trodAll_cons hA
  obtain ⟨rfl, rfl, rfl⟩ := trodAll_nil r0
  obtain rfl : args = #[v0] := by cases args; simp_all
  have hV1 : DataW.TrodVars enc Tryd.prog W (fun _ => true) ["loop.example/wayboard/impl.errNoPath"] gs q := hV
  obtain ⟨pE, hvE, hxE⟩ := facts_of hL hSh
  have vr : ∀ {X : World}, ErrIs X pE → ∀ sp : Nat → Bool, DataW.TrodVars enc Tryd.prog X sp ["loop.example/wayboard/impl.errNoPath"] [tok enc (errV pE)] [.cell 0 0] := fun x sp => vars_read1 enc gErr gErrType Tryd.underlying48 x trivial sp
  obtain ⟨rfl, rfl⟩ := hV1.unique (vr hvE _)
  have k0 := h0
  have lt0 : ∀ x ∈ p0, x.block < W.heap.size := by obtain ⟨m, hm⟩ := k0; exact DataW.trod_lt m _ _ _ hm
  obtain ⟨a0, len0, cap0, rfl⟩ := okWide_slice Tryd.underlying34 (hval 0 34 v0 rfl rfl)
  obtain ⟨zs0, wx0⟩ : ∃ zs, IsRow W a0 len0 cap0 zs := by
    obtain ⟨fuel, hf⟩ := h0
    rcases open_ints Tryd.underlying34 Tryd.underlying5 (by kernel_rfl) hf with ⟨hcs, _⟩ | ⟨x, l, c, zs, hcs, _, hl, hm, hz, _, hcell, hwz⟩
    · simp [Value.cells] at hcs
      obtain ⟨rfl, rfl, rfl⟩ := hcs
      exact ⟨[], .inl ⟨rfl, rfl, rfl, rfl⟩⟩
    · simp [Value.cells] at hcs
      obtain ⟨rfl, rfl, rfl⟩ := hcs
      exact ⟨zs, .inr ⟨_, rfl, hl, hm, by simpa using hz, hcell, hwz⟩⟩
  clear hA0
  refine (lawPathStrict a0 len0 cap0 zs0 W wx0 pE hvE.ev hxE).mono fun e W' ⟨he, bel⟩ => ?_
  subst he
  exact ⟨_, rfl, _, _, _, [], _, [.cell 0 0], hW', trodAll_mk1 (shut_bool Tryd.underlying4 _), (trodAll_cons_mk (Below.trod laidOut (by kernel_rfl) (of_decide_eq_true (by kernel_rfl)) k0 bel lt0) trodAll_mk0), vr (Joins.var_stays gErr hvE bel (Nat.le_refl _)) _, bel.frame _, fun h => by cases h⟩
theorem met (os : Os) : laidMet Tryd.prog Rows.fnPathStrictRow.laid ((World.laidAll Tryd.prog os Rows.fnPathStrictRow.laid).forCall (fun _ _ => 0) ⟨#[], #[.slice none 0 0], []⟩).memory :=
  laidMet_laidAll _ (by kernel_rfl) (by kernel_rfl)
theorem reads (os : Os) {H : Type} (enc : TypeId × Value → H) : ∃ places, DataW.whole enc Tryd.prog ((World.laidAll Tryd.prog os Rows.fnPathStrictRow.laid).forCall (fun _ _ => 0) ⟨#[], #[.slice none 0 0], []⟩).memory Tryd.f10.params.toList Rows.fnPathStrictSpec.vars false (#[.slice none 0 0] : Array Value).toList 8 = some ([.nil], [tok enc (errV ⟨16, 0, none⟩)], places) :=
  ⟨[.cell 0 0], by kernel_rfl⟩
set_option maxRecDepth 100000 in
theorem lifted (os : Os) (started : os.Started) (H : Type) (enc : TypeId × Value → H) (F : Stop.Interp) :
    ReturnsInHanded {} Tryd.checked os 10 .any ((OpenSpec.ofChange Rows.fnPathStrictSpec).preRow enc Tryd.prog Tryd.f10 Rows.fnPathStrictRow.domain false Rows.fnPathStrictRow.laid) (((OpenSpec.ofChange Rows.fnPathStrictSpec).at F).post enc Tryd.prog Tryd.f10 false true false false) := by
  obtain ⟨places, hx⟩ := reads os enc
  refine returnsInHanded_of_row (C := Tryd.checked) (s := OpenSpec.ofChange Rows.fnPathStrictSpec) own started (by kernel_rfl) Tryd.func10
    (witness_row_shaped (enc := enc) (C := Tryd.checked) false (World.laidAll Tryd.prog os Rows.fnPathStrictRow.laid) #[.slice none 0 0] (World.laidAll_os _ _ _) (World.shaped_of_ZipB (by kernel_rfl) (by kernel_rfl)) (by kernel_rfl)
      (OpenSpec.preRow_of_cond 8 hx (by kernel_rfl) (fun k hk => by cases hk) (by kernel_rfl) (met os))) ?_
  intro W base args ds gs before hval hW _ _ _ hL hSh _
  exact contract H enc W base args ds gs before hval hW hL hSh
theorem k1 : (Rows.fnPathStrictRow.wf (OpenSpec.ofChange (OpenSpec.ofChange Rows.fnPathStrictSpec).bare)) = true := by kernel_rfl
theorem k4 : (Tryd.f10.params.all (Tryd.prog.readableRec ·)) = true := by kernel_rfl
theorem k5 : (namedTie Tryd.prog Rows.fnPathStrictRow.named (OpenSpec.ofChange Rows.fnPathStrictSpec).bare.vars) = true := by kernel_rfl
theorem k6 : (Rows.fnPathStrictRow.stops == []) = true := by kernel_rfl
theorem k8 : (Rows.fnPathStrictRow.knobs == []) = true := by kernel_rfl
theorem k10 : (Rows.fnPathStrictRow.inPlace == Tryd.prog.inPlace 10) = true := by kernel_rfl
theorem k11 : (Rows.fnPathStrictRow.unfollowed == Tryd.prog.unfollowed 10) = true := by kernel_rfl
theorem k12 : (Rows.fnPathStrictRow.recurses == Tryd.prog.recurses 10) = true := by kernel_rfl
theorem k13 : (Rows.fnPathStrictRow.named == Tryd.prog.varsNamed 10) = true := by kernel_rfl
theorem k14 : (Rows.fnPathStrictRow.maps == (Tryd.f10.params.toList ++ (OpenSpec.ofChange Rows.fnPathStrictSpec).bare.plain.varTypes Tryd.prog).any (Tryd.prog.mapsRec ·)) = true := by kernel_rfl
theorem k15 : (Rows.fnPathStrictRow.ifaces == (Tryd.f10.params.toList ++ (OpenSpec.ofChange Rows.fnPathStrictSpec).bare.plain.varTypes Tryd.prog).any (Tryd.prog.ifacesRec ·)) = true := by kernel_rfl
theorem k16 : (Rows.fnPathStrictRow.mapsOut == Tryd.prog.mapsAmong Tryd.f10.resultTypes.toList) = true := by kernel_rfl
theorem k17 : (Rows.fnPathStrictRow.loops == (Tryd.f10.params.toList ++ (OpenSpec.ofChange Rows.fnPathStrictSpec).bare.plain.varTypes Tryd.prog).any (Tryd.prog.loopsFrom ·)) = true := by kernel_rfl
theorem k17b : (Rows.fnPathStrictRow.wideKeys == (Tryd.f10.params.toList ++ (OpenSpec.ofChange Rows.fnPathStrictSpec).bare.plain.varTypes Tryd.prog ++ Tryd.f10.resultTypes.toList).any (Tryd.prog.wideKeysFrom ·)) = true := by kernel_rfl
theorem k18 : ((OpenSpec.ofChange Rows.fnPathStrictSpec).bare.vars.all (Tryd.prog.varReadable ·)) = true := by kernel_rfl
theorem k19 : (Tryd.f10.resultTypes.all (fun t => Tryd.prog.readableRec t && decide (t < Tryd.prog.types.size))) = true := by kernel_rfl
theorem k20 : (Rows.fnPathStrictRow.ifacesOut == Tryd.f10.resultTypes.toList.any (Tryd.prog.ifacesRec ·)) = true := by kernel_rfl
theorem k21 : (Rows.fnPathStrictRow.loopsOut == Tryd.f10.resultTypes.toList.any (Tryd.prog.loopsFrom ·)) = true := by kernel_rfl
theorem k23 : (Rows.fnPathStrictRow.shortTexts.isNone) = true := by kernel_rfl
theorem k25 : (Rows.fnPathStrictRow.kinds == (if Rows.fnPathStrictRow.domain.isEmpty then [] else Tryd.f10.params.toList.map fun t => match Tryd.prog.underlying t with | some (.int k) => some k | _ => none)) = true := by kernel_rfl
theorem k26 : (Rows.fnPathStrictRow.pinned == Rows.fnPathStrictRow.pinnedBy) = true := by kernel_rfl
theorem k27 : (Rows.fnPathStrictRow.veiled == (Tryd.f10.params.toList ++ (OpenSpec.ofChange Rows.fnPathStrictSpec).bare.plain.varTypes Tryd.prog ++ Tryd.f10.resultTypes.toList).any (Tryd.prog.veiledRec ·)) = true := by kernel_rfl
theorem k28 : (Rows.fnPathStrictRow.veiledFits Tryd.prog Tryd.f10.params.toList (Tryd.f10.params.toList ++ (OpenSpec.ofChange Rows.fnPathStrictSpec).bare.plain.varTypes Tryd.prog ++ Tryd.f10.resultTypes.toList)) = true := by kernel_rfl
set_option maxRecDepth 100000 in
theorem closed : joinedFacts Tryd.prog 10 Tryd.f10 (OpenSpec.ofChange Rows.fnPathStrictSpec).bare Rows.fnPathStrictRow = true := and2 (and2 (and2 (and2 (and2 (and2 (and2 (and2 (and2 (and2 (and2 (and2 (and2 (and2 (and2 (and2 (and2 (and2 (and2 (and2 (and2 (and2 (and2 (and2 (and2 (and2 (and2 (and2 (and2 (and2 (and2 k1 fpLaid) fpMaps) k4) k5) k6) fpStops) k8) fpKnobs) k10) k11) k12) k13) k14) k15) k16) k17) k17b) k18) k19) k20) k21) fpPlain) k23) fpHeard) fpEnter) fpLift) fpMake) k25) k26) k27) k28
set_option maxRecDepth 100000 in
theorem said : Rows.FnPathStrictSaid :=
  OpenClaim.holds_of_cond 10 Tryd.f10 rfl rfl rfl rfl rfl rfl rfl ⟨rfl, rfl, rfl, rfl, rfl⟩ rfl rfl rfl rfl rfl (by kernel_rfl) Tryd.func10 closed
    (of_decide_eq_true (by kernel_rfl)) (by unfold Func.isWrapper; first | (rw [if_pos (by decide +kernel)]; kernel_rfl) | (rw [if_neg (by decide +kernel)]; exact ⟨rfl, rfl⟩))
    (fun os started H enc _ F => by rw [OpenClaim.pre_eq_preRow]; exact lifted os started H enc F)
theorem plain (f : FuncId) (fn : Func) (hf : Tryd.pinned.checked.prog.funcNamed "loop.example/wayboard/laws.FnPathStrict" = some f) (hfn : Tryd.pinned.checked.prog.funcs[f]? = some fn) :
    true = Tryd.pinned.checked.prog.looks [] ∧ ∀ (j : Nat) t, fn.params[j]? = some t → Tryd.pinned.checked.prog.wantsStandIn t = false := by
  obtain rfl : f = 10 := Option.some.inj ((show Tryd.prog.funcNamed "loop.example/wayboard/laws.FnPathStrict" = some 10 by kernel_rfl).symm.trans hf) |>.symm
  obtain rfl : fn = Tryd.f10 := (Option.some.inj (Tryd.func10.symm.trans hfn)).symm
  refine ⟨by kernel_rfl, fun j t ht => ?_⟩
  rw [Tryd.params10] at ht
  obtain rfl : t = 34 := by simpa using Array.mem_of_getElem? ht
  · exact (show Tryd.prog.wantsStandIn 34 = false by kernel_rfl)
end fnPathStrict

theorem fnPathStrict_holds : Rows.FnPathStrictCardSaid :=
  Claim7.holds_tied_plain_at .later [] _ _ _ _ fnPathStrict.said (fun _ h => by cases h) (by kernel_rfl) (fun _ h => by cases h) fnPathStrict_row_tie rfl ⟨rfl, rfl⟩ (by kernel_rfl) rfl fnPathStrict.plain (by kernel_rfl)
#print axioms fnPathStrict_holds
end Go.Proofs.YtnabcffpficgcaaDoor
