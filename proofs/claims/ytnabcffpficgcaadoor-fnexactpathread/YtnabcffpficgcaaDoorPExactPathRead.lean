/- For every text, the program's PathRead answers as the document's model of it does, and what it answers is its own memory: the statement over the program's error variable and the library's tables and errors, tied to the program's text. -/
import Derived.Test.YtnabcffpficgcaaDoorCards
import Derived.Test.YtnabcffpficgcaaDoorTie
import Derived.Test.YtnabcffpficgcaaDoorPOpen
import Derived.Test.YtnabcffpficgcaaDoorFacts
import Derived.Test.YtnabcffpficgcaaDoorPReadF
import Derived.Deep.DeepWitnessRowRef
import Derived.Lay
namespace Go.Proofs.YtnabcffpficgcaaDoor
open Go.ChangeShapes Go.WideShapes Go.ChangeAt Go.RowKit Go.Joins
open Go.ChangeMaps (open_string shut_string)

theorem facts_of {W : World} (h : laidMetH Tryd.prog Rows.fnExactPathReadRow.laid W) (hs : W.ShapedOpen Tryd.prog) : ∃ p, ErrIs W p ∧ PErrs W ∧ MaxI W := by
  have h0 : laidMet Tryd.prog Rows.fnExactPathReadRow.laid W := h
  exact read_fact h0 hs

namespace fnExactPathRead
set_option linter.unusedVariables false
theorem own : ownKnob Tryd.prog.godebug = none := by kernel_rfl
theorem laidOut : laidOutB Tryd.prog = true := by kernel_rfl
set_option maxRecDepth 100000 in
theorem contract (H : Type) (enc : TypeId × Value → H) (W : World) (base : Nat) (args : Array Value) (ds gs : List (DataW H)) (before : List MemPlace)
    (hval : ∀ (j : Nat) t v, Tryd.f7.params[j]? = some t → args[j]? = some v → Value.okWide Tryd.prog W .any base t v)
    (hW : DataW.Whole enc Tryd.prog Tryd.f7.params.toList Rows.fnExactPathReadSpec.vars false W args.toList ds gs before) (hL : laidMetH Tryd.prog Rows.fnExactPathReadRow.laid W) (hSh : W.ShapedOpen Tryd.prog) :
    Calls Tryd.prog 7 args W fun e W' => ∃ v, e = .returned v ∧ Rows.fnExactPathReadSpec.post enc Tryd.prog Tryd.f7 false true false false W args v W' := by
  have hW' := hW
  obtain ⟨p, q, hA0, hV, rfl, hfz, hnd⟩ := hW
  have hA : DataW.TrodAll enc Tryd.prog W 0 (fun _ => true) true Tryd.f7.params.toList args.toList ds p := hA0
  rw [Tryd.params7] at hA hval
  obtain ⟨v0, vs0, d0, ds0, p0, q0, hargs, rfl, rfl, h0, r0⟩ := trodAll_cons hA
  obtain ⟨rfl, rfl, rfl⟩ := trodAll_nil r0
  obtain rfl : args = #[v0] := by cases args; simp_all
  have hV1 : DataW.TrodVars enc Tryd.prog W (fun _ => true) ["loop.example/wayboard/impl.errNoPath"] gs q := hV
  obtain ⟨pE, hvE, hxE⟩ := facts_of hL hSh
  have vr : ∀ {X : World}, ErrIs X pE → ∀ sp : Nat → Bool, DataW.TrodVars enc Tryd.prog X sp ["loop.example/wayboard/impl.errNoPath"] [tok enc (errV pE)] [.cell 0 0] := fun x sp => vars_read1 enc gErr gErrType Tryd.underlying48 x trivial sp
  obtain ⟨rfl, rfl⟩ := hV1.unique (vr hvE _)
  have k0 := h0
  have lt0 : ∀ x ∈ p0, x.block < W.heap.size := by obtain ⟨m, hm⟩ := k0; exact DataW.trod_lt m _ _ _ hm
  obtain ⟨x0, rfl, rfl, rfl, wx0⟩ := open_string Tryd.underlying9 (hval 0 9 v0 rfl rfl) h0
  clear hA0
  refine (exactPathRead_walk x0 W wx0 pE hvE.ev hxE).mono fun e W' ⟨he, bel⟩ => ?_
  subst he
  exact ⟨_, rfl, _, _, _, [], _, [.cell 0 0], hW', trodAll_mk1 (shut_bool Tryd.underlying4 _), (trodAll_cons_mk (Below.trod laidOut (by kernel_rfl) (of_decide_eq_true (by kernel_rfl)) k0 bel lt0) trodAll_mk0), vr (Joins.var_stays gErr hvE bel (Nat.le_refl _)) _, bel.frame _, fun h => by cases h⟩
theorem met (os : Os) : laidMet Tryd.prog Rows.fnExactPathReadRow.laid ((World.laidAll Tryd.prog os Rows.fnExactPathReadRow.laid).forCall (fun _ _ => 0) ⟨#[], #[.string ByteArray.empty], []⟩).memory :=
  laidMet_laidAll _ (by kernel_rfl) (by kernel_rfl)
theorem reads (os : Os) {H : Type} (enc : TypeId × Value → H) : ∃ places, DataW.whole enc Tryd.prog ((World.laidAll Tryd.prog os Rows.fnExactPathReadRow.laid).forCall (fun _ _ => 0) ⟨#[], #[.string ByteArray.empty], []⟩).memory Tryd.f7.params.toList Rows.fnExactPathReadSpec.vars false (#[.string ByteArray.empty] : Array Value).toList 8 = some ([.lit (.string [])], [tok enc (errV ⟨16, 0, none⟩)], places) :=
  ⟨[.cell 0 0], by kernel_rfl⟩
set_option maxRecDepth 100000 in
theorem lifted (os : Os) (started : os.Started) (H : Type) (enc : TypeId × Value → H) (F : Stop.Interp) :
    ReturnsInHanded {} Tryd.checked os 7 .any ((OpenSpec.ofChange Rows.fnExactPathReadSpec).preRow enc Tryd.prog Tryd.f7 Rows.fnExactPathReadRow.domain false Rows.fnExactPathReadRow.laid) (((OpenSpec.ofChange Rows.fnExactPathReadSpec).at F).post enc Tryd.prog Tryd.f7 false true false false) := by
  obtain ⟨places, hx⟩ := reads os enc
  refine returnsInHanded_of_row (C := Tryd.checked) (s := OpenSpec.ofChange Rows.fnExactPathReadSpec) own started (by kernel_rfl) Tryd.func7
    (witness_row_shaped (enc := enc) (C := Tryd.checked) false (World.laidAll Tryd.prog os Rows.fnExactPathReadRow.laid) #[.string ByteArray.empty] (World.laidAll_os _ _ _) (World.shaped_of_ZipB (by kernel_rfl) (by kernel_rfl)) (by kernel_rfl)
      (OpenSpec.preRow_of_cond 8 hx (by kernel_rfl) (fun k hk => by cases hk) (by kernel_rfl) (met os))) ?_
  intro W base args ds gs before hval hW _ _ _ hL hSh _
  exact contract H enc W base args ds gs before hval hW hL hSh
theorem k1 : (Rows.fnExactPathReadRow.wf (OpenSpec.ofChange (OpenSpec.ofChange Rows.fnExactPathReadSpec).bare)) = true := by kernel_rfl
theorem k4 : (Tryd.f7.params.all (Tryd.prog.readableRec ·)) = true := by kernel_rfl
theorem k5 : (namedTie Tryd.prog Rows.fnExactPathReadRow.named (OpenSpec.ofChange Rows.fnExactPathReadSpec).bare.vars) = true := by kernel_rfl
theorem k6 : (Rows.fnExactPathReadRow.stops == []) = true := by kernel_rfl
theorem k8 : (Rows.fnExactPathReadRow.knobs == []) = true := by kernel_rfl
theorem k10 : (Rows.fnExactPathReadRow.inPlace == Tryd.prog.inPlace 7) = true := by kernel_rfl
theorem k11 : (Rows.fnExactPathReadRow.unfollowed == Tryd.prog.unfollowed 7) = true := by kernel_rfl
theorem k12 : (Rows.fnExactPathReadRow.recurses == Tryd.prog.recurses 7) = true := by kernel_rfl
theorem k13 : (Rows.fnExactPathReadRow.named == Tryd.prog.varsNamed 7) = true := by kernel_rfl
theorem k14 : (Rows.fnExactPathReadRow.maps == (Tryd.f7.params.toList ++ (OpenSpec.ofChange Rows.fnExactPathReadSpec).bare.plain.varTypes Tryd.prog).any (Tryd.prog.mapsRec ·)) = true := by kernel_rfl
theorem k15 : (Rows.fnExactPathReadRow.ifaces == (Tryd.f7.params.toList ++ (OpenSpec.ofChange Rows.fnExactPathReadSpec).bare.plain.varTypes Tryd.prog).any (Tryd.prog.ifacesRec ·)) = true := by kernel_rfl
theorem k16 : (Rows.fnExactPathReadRow.mapsOut == Tryd.prog.mapsAmong Tryd.f7.resultTypes.toList) = true := by kernel_rfl
theorem k17 : (Rows.fnExactPathReadRow.loops == (Tryd.f7.params.toList ++ (OpenSpec.ofChange Rows.fnExactPathReadSpec).bare.plain.varTypes Tryd.prog).any (Tryd.prog.loopsFrom ·)) = true := by kernel_rfl
theorem k17b : (Rows.fnExactPathReadRow.wideKeys == (Tryd.f7.params.toList ++ (OpenSpec.ofChange Rows.fnExactPathReadSpec).bare.plain.varTypes Tryd.prog ++ Tryd.f7.resultTypes.toList).any (Tryd.prog.wideKeysFrom ·)) = true := by kernel_rfl
theorem k18 : ((OpenSpec.ofChange Rows.fnExactPathReadSpec).bare.vars.all (Tryd.prog.varReadable ·)) = true := by kernel_rfl
theorem k19 : (Tryd.f7.resultTypes.all (fun t => Tryd.prog.readableRec t && decide (t < Tryd.prog.types.size))) = true := by kernel_rfl
theorem k20 : (Rows.fnExactPathReadRow.ifacesOut == Tryd.f7.resultTypes.toList.any (Tryd.prog.ifacesRec ·)) = true := by kernel_rfl
theorem k21 : (Rows.fnExactPathReadRow.loopsOut == Tryd.f7.resultTypes.toList.any (Tryd.prog.loopsFrom ·)) = true := by kernel_rfl
theorem k23 : (Rows.fnExactPathReadRow.shortTexts.isNone) = true := by kernel_rfl
theorem k25 : (Rows.fnExactPathReadRow.kinds == (if Rows.fnExactPathReadRow.domain.isEmpty then [] else Tryd.f7.params.toList.map fun t => match Tryd.prog.underlying t with | some (.int k) => some k | _ => none)) = true := by kernel_rfl
theorem k26 : (Rows.fnExactPathReadRow.pinned == Rows.fnExactPathReadRow.pinnedBy) = true := by kernel_rfl
theorem k27 : (Rows.fnExactPathReadRow.veiled == (Tryd.f7.params.toList ++ (OpenSpec.ofChange Rows.fnExactPathReadSpec).bare.plain.varTypes Tryd.prog ++ Tryd.f7.resultTypes.toList).any (Tryd.prog.veiledRec ·)) = true := by kernel_rfl
theorem k28 : (Rows.fnExactPathReadRow.veiledFits Tryd.prog Tryd.f7.params.toList (Tryd.f7.params.toList ++ (OpenSpec.ofChange Rows.fnExactPathReadSpec).bare.plain.varTypes Tryd.prog ++ Tryd.f7.resultTypes.toList)) = true := by kernel_rfl
set_option maxRecDepth 100000 in
theorem closed : joinedFacts Tryd.prog 7 Tryd.f7 (OpenSpec.ofChange Rows.fnExactPathReadSpec).bare Rows.fnExactPathReadRow = true := and2 (and2 (and2 (and2 (and2 (and2 (and2 (and2 (and2 (and2 (and2 (and2 (and2 (and2 (and2 (and2 (and2 (and2 (and2 (and2 (and2 (and2 (and2 (and2 (and2 (and2 (and2 (and2 (and2 (and2 (and2 k1 fpLaid) fpMaps) k4) k5) k6) fpStops) k8) fpKnobs) k10) k11) k12) k13) k14) k15) k16) k17) k17b) k18) k19) k20) k21) fpPlain) k23) fpHeard) fpEnter) fpLift) fpMake) k25) k26) k27) k28
set_option maxRecDepth 100000 in
theorem said : Rows.FnExactPathReadSaid :=
  OpenClaim.holds_of_cond 7 Tryd.f7 rfl rfl rfl rfl rfl rfl rfl ⟨rfl, rfl, rfl, rfl, rfl⟩ rfl rfl rfl rfl rfl (by kernel_rfl) Tryd.func7 closed
    (of_decide_eq_true (by kernel_rfl)) (by unfold Func.isWrapper; first | (rw [if_pos (by decide +kernel)]; kernel_rfl) | (rw [if_neg (by decide +kernel)]; exact ⟨rfl, rfl⟩))
    (fun os started H enc _ F => by rw [OpenClaim.pre_eq_preRow]; exact lifted os started H enc F)
theorem plain (f : FuncId) (fn : Func) (hf : Tryd.pinned.checked.prog.funcNamed "loop.example/wayboard/laws.FnExactPathRead" = some f) (hfn : Tryd.pinned.checked.prog.funcs[f]? = some fn) :
    true = Tryd.pinned.checked.prog.looks [] ∧ ∀ (j : Nat) t, fn.params[j]? = some t → Tryd.pinned.checked.prog.wantsStandIn t = false := by
  obtain rfl : f = 7 := Option.some.inj ((show Tryd.prog.funcNamed "loop.example/wayboard/laws.FnExactPathRead" = some 7 by kernel_rfl).symm.trans hf) |>.symm
  obtain rfl : fn = Tryd.f7 := (Option.some.inj (Tryd.func7.symm.trans hfn)).symm
  refine ⟨by kernel_rfl, fun j t ht => ?_⟩
  rw [Tryd.params7] at ht
  obtain rfl : t = 9 := by simpa using Array.mem_of_getElem? ht
  · exact (show Tryd.prog.wantsStandIn 9 = false by kernel_rfl)
end fnExactPathRead

theorem fnExactPathRead_holds : Rows.FnExactPathReadCardSaid :=
  Claim7.holds_tied_plain_at .later [] _ _ _ _ fnExactPathRead.said (fun _ h => by cases h) (by kernel_rfl) (fun _ h => by cases h) fnExactPathRead_row_tie rfl ⟨rfl, rfl⟩ (by kernel_rfl) rfl fnExactPathRead.plain (by kernel_rfl)
#print axioms fnExactPathRead_holds
end Go.Proofs.YtnabcffpficgcaaDoor
