/-
  What the exact laws call on clauses: to; stores of structs by laws.
-/
import Derived.Test.YtioppkalehnoaaaGreatDoorClImp
import Derived.Deep.MidRow
namespace Go.Proofs.YtioppkalehnoaaaGreatDoor
open Go.RowKit
set_option linter.unusedSimpArgs false
set_option linter.unusedVariables false

theorem AtL.put {w : World} {R : Nat} {L : List Value} (h : AtL w R 0 L) {i : Nat} (hi : i < L.length) (v : Value) : AtL (w.setCell ⟨R, i, none⟩ v) R 0 (L.set i v) := by
  have := h.set hi v
  rwa [Nat.zero_add] at this
theorem AtL.range {w : World} {R o : Nat} {L : List Value} (h : AtL w R o L) : w.rangeAt R o L := fun j v hj => (h j v hj).1
theorem AtL.there {w : World} {R o : Nat} {L : List Value} (h : AtL w R o L) {n : Nat} (hn : n ≤ L.length) : w.there R o n := fun j hj => by
  obtain ⟨h1, h2⟩ := h j L[j] (List.getElem?_eq_getElem (by omega))
  exact ⟨by rw [h1]; rfl, h2⟩
theorem AtL.sets {w : World} {R o : Nat} {L : List Value} (h : AtL w R o L) (vs : List Value) (hv : vs.length = L.length) : AtL (w.setCells R o vs) R o vs := fun j v hj =>
  ⟨World.rangeAt_setCells_same w R o vs (h.there (by omega)) j v hj, by rw [World.frozen?_setCells]; exact (h.there (Nat.le_refl _) j (by have := (List.getElem?_eq_some_iff.1 hj).1; omega)).2⟩
theorem only_set (w : World) (R o : Nat) (v : Value) : w.grownBy (w.setCell ⟨R, o, none⟩ v) (some R) := ⟨rfl, rfl, rfl, by simp [World.setCell], fun k _ hk => Below.heap_setCell _ _ _ _ (fun e => hk (by first | (simp at e; rw [e]; done) | (rw [e]; done) | simp [e]))⟩
theorem only_sets {R : Nat} : ∀ (vs : List Value) (o : Nat) (w : World), w.grownBy (w.setCells R o vs) (some R)
  | [], _, w => World.grownBy.refl _ _
  | v :: vs, o, w => by
    rw [World.setCells]
    exact only_on (only_set w R o v) (only_sets vs (o + 1) (w.setCell ⟨R, o, none⟩ v))
/-- one cell is stored: the world behind it is a letter -/
theorem wpList_st1 {P : Program} {ops : Array Oper} {rest : List Oper} {op : Oper} {a : Act} {w : World} {Q : Exit → Act → World → Prop} (hgd : op.guard = none) (ty : TypeId) (x y : Operand) (ho : op.op = .store ty x y)
    (R i : Nat) (v : Value) (hx : a.eval x = .pointer (some ⟨R, i, none⟩)) (hy : a.eval y = v) (hc : v.cells = #[v]) (h1 : v.oneCell' = true) (hi : (P.info? ty).map (·.size) = some 1)
    (L : List Value) (hA : AtL w R 0 L) (hil : i < L.length)
    (h : ∀ w', AtL w' R 0 (L.set i v) → w.grownBy w' (some R) → wpList P ops Q rest (a.put op.dst undef) w') : wpList P ops Q (op :: rest) a w := by
  refine wpList_plain hgd fun K hK => ?_
  have ht : w.there R i 1 := fun j hj => by
    obtain ⟨q1, q2⟩ := hA i L[i] (List.getElem?_eq_getElem hil)
    have e : j = 0 := by omega
    subst e
    rw [Nat.zero_add] at q1 q2
    exact ⟨by rw [Nat.add_zero, q1]; rfl, by rw [Nat.add_zero]; exact q2⟩
  have hr : (storeVar ty ⟨R, i, none⟩ v).run P w = .ok () (w.setCells R i [v]) := by
    have := run_storeCells_cells (P := P) R i [v] 0 w (fun j hj => by simpa using (ht j (by simpa using hj)).1) (fun j hj => by simpa using (ht j (by simpa using hj)).2) (fun u hu => by simp at hu; subst hu; exact h1)
    cases hq : P.info? ty with
    | none => simp [hq] at hi
    | some q =>
      have hs : 1 = q.size := by simp [hq] at hi; omega
      simp only [Nat.add_zero] at this
      simp [storeVar, sizeOf, typeInfo, hq, hc, hs.symm, this]
  unfold Oper.wp execOp
  simp only [ho, hx, hy, Instr.storeAt, Instr.sureAddr, Sem.run_bind, Sem.run_pure, Result.andThen_ok, hr]
  exact hK _ _ (h _ (hA.put hil v) (only_sets [v] i w))
/-- a whole struct is stored -/
theorem wpList_stA {P : Program} {ops : Array Oper} {rest : List Oper} {op : Oper} {a : Act} {w : World} {Q : Exit → Act → World → Prop} (hgd : op.guard = none) (ty : TypeId) (x y : Operand) (ho : op.op = .store ty x y)
    (R : Nat) (cells : Array Value) (hx : a.eval x = .pointer (some ⟨R, 0, none⟩)) (hy : a.eval y = .agg cells) (h1 : cells.all (·.oneCell') = true) (hi : (P.info? ty).map (·.size) = some cells.size)
    (L : List Value) (hA : AtL w R 0 L) (hl : cells.toList.length = L.length)
    (h : ∀ w', AtL w' R 0 cells.toList → w.grownBy w' (some R) → wpList P ops Q rest (a.put op.dst undef) w') : wpList P ops Q (op :: rest) a w :=
  wpList_store_mid hgd ty x y ho R 0 cells hx hy (hA.there (by rw [← hl]; simp)) hi h1 (h _ (hA.sets _ hl) (only_sets _ _ _))
/-- a whole struct is loaded -/
theorem wpList_ldA {P : Program} {ops : Array Oper} {rest : List Oper} {op : Oper} {a : Act} {w : World} {Q : Exit → Act → World → Prop} (hgd : op.guard = none) (ty : TypeId) (x : Operand) (ho : op.op = .load ty x)
    (R : Nat) (hx : a.eval x = .pointer (some ⟨R, 0, none⟩)) (cs : List Value) (d : TypeDesc) (hA : AtL w R 0 cs)
    (hu : P.underlying ty = some d) (hd : d.isRow = true) (hi : (P.info? ty).map (·.size) = some cs.length)
    (h : wpList P ops Q rest (a.put op.dst (.agg cs.toArray)) w) : wpList P ops Q (op :: rest) a w :=
  wpList_load_mid hgd ty x ho R 0 hx cs d hA.range hu hd hi h
theorem one8a (c : CL) : c.cells.toArray.all (·.oneCell') = true := all_oneCell_toArray fun u hu => one8 [c] u (by simpa [cells8] using hu)
theorem infoB1 : (Tryz.prog.info? 4).map (·.size) = some 1 := by kernel_rfl
theorem infoI1 : (Tryz.prog.info? 3).map (·.size) = some 1 := by kernel_rfl
theorem infoC8 : (Tryz.prog.info? 59).map (·.size) = some 8 := by kernel_rfl
theorem AtL.three (w : World) (c d e : CL) (t t' t'' : TypeId) : AtL (((w.alloc (.cells (clA c) t)).alloc (.cells (clA d) t')).alloc (.cells (clA e) t'')) w.heap.size 0 c.cells ∧ AtL (((w.alloc (.cells (clA c) t)).alloc (.cells (clA d) t')).alloc (.cells (clA e) t'')) (w.heap.size + 1) 0 d.cells ∧ AtL (((w.alloc (.cells (clA c) t)).alloc (.cells (clA d) t')).alloc (.cells (clA e) t'')) (w.heap.size + 2) 0 e.cells ∧ Below w.heap.size w (((w.alloc (.cells (clA c) t)).alloc (.cells (clA d) t')).alloc (.cells (clA e) t'')) := by
  have h2 := AtL.new (w.alloc (.cells (clA c) t)) d t'
  have h3 := AtL.new ((w.alloc (.cells (clA c) t)).alloc (.cells (clA d) t')) e t''
  simp only [World.size_alloc] at h2 h3
  exact ⟨((AtL.new w c t).alloc _).alloc _, h2.alloc _, h3, (((Below.refl w.heap.size w).alloc (Nat.le_refl _) _).alloc (by simp) _).alloc (by simp; omega) _⟩
set_option maxHeartbeats 1000000 in
theorem tocl_is (c : CL) (w : World) :
    Calls Tryz.prog 31 #[clV c] w fun e w' => e = .returned (clV c) ∧ Below w.heap.size w w' := by
  have H0 := Lib.hid (AtL.three w c zCL ⟨c.i, c.n, 0, 0, false, 0, 0, 0⟩ 62 59 59)
  go_enter Tryz.func31, Tryz.ntmps31
  go_wp2_with fail
  change Hid (AtL (((w.alloc (.cells #[.int .i64 c.i, .int .i64 c.n, .int .i64 c.f, .int .i64 c.b, .bool c.x, .int .i64 c.l, .int .i64 c.m, .int .i64 c.k] 62)).alloc (.cells #[.int .i64 0, .int .i64 0, .int .i64 0, .int .i64 0, .bool false, .int .i64 0, .int .i64 0, .int .i64 0] 59)).alloc (.cells #[.int .i64 c.i, .int .i64 c.n, .int .i64 0, .int .i64 0, .bool false, .int .i64 0, .int .i64 0, .int .i64 0] 59)) w.heap.size 0 c.cells ∧ AtL (((w.alloc (.cells #[.int .i64 c.i, .int .i64 c.n, .int .i64 c.f, .int .i64 c.b, .bool c.x, .int .i64 c.l, .int .i64 c.m, .int .i64 c.k] 62)).alloc (.cells #[.int .i64 0, .int .i64 0, .int .i64 0, .int .i64 0, .bool false, .int .i64 0, .int .i64 0, .int .i64 0] 59)).alloc (.cells #[.int .i64 c.i, .int .i64 c.n, .int .i64 0, .int .i64 0, .bool false, .int .i64 0, .int .i64 0, .int .i64 0] 59)) (w.heap.size + 1) 0 [.int .i64 0, .int .i64 0, .int .i64 0, .int .i64 0, .bool false, .int .i64 0, .int .i64 0, .int .i64 0] ∧ AtL (((w.alloc (.cells #[.int .i64 c.i, .int .i64 c.n, .int .i64 c.f, .int .i64 c.b, .bool c.x, .int .i64 c.l, .int .i64 c.m, .int .i64 c.k] 62)).alloc (.cells #[.int .i64 0, .int .i64 0, .int .i64 0, .int .i64 0, .bool false, .int .i64 0, .int .i64 0, .int .i64 0] 59)).alloc (.cells #[.int .i64 c.i, .int .i64 c.n, .int .i64 0, .int .i64 0, .bool false, .int .i64 0, .int .i64 0, .int .i64 0] 59)) (w.heap.size + 2) 0 [.int .i64 c.i, .int .i64 c.n, .int .i64 0, .int .i64 0, .bool false, .int .i64 0, .int .i64 0, .int .i64 0] ∧ Below w.heap.size w (((w.alloc (.cells #[.int .i64 c.i, .int .i64 c.n, .int .i64 c.f, .int .i64 c.b, .bool c.x, .int .i64 c.l, .int .i64 c.m, .int .i64 c.k] 62)).alloc (.cells #[.int .i64 0, .int .i64 0, .int .i64 0, .int .i64 0, .bool false, .int .i64 0, .int .i64 0, .int .i64 0] 59)).alloc (.cells #[.int .i64 c.i, .int .i64 c.n, .int .i64 0, .int .i64 0, .bool false, .int .i64 0, .int .i64 0, .int .i64 0] 59))) at H0
  generalize ((w.alloc (.cells #[.int .i64 c.i, .int .i64 c.n, .int .i64 c.f, .int .i64 c.b, .bool c.x, .int .i64 c.l, .int .i64 c.m, .int .i64 c.k] 62)).alloc (.cells #[.int .i64 0, .int .i64 0, .int .i64 0, .int .i64 0, .bool false, .int .i64 0, .int .i64 0, .int .i64 0] 59)).alloc (.cells #[.int .i64 c.i, .int .i64 c.n, .int .i64 0, .int .i64 0, .bool false, .int .i64 0, .int .i64 0, .int .i64 0] 59) = W at *
  refine (to_any c.f c.b _).mono ?_
  rintro e w1 ⟨rfl, b1⟩
  have HC1 := Lib.hid (H0.out.1.below b1)
  have HZ1 := Lib.hid (H0.out.2.1.below b1)
  have HO1 := Lib.hid (H0.out.2.2.1.below b1)
  have HB1 := Lib.hid (next H0.out.2.2.2 b1)
  clear b1 H0
  have q2 := HO1.out.z8.1.2.2.1
  have q3 := HO1.out.z8.1.2.2.2.1
  have k2 := HO1.out.z8.2.2.2.1
  have k3 := HO1.out.z8.2.2.2.2.1
  have s4 := HC1.out.z8.1.2.2.2.2.1
  have HO2 : Hid (AtL ((w1.setCell ⟨w.heap.size + 2, 2, none⟩ (.int .i64 c.f)).setCell ⟨w.heap.size + 2, 3, none⟩ (.int .i64 c.b)) (w.heap.size + 2) 0 [.int .i64 c.i, .int .i64 c.n, .int .i64 c.f, .int .i64 c.b, .bool false, .int .i64 0, .int .i64 0, .int .i64 0]) := Lib.hid ((HO1.out.put (i := 2) (by show 2 < 8; omega) _).put (i := 3) (by show 3 < 8; omega) _)
  have hg2 := only_on (only_set w1 (w.heap.size + 2) 2 (.int .i64 c.f)) (only_set (w1.setCell ⟨w.heap.size + 2, 2, none⟩ (.int .i64 c.f)) (w.heap.size + 2) 3 (.int .i64 c.b))
  have HC2 := Lib.hid (HC1.out.only hg2 (by simp))
  have HZ2 := Lib.hid (HZ1.out.only hg2 (by simp))
  have HB2 := Lib.hid (below_only HB1.out hg2 HB1.out.size (by omega))
  clear hg2 HO1 HC1 HZ1 HB1
  go_wp2_with (refine wpList_st1 rfl 4 (.tmp 16) (.tmp 15) rfl (w.heap.size + 2) 4 _ rfl rfl rfl rfl infoB1 _ HO2.out (by show 4 < 8; omega) ?_)
  intro w3 a3 g3
  have HO3 : Hid (AtL w3 (w.heap.size + 2) 0 [.int .i64 c.i, .int .i64 c.n, .int .i64 c.f, .int .i64 c.b, .bool c.x, .int .i64 0, .int .i64 0, .int .i64 0]) := Lib.hid a3
  have HC3 := Lib.hid (HC2.out.only g3 (by simp))
  have HZ3 := Lib.hid (HZ2.out.only g3 (by simp))
  have HB3 := Lib.hid (below_only HB2.out g3 HB2.out.size (by omega))
  clear a3 g3 HO2 HC2 HZ2 HB2 q2 q3 k2 k3 s4
  have s5 := HC3.out.z8.1.2.2.2.2.2.1
  go_wp2_with (refine wpList_st1 rfl 3 (.tmp 19) (.tmp 18) rfl (w.heap.size + 2) 5 _ rfl rfl rfl rfl infoI1 _ HO3.out (by show 5 < 8; omega) ?_)
  intro w4 a4 g4
  have HO4 : Hid (AtL w4 (w.heap.size + 2) 0 [.int .i64 c.i, .int .i64 c.n, .int .i64 c.f, .int .i64 c.b, .bool c.x, .int .i64 c.l, .int .i64 0, .int .i64 0]) := Lib.hid a4
  have HC4 := Lib.hid (HC3.out.only g4 (by simp))
  have HZ4 := Lib.hid (HZ3.out.only g4 (by simp))
  have HB4 := Lib.hid (below_only HB3.out g4 HB3.out.size (by omega))
  clear a4 g4 HO3 HC3 HZ3 HB3 s5
  have s6 := HC4.out.z8.1.2.2.2.2.2.2.1
  go_wp2_with (refine wpList_st1 rfl 3 (.tmp 22) (.tmp 21) rfl (w.heap.size + 2) 6 _ rfl rfl rfl rfl infoI1 _ HO4.out (by show 6 < 8; omega) ?_)
  intro w5 a5 g5
  have HO5 : Hid (AtL w5 (w.heap.size + 2) 0 [.int .i64 c.i, .int .i64 c.n, .int .i64 c.f, .int .i64 c.b, .bool c.x, .int .i64 c.l, .int .i64 c.m, .int .i64 0]) := Lib.hid a5
  have HC5 := Lib.hid (HC4.out.only g5 (by simp))
  have HZ5 := Lib.hid (HZ4.out.only g5 (by simp))
  have HB5 := Lib.hid (below_only HB4.out g5 HB4.out.size (by omega))
  clear a5 g5 HO4 HC4 HZ4 HB4 s6
  have s7 := HC5.out.z8.1.2.2.2.2.2.2.2
  go_wp2_with (refine wpList_st1 rfl 3 (.tmp 25) (.tmp 24) rfl (w.heap.size + 2) 7 _ rfl rfl rfl rfl infoI1 _ HO5.out (by show 7 < 8; omega) ?_)
  intro w6 a6 g6
  have HO6 : Hid (AtL w6 (w.heap.size + 2) 0 [.int .i64 c.i, .int .i64 c.n, .int .i64 c.f, .int .i64 c.b, .bool c.x, .int .i64 c.l, .int .i64 c.m, .int .i64 c.k]) := Lib.hid a6
  have HC6 := Lib.hid (HC5.out.only g6 (by simp))
  have HZ6 := Lib.hid (HZ5.out.only g6 (by simp))
  have HB6 := Lib.hid (below_only HB5.out g6 HB5.out.size (by omega))
  clear a6 g6 HO5 HC5 HZ5 HB5 s7
  go_wp2_with (refine wpList_ldA rfl 59 (.tmp 3) rfl (w.heap.size + 2) rfl c.cells _ HO6.out Tryz.underlying59 rfl infoC8 ?_; refine wpList_stA rfl 59 (.tmp 2) (.tmp 26) rfl (w.heap.size + 1) c.cells.toArray rfl rfl (one8a c) infoC8 _ HZ6.out rfl ?_)
  intro w7 a7 g7
  have HF := Lib.hid (below_only HB6.out g7 HB6.out.size (by omega))
  obtain ⟨⟨z0, z1, z2, z3, z4, z5, z6, z7⟩, _⟩ := AtL.z8 a7
  clear a7 g7
  go_wp2_with fail
  exact bodyPost_ret (v := clV c) (by simp [results, Tryz.results31, go_sem, z0, z1, z2, z3, z4, z5, z6, z7]) rfl ⟨rfl, HF.out⟩
end Go.Proofs.YtioppkalehnoaaaGreatDoor
