/-
  Values in a block: what is kept, what a store of a struct or of one field leaves.
-/
import Derived.Test.YtnnmgbgkgnejlaaDoorSlMem
import Derived.Deep.MidRow
namespace Go.Proofs.YtnnmgbgkgnejlaaDoor
open Go.RowKit
set_option linter.unusedSimpArgs false
set_option linter.unusedVariables false

def AtY (w : World) (R : Nat) (L : List Value) : Prop := ∀ (j : Nat) v, L[j]? = some v → w.cell? ⟨R, j, none⟩ = some v ∧ w.frozen? ⟨R, j, none⟩ = false
section
variable {w w' : World} {R : Nat} {L : List Value}
theorem AtY.below (h : AtY w R L) (k : Below w.heap.size w w') : AtY w' R L := fun j v hj =>
  ⟨cell_later k (h j v hj).1, by rw [k.frozen (p := ⟨R, j, none⟩) (World.block_lt_of_cell? w _ (h j v hj).1)]; exact (h j v hj).2⟩
theorem AtY.only {row : Option Nat} (h : AtY w R L) (hg : w.grownBy w' row) (hr : some R ≠ row) : AtY w' R L := fun j v hj =>
  ⟨hg.cell (h j v hj).1 hr, (World.frozen?_of_block (w := w) (a := ⟨R, j, none⟩) (hg.block R (World.block_lt_of_cell? w _ (h j v hj).1) hr)).trans (h j v hj).2⟩
theorem AtY.range (h : AtY w R L) : w.rangeAt R 0 L := fun j v hj => by rw [Nat.zero_add]; exact (h j v hj).1
theorem AtY.there (h : AtY w R L) {n : Nat} (hn : n ≤ L.length) : w.there R 0 n := fun j hj => by
  obtain ⟨h1, h2⟩ := h j L[j] (List.getElem?_eq_getElem (by omega))
  rw [Nat.zero_add]
  exact ⟨by rw [h1]; rfl, h2⟩
theorem AtY.sets (h : AtY w R L) (vs : List Value) (hv : vs.length = L.length) : AtY (w.setCells R 0 vs) R vs := fun j v hj => by
  have h1 := World.rangeAt_setCells_same w R 0 vs (h.there (by omega)) j v hj
  rw [Nat.zero_add] at h1
  exact ⟨h1, by rw [World.frozen?_setCells]; have := (h.there (Nat.le_refl _) j (by have := (List.getElem?_eq_some_iff.1 hj).1; omega)).2; rwa [Nat.zero_add] at this⟩
end
theorem onlyY_set (w : World) (R o : Nat) (v : Value) : w.grownBy (w.setCell ⟨R, o, none⟩ v) (some R) := ⟨rfl, rfl, rfl, by simp [World.setCell], fun k _ hk => Below.heap_setCell _ _ _ _ (fun e => hk (by first | (simp at e; rw [e]; done) | (rw [e]; done) | simp [e]))⟩
theorem onlyY_sets {R : Nat} : ∀ (vs : List Value) (o : Nat) (w : World), w.grownBy (w.setCells R o vs) (some R)
  | [], _, w => World.grownBy.refl _ _
  | v :: vs, o, w => by
    rw [World.setCells]
    exact only_on (onlyY_set w R o v) (onlyY_sets vs (o + 1) (w.setCell ⟨R, o, none⟩ v))
/-- a whole struct is stored: the world behind it is a letter -/
theorem wp_stY {P : Program} {op : Oper} {a : Act} {w : World} {Kc : Act → World → Prop} {Q : Exit → Act → World → Prop} (ty : TypeId) (x y : Operand) (ho : op.op = .store ty x y)
    (R : Nat) (cells : Array Value) (hx : a.eval x = .pointer (some ⟨R, 0, none⟩)) (hy : a.eval y = .agg cells) (h1 : cells.all (·.oneCell') = true) (hi : (P.info? ty).map (·.size) = some cells.size)
    (L : List Value) (hA : AtY w R L) (hl : cells.toList.length = L.length)
    (h : ∀ w', AtY w' R cells.toList → w.grownBy w' (some R) → Kc (a.put op.dst undef) w') : op.wp P a w Kc Q :=
  Go.wp_store_mid ty x y ho R 0 cells hx hy (hA.there (by rw [← hl]; simp)) hi h1 (h _ (hA.sets _ hl) (onlyY_sets _ _ _))
theorem wpList_stY {P : Program} {ops : Array Oper} {rest : List Oper} {op : Oper} {a : Act} {w : World} {Q : Exit → Act → World → Prop} (hgd : op.guard = none) (ty : TypeId) (x y : Operand) (ho : op.op = .store ty x y)
    (R : Nat) (cells : Array Value) (hx : a.eval x = .pointer (some ⟨R, 0, none⟩)) (hy : a.eval y = .agg cells) (h1 : cells.all (·.oneCell') = true) (hi : (P.info? ty).map (·.size) = some cells.size)
    (L : List Value) (hA : AtY w R L) (hl : cells.toList.length = L.length)
    (h : ∀ w', AtY w' R cells.toList → w.grownBy w' (some R) → wpList P ops Q rest (a.put op.dst undef) w') : wpList P ops Q (op :: rest) a w :=
  wpList_plain hgd fun _ hK => wp_stY ty x y ho R cells hx hy h1 hi L hA hl (fun w' h2 h3 => hK _ _ (h w' h2 h3))
theorem AtY.new5 (w : World) (a b c d e : Value) (t : TypeId) : AtY (w.alloc (.cells #[a, b, c, d, e] t)) w.heap.size [a, b, c, d, e] := fun j v hj => by
  match j, hj with
  | 0, h | 1, h | 2, h | 3, h | 4, h => simp at h; subst h; exact ⟨by simp, by simp⟩
  | n + 5, h => simp at h
theorem AtY.drew {w : World} {R : Nat} {L : List Value} (h : AtY w R L) : AtY w.drew R L := h
theorem AtY.five {w : World} {R : Nat} {a b c d e : Value} (h : AtY w R [a, b, c, d, e]) : w.cell? ⟨R, 0, none⟩ = some a ∧ w.cell? ⟨R, 1, none⟩ = some b ∧ w.cell? ⟨R, 2, none⟩ = some c ∧ w.cell? ⟨R, 3, none⟩ = some d ∧ w.cell? ⟨R, 4, none⟩ = some e :=
  ⟨(h 0 a rfl).1, (h 1 b rfl).1, (h 2 c rfl).1, (h 3 d rfl).1, (h 4 e rfl).1⟩
theorem AtY.lt {w : World} {R : Nat} {L : List Value} (h : AtY w R L) (hL : 0 < L.length) : R < w.heap.size := World.block_lt_of_cell? w _ (h 0 L[0] (List.getElem?_eq_getElem hL)).1
/-- a block of values lies apart from an own row -/
theorem AtY.aside {w : World} {R A : Nat} {v : Value} {P : List Int} {L : List Value} (h : AtY w R L) (hL : 0 < L.length) (hR : R < A) (ho : OwnI w A v P) : some R ≠ v.ownBlock := fun e => by
  have := (ho.lt R e.symm).1; omega
/-- one field is stored -/
theorem wpList_st1Y {P : Program} {ops : Array Oper} {rest : List Oper} {op : Oper} {a : Act} {w : World} {Q : Exit → Act → World → Prop} (hgd : op.guard = none) (ty : TypeId) (x y : Operand) (ho : op.op = .store ty x y)
    (R i : Nat) (v : Value) (hx : a.eval x = .pointer (some ⟨R, i, none⟩)) (hy : a.eval y = v) (hc : v.cells = #[v]) (h1 : v.oneCell' = true) (hi : (P.info? ty).map (·.size) = some 1)
    (L : List Value) (hA : AtY w R L) (hil : i < L.length)
    (h : ∀ w', AtY w' R (L.set i v) → w.grownBy w' (some R) → wpList P ops Q rest (a.put op.dst undef) w') : wpList P ops Q (op :: rest) a w := by
  refine wpList_plain hgd fun K hK => ?_
  obtain ⟨q1, q2⟩ := hA i L[i] (List.getElem?_eq_getElem hil)
  have hr : (storeVar ty ⟨R, i, none⟩ v).run P w = .ok () (w.setCells R i [v]) := by
    have z0 : ∀ j : Nat, j < [v].length → j = 0 := fun j hj => by simpa using hj
    have := run_storeCells_cells (P := P) R i [v] 0 w (fun j hj => by rw [z0 j hj]; simp [q1]) (fun j hj => by rw [z0 j hj]; simpa using q2) (fun u hu => by simp at hu; subst hu; exact h1)
    cases hq : P.info? ty with
    | none => simp [hq] at hi
    | some q =>
      have hs : 1 = q.size := by simp [hq] at hi; omega
      simp only [Nat.add_zero] at this
      simp [storeVar, sizeOf, typeInfo, hq, hc, hs.symm, this]
  unfold Oper.wp execOp
  simp only [ho, hx, hy, Instr.storeAt, Instr.sureAddr, Sem.run_bind, Sem.run_pure, Result.andThen_ok, hr]
  refine hK _ _ (h _ (fun j u hj => ?_) (onlyY_sets [v] i w))
  rw [World.setCells, World.setCells]
  by_cases e : j = i
  · subst e
    rw [List.getElem?_set_self hil] at hj
    cases hj
    exact ⟨World.cell?_setCell_same' _ _ _ (by rw [q1]; rfl), by rw [World.frozen?_setCell]; exact q2⟩
  · rw [List.getElem?_set_ne (fun h => e h.symm)] at hj
    obtain ⟨p1, p2⟩ := hA j u hj
    exact ⟨by rw [World.cell?_setCell_other _ _ _ _ (by first | (simp; done) | (simp; omega))]; exact p1, by rw [World.frozen?_setCell]; exact p2⟩
theorem infoSl5 : (Tryd.prog.info? 34).map (·.size) = some 5 := by kernel_rfl
theorem infoI1s : (Tryd.prog.info? 3).map (·.size) = some 1 := by kernel_rfl
theorem oneSl5 (v : SV) : (#[Value.int .i64 v.y, Value.int .i64 v.t, Value.int .i64 v.f, Value.int .i64 v.b, v.s]).all (·.oneCell') = true := by simp [Value.oneCell']
end Go.Proofs.YtnnmgbgkgnejlaaDoor
