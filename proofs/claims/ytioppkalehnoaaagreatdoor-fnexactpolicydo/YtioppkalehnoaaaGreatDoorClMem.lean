/-
  Clauses in memory: a struct of eight cells in a block, and in a slice; own slices of clauses.
-/
import Derived.Test.YtioppkalehnoaaaGreatDoorJ2
import Derived.Test.YtioppkalehnoaaaGreatDoorJ1
namespace Go.Proofs.YtioppkalehnoaaaGreatDoor
open Go.RowKit
set_option linter.unusedSimpArgs false
set_option linter.unusedVariables false

def CL.cells (c : CL) : List Value := [.int .i64 c.i, .int .i64 c.n, .int .i64 c.f, .int .i64 c.b, .bool c.x, .int .i64 c.l, .int .i64 c.m, .int .i64 c.k]
abbrev clV (c : CL) : Value := .agg #[.int .i64 c.i, .int .i64 c.n, .int .i64 c.f, .int .i64 c.b, .bool c.x, .int .i64 c.l, .int .i64 c.m, .int .i64 c.k]
abbrev clA (c : CL) : Array Value := #[.int .i64 c.i, .int .i64 c.n, .int .i64 c.f, .int .i64 c.b, .bool c.x, .int .i64 c.l, .int .i64 c.m, .int .i64 c.k]

/-- values in a block, from a place on -/
def AtL (w : World) (R o : Nat) (L : List Value) : Prop := ∀ (j : Nat) v, L[j]? = some v → w.cell? ⟨R, o + j, none⟩ = some v ∧ w.frozen? ⟨R, o + j, none⟩ = false
section
variable {w w' : World} {R o : Nat} {L : List Value}
theorem AtL.below (h : AtL w R o L) (k : Below w.heap.size w w') : AtL w' R o L := fun j v hj =>
  ⟨cell_later k (h j v hj).1, by rw [k.frozen (p := ⟨R, o + j, none⟩) (World.block_lt_of_cell? w _ (h j v hj).1)]; exact (h j v hj).2⟩
theorem AtL.alloc (h : AtL w R o L) (ob : Obj) : AtL (w.alloc ob) R o L := h.below ((Below.refl _ _).alloc (Nat.le_refl _) ob)
theorem AtL.drew (h : AtL w R o L) : AtL w.drew R o L := h
theorem AtL.only {row : Option Nat} (h : AtL w R o L) (hg : w.grownBy w' row) (hr : some R ≠ row) : AtL w' R o L := fun j v hj =>
  ⟨hg.cell (h j v hj).1 hr, (World.frozen?_of_block (w := w) (a := ⟨R, o + j, none⟩) (hg.block R (World.block_lt_of_cell? w _ (h j v hj).1) hr)).trans (h j v hj).2⟩
theorem AtL.far (h : AtL w R o L) (q : Addr) (v : Value) (hne : q.block ≠ R) : AtL (w.setCell q v) R o L := fun j u hj => by
  rw [World.cell?_setCell_far _ _ _ _ hne, World.frozen?_setCell]; exact h j u hj
theorem AtL.set (h : AtL w R o L) {i : Nat} (hi : i < L.length) (v : Value) : AtL (w.setCell ⟨R, o + i, none⟩ v) R o (L.set i v) := fun j u hj => by
  by_cases e : j = i
  · subst e
    rw [List.getElem?_set_self hi] at hj
    cases hj
    obtain ⟨h1, h2⟩ := h j L[j] (List.getElem?_eq_getElem hi)
    exact ⟨World.cell?_setCell_same' _ _ _ (by rw [h1]; rfl), by rw [World.frozen?_setCell]; exact h2⟩
  · rw [List.getElem?_set_ne (fun h => e h.symm)] at hj
    obtain ⟨h1, h2⟩ := h j u hj
    exact ⟨by rw [World.cell?_setCell_other _ _ _ _ (by first | (simp; done) | (simp; omega))]; exact h1, by rw [World.frozen?_setCell]; exact h2⟩
theorem AtL.lt (h : AtL w R o L) (hL : 0 < L.length) : R < w.heap.size := World.block_lt_of_cell? w _ (h 0 L[0] (List.getElem?_eq_getElem hL)).1
end
theorem AtL.new (w : World) (c : CL) (t : TypeId) : AtL (w.alloc (.cells (clA c) t)) w.heap.size 0 c.cells := fun j v hj => by
  match j, hj with
  | 0, h | 1, h | 2, h | 3, h | 4, h | 5, h | 6, h | 7, h => simp [CL.cells] at h; subst h; exact ⟨by simp, by simp⟩
  | n + 8, h => simp [CL.cells] at h
theorem AtL.z8 {w : World} {R : Nat} {x0 x1 x2 x3 x4 x5 x6 x7 : Value} (h : AtL w R 0 [x0, x1, x2, x3, x4, x5, x6, x7]) :
    (w.cell? ⟨R, 0, none⟩ = some x0 ∧ w.cell? ⟨R, 1, none⟩ = some x1 ∧ w.cell? ⟨R, 2, none⟩ = some x2 ∧ w.cell? ⟨R, 3, none⟩ = some x3 ∧ w.cell? ⟨R, 4, none⟩ = some x4 ∧ w.cell? ⟨R, 5, none⟩ = some x5 ∧ w.cell? ⟨R, 6, none⟩ = some x6 ∧ w.cell? ⟨R, 7, none⟩ = some x7) ∧
    w.frozen? ⟨R, 0, none⟩ = false ∧ w.frozen? ⟨R, 1, none⟩ = false ∧ w.frozen? ⟨R, 2, none⟩ = false ∧ w.frozen? ⟨R, 3, none⟩ = false ∧ w.frozen? ⟨R, 4, none⟩ = false ∧ w.frozen? ⟨R, 5, none⟩ = false ∧ w.frozen? ⟨R, 6, none⟩ = false ∧ w.frozen? ⟨R, 7, none⟩ = false := by
  have e : ∀ j, (0 : Nat) + j = j := Nat.zero_add
  have h0 := h 0 _ rfl; have h1 := h 1 _ rfl; have h2 := h 2 _ rfl; have h3 := h 3 _ rfl; have h4 := h 4 _ rfl; have h5 := h 5 _ rfl; have h6 := h 6 _ rfl; have h7 := h 7 _ rfl
  simp only [e] at h0 h1 h2 h3 h4 h5 h6 h7
  exact ⟨⟨h0.1, h1.1, h2.1, h3.1, h4.1, h5.1, h6.1, h7.1⟩, h0.2, h1.2, h2.2, h3.2, h4.2, h5.2, h6.2, h7.2⟩
/-- the cells alone -/
def C8 (w : World) (b o : Nat) (c : CL) : Prop :=
  w.cell? ⟨b, o, none⟩ = some (.int .i64 c.i) ∧ w.cell? ⟨b, o + 1, none⟩ = some (.int .i64 c.n) ∧ w.cell? ⟨b, o + 2, none⟩ = some (.int .i64 c.f) ∧ w.cell? ⟨b, o + 3, none⟩ = some (.int .i64 c.b) ∧ w.cell? ⟨b, o + 4, none⟩ = some (.bool c.x) ∧ w.cell? ⟨b, o + 5, none⟩ = some (.int .i64 c.l) ∧ w.cell? ⟨b, o + 6, none⟩ = some (.int .i64 c.m) ∧ w.cell? ⟨b, o + 7, none⟩ = some (.int .i64 c.k)
theorem C8.below {w w' : World} {b o : Nat} {c : CL} (h : C8 w b o c) (k : Below w.heap.size w w') : C8 w' b o c := by
  obtain ⟨h0, h1, h2, h3, h4, h5, h6, h7⟩ := h
  exact ⟨cell_later k h0, cell_later k h1, cell_later k h2, cell_later k h3, cell_later k h4, cell_later k h5, cell_later k h6, cell_later k h7⟩
theorem C8.drew {w : World} {b o : Nat} {c : CL} (h : C8 w b o c) : C8 w.drew b o c := h
theorem C8.only {w w' : World} {b o : Nat} {c : CL} {row : Option Nat} (h : C8 w b o c) (hg : w.grownBy w' row) (hr : some b ≠ row) : C8 w' b o c := by
  obtain ⟨h0, h1, h2, h3, h4, h5, h6, h7⟩ := h
  exact ⟨hg.cell h0 hr, hg.cell h1 hr, hg.cell h2 hr, hg.cell h3 hr, hg.cell h4 hr, hg.cell h5 hr, hg.cell h6 hr, hg.cell h7 hr⟩

def cells8 (L : List CL) : List Value := L.flatMap CL.cells
theorem eight_len (v : CL) : v.cells.length = 8 := rfl
theorem cells8_cons (v : CL) (L : List CL) : cells8 (v :: L) = v.cells ++ cells8 L := rfl
theorem cells8_app (L M : List CL) : cells8 (L ++ M) = cells8 L ++ cells8 M := by simp [cells8]
theorem cells8_len : ∀ L : List CL, (cells8 L).length = L.length * 8
  | [] => rfl
  | v :: L => by rw [cells8_cons, List.length_append, eight_len, cells8_len L, List.length_cons]; omega
theorem cells8_at : ∀ {L : List CL} {k : Nat} {v : CL} {j : Nat}, L[k]? = some v → j < 8 → (cells8 L)[k * 8 + j]? = v.cells[j]?
  | [], k, v, j, h, _ => by simp at h
  | u :: L, 0, v, j, h, hj => by
    obtain rfl : u = v := by simpa using h
    rw [cells8_cons, Nat.zero_mul, Nat.zero_add, List.getElem?_append_left (by rw [eight_len]; exact hj)]
  | u :: L, k + 1, v, j, h, hj => by
    rw [cells8_cons, List.getElem?_append_right (by rw [eight_len]; omega), eight_len, show (k + 1) * 8 + j - 8 = k * 8 + j by omega]
    exact cells8_at (by simpa using h) hj
theorem one8 (L : List CL) : ∀ u ∈ cells8 L, u.oneCell' = true := fun u hu => by
  obtain ⟨v, _, hv⟩ := List.mem_flatMap.1 hu
  simp only [CL.cells, List.mem_cons, List.not_mem_nil, or_false] at hv
  rcases hv with rfl | rfl | rfl | rfl | rfl | rfl | rfl | rfl <;> rfl

/-- a slice of clauses in memory -/
def CsA (w : World) (a : Option Addr) (L : List CL) : Prop := L = [] ∨ ∃ b off, a = some ⟨b, off, none⟩ ∧ ∀ (i : Nat) v, L[i]? = some v → C8 w b (off + i * 8) v
theorem CsA.below {w w' : World} {a : Option Addr} {L : List CL} (h : CsA w a L) (k : Below w.heap.size w w') : CsA w' a L := by
  rcases h with h | ⟨b, off, e, h⟩
  · exact .inl h
  · exact .inr ⟨b, off, e, fun i v hi => (h i v hi).below k⟩
theorem CsA.drew {w : World} {a : Option Addr} {L : List CL} (h : CsA w a L) : CsA w.drew a L := h
theorem CsA.alloc {w : World} {a : Option Addr} {L : List CL} (h : CsA w a L) (o : Obj) : CsA (w.alloc o) a L := h.below ((Below.refl _ _).alloc (Nat.le_refl _) o)
theorem CsA.at {w : World} {a : Option Addr} {L : List CL} (h : CsA w a L) {k : Nat} {c : CL} (hk : L[k]? = some c) : ∃ b off, a = some ⟨b, off, none⟩ ∧ C8 w b (off + k * 8) c := by
  rcases h with rfl | ⟨b, off, e, h⟩
  · simp at hk
  · exact ⟨b, off, e, h k c hk⟩

/-- an own slice of clauses -/
abbrev OwnC (w : World) (R : Nat) (v : Value) (L : List CL) : Prop := w.ownsRow R 59 8 v L.length (cells8 L)
theorem OwnC.tab {w : World} {R : Nat} {v : Value} {L : List CL} (h : OwnC w R v L) : ∃ a c, v = .slice a L.length c ∧ L.length ≤ c ∧ CsA w a L := by
  obtain ⟨_, h2⟩ := id h
  rcases h2 with ⟨rfl, h0⟩ | ⟨g, cap, cur, rfl, hb, hg, hn, hm, hs, ht⟩
  · have hL : L = [] := List.eq_nil_of_length_eq_zero h0
    subst hL
    exact ⟨none, 0, rfl, Nat.le_refl _, .inl rfl⟩
  · refine ⟨some ⟨g, 0, none⟩, cap, rfl, hn, .inr ⟨g, 0, rfl, fun i v hi => ?_⟩⟩
    have c : ∀ j u, (cells8 L)[j]? = some u → w.cell? ⟨g, j, none⟩ = some u := fun j u hu => by
      have := World.ownsRow.cells h (g := g) rfl j u hu
      by_cases hj : j = 0
      · subst hj; simpa [Addr.add] using this
      · simpa [Addr.add, hj] using this
    rw [Nat.zero_add]
    exact ⟨c _ _ (cells8_at (j := 0) hi (by omega)), c _ _ (cells8_at (j := 1) hi (by omega)), c _ _ (cells8_at (j := 2) hi (by omega)), c _ _ (cells8_at (j := 3) hi (by omega)), c _ _ (cells8_at (j := 4) hi (by omega)), c _ _ (cells8_at (j := 5) hi (by omega)), c _ _ (cells8_at (j := 6) hi (by omega)), c _ _ (cells8_at (j := 7) hi (by omega))⟩
theorem ownc_later {w w' : World} {R : Nat} {v : Value} {L : List CL} (h : OwnC w R v L) (k : Below w.heap.size w w') : OwnC w' R v L :=
  World.ownsRow.kept h (row := none) ⟨k.os, k.tape, k.output, k.size, fun i hi _ => k.block i hi⟩ (by cases v.ownBlock with | none => exact .inl rfl | some k => exact .inr (by simp))
theorem ownc_mono {w : World} {R R' : Nat} {v : Value} {L : List CL} (h : OwnC w R v L) (hR : R' ≤ R) : OwnC w R' v L := World.ownsRow.mono h hR
theorem ownc_empty (w : World) (R : Nat) (hR : R ≤ w.heap.size) : OwnC (w.alloc (.cells #[] 59)) R (.slice (some ⟨w.heap.size, 0, none⟩) 0 0) [] := World.ownsRow_lit w #[] 0 hR (by unfold maxLen; omega) rfl
theorem ownc_one (w : World) (R : Nat) (hR : R ≤ w.heap.size) (c : CL) : OwnC (w.alloc (.cells (clA c) 59)) R (.slice (some ⟨w.heap.size, 0, none⟩) 1 1) [c] := World.ownsRow_lit w (clA c) 1 hR (by unfold maxLen; omega) rfl
theorem ownc_pick {w w' : World} {R B : Nat} {v : Value} {L : List CL} (h : OwnC w R v L) (hg : w.grownBy w' (some B)) (hB : B < R) : OwnC w' R v L := by
  refine World.ownsRow.kept h hg ?_
  cases e : v.ownBlock with
  | none => exact .inl rfl
  | some k => exact .inr fun q => by have := (World.ownsRow.lt h k e).1; simp at q; omega
/-- rows of ints and rows of clauses lie apart -/
theorem owni_farC {w w' : World} {R R' : Nat} {v u : Value} {L : List CL} {P : List Int} (h : OwnC w R v L) (ho : OwnI w R' u P) (hg : w.grownBy w' v.ownBlock) : OwnI w' R' u P := by
  refine World.ownsRow.kept ho hg ?_
  rcases ho.2 with ⟨e0, _⟩ | ⟨b, c, cur, e0, _, hb, _⟩
  · rw [e0]; exact .inl (by simp [Value.ownBlock])
  · refine .inr (fun e => ?_)
    have e1 : v.ownBlock = some b := by rw [← e, e0]; simp [Value.ownBlock]
    rcases h.2 with ⟨e2, _⟩ | ⟨g', c', cur', e2, _, hb', _⟩
    · rw [e2] at e1; simp [Value.ownBlock] at e1
    · have e3 : b = g' := by rw [e2] at e1; simp [Value.ownBlock] at e1; exact e1.symm
      rw [e3, hb'] at hb
      simp at hb
theorem infoC : (Tryz.prog.info? 59).map (fun i => (i.zero, i.size, i.bytes)) = some (some (.agg #[.int .i64 0, .int .i64 0, .int .i64 0, .int .i64 0, .bool false, .int .i64 0, .int .i64 0, .int .i64 0]), 8, 64) := by kernel_rfl
/-- cells that a source of clauses has -/
def Src8 (w : World) (a : Option Addr) (L : List CL) : Prop := L = [] ∨ ∃ D o, a = some ⟨D, o, none⟩ ∧ ∀ (j : Nat) u, (cells8 L)[j]? = some u → w.cell? ⟨D, o + j, none⟩ = some u
theorem C8.at {w : World} {b o : Nat} {c : CL} (h : C8 w b o c) {j : Nat} {u : Value} (hu : c.cells[j]? = some u) : w.cell? ⟨b, o + j, none⟩ = some u := by
  obtain ⟨h0, h1, h2, h3, h4, h5, h6, h7⟩ := h
  match j, hu with
  | 0, e => simp [CL.cells] at e; subst e; exact h0
  | 1, e => simp [CL.cells] at e; subst e; exact h1
  | 2, e => simp [CL.cells] at e; subst e; exact h2
  | 3, e => simp [CL.cells] at e; subst e; exact h3
  | 4, e => simp [CL.cells] at e; subst e; exact h4
  | 5, e => simp [CL.cells] at e; subst e; exact h5
  | 6, e => simp [CL.cells] at e; subst e; exact h6
  | 7, e => simp [CL.cells] at e; subst e; exact h7
  | n + 8, e => simp [CL.cells] at e
theorem CsA.src {w : World} {a : Option Addr} {L : List CL} (h : CsA w a L) : Src8 w a L := by
  rcases h with h | ⟨b, off, e, h⟩
  · exact .inl h
  · refine .inr ⟨b, off, e, fun j u hu => ?_⟩
    have hj : j < L.length * 8 := by have := (List.getElem?_eq_some_iff.1 hu).1; rwa [cells8_len] at this
    have hv : L[j / 8]? = some L[j / 8] := List.getElem?_eq_getElem (by omega)
    have e2 := cells8_at (j := j % 8) hv (by omega)
    rw [show j / 8 * 8 + j % 8 = j by omega] at e2
    rw [e2] at hu
    have := (h _ _ hv).at hu
    rw [show off + j / 8 * 8 + j % 8 = off + j by omega] at this
    exact this
theorem news8 (w : World) (c : CL) : CsA (w.alloc (.cells (clA c) 59)) (some ⟨w.heap.size, 0, none⟩) [c] := by
  obtain ⟨a, cp, e, _, h⟩ := OwnC.tab (ownc_one w w.heap.size (Nat.le_refl _) c)
  injection e with e1 _ _
  rw [e1]; exact h
/-- 'append(own, xs...)' on clauses, also of none -/
theorem wp_appC {o : Oper} {act : Act} {w : World} {Kc : Act → World → Prop} {Q : Exit → Act → World → Prop} (s x : Operand)
    (hop : o.op = .call { callee := .builtin .append, args := #[s, x], argTypes := #[35, 35] })
    (R : Nat) (v : Value) (L : List CL) (hs : act.eval s = v) (hown : OwnC w R v L)
    (a : Option Addr) (m c : Nat) (M : List CL) (hm : m = M.length) (hx : act.eval x = .slice a m c) (hM : CsA w a M) (hlen : L.length + M.length ≤ 2000000) (hR : R ≤ w.heap.size)
    (h : ∀ v' w', OwnC w' R v' (L ++ M) → w.grownBy w' v.ownBlock → Kc (act.put o.dst v') w') : o.wp Tryz.prog act w Kc Q := by
  subst hm
  obtain ⟨i0, hi, hz0, hz1, hz2⟩ := info_parts infoC
  rcases hM.src with rfl | ⟨D, off, rfl, hc⟩
  · obtain ⟨a0, cap0, rfl, hc0, _⟩ := OwnC.tab hown
    have hr := run_append_nothing (P := Tryz.prog) w 35 35 o.type 59 i0 Tryz.underlying35 hi a0 L.length cap0 hc0 (.slice a 0 c) (by
      cases a with
      | none => exact Src.ofNil w Tryz.underlying35 c
      | some ad => exact Src.ofSlice w Tryz.underlying35 ad 0 c [] (by simp) (fun j u h => by simp at h) (fun u h => by cases h))
    unfold Oper.wp execOp
    simp only [hop, resolve, invoke, builtin, Sem.run_bind, Sem.run_pure, Result.andThen_ok, List.map_toArray, List.map_cons, List.map_nil, hs, hx, List.length_nil, hr]
    exact h _ _ (by simpa using hown) (World.grownBy.refl _ _)
  · refine wp_append_own w s x 35 hop R 59 i0 (.agg #[.int .i64 0, .int .i64 0, .int .i64 0, .int .i64 0, .bool false, .int .i64 0, .int .i64 0, .int .i64 0]) 8 64 Tryz.underlying35 hi hz0 hz1 hz2 rfl (by decide) v L.length (cells8 L) hs hown ⟨D, off, none⟩ M.length c (cells8 M) hx (cells8_len M) ?_ (one8 M) (by unfold maxLen; omega) (by omega) hR ?_
    · intro j u hu
      rw [Addr.add_lit]; exact hc j u hu
    · intro v' w' h2 h3 h4
      exact h v' w' (by rw [OwnC, List.length_append, cells8_app]; exact h2) h3
theorem wpList_appC {ops : Array Oper} {rest : List Oper} {o : Oper} {act : Act} {w : World} {Q : Exit → Act → World → Prop} (hgd : o.guard = none) (s x : Operand)
    (hop : o.op = .call { callee := .builtin .append, args := #[s, x], argTypes := #[35, 35] })
    (R : Nat) (v : Value) (L : List CL) (hs : act.eval s = v) (hown : OwnC w R v L)
    (a : Option Addr) (m c : Nat) (M : List CL) (hm : m = M.length) (hx : act.eval x = .slice a m c) (hM : CsA w a M) (hlen : L.length + M.length ≤ 2000000) (hR : R ≤ w.heap.size)
    (h : ∀ v' w', OwnC w' R v' (L ++ M) → w.grownBy w' v.ownBlock → wpList Tryz.prog ops Q rest (act.put o.dst v') w') : wpList Tryz.prog ops Q (o :: rest) act w :=
  wpList_plain hgd fun _ hK => wp_appC s x hop R v L hs hown a m c M hm hx hM hlen hR fun v' w' h2 h3 => hK _ _ (h v' w' h2 h3)
end Go.Proofs.YtioppkalehnoaaaGreatDoor
