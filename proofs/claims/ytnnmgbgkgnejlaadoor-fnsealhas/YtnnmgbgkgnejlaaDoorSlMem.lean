/-
  Seals and holdings in memory: structs of five and of three cells in slices; own slices of them.
-/
import Derived.Test.YtnnmgbgkgnejlaaDoorJ2
import Derived.Test.YtnnmgbgkgnejlaaDoorJ1
namespace Go.Proofs.YtnnmgbgkgnejlaaDoor
open Go.RowKit
set_option linter.unusedSimpArgs false
set_option linter.unusedVariables false

/-- a seal, by what it says -/
structure SP where
  y : Int
  t : Int
  f : Int
  b : Int
  P : List Int
deriving DecidableEq
/-- a seal, as it lies in memory -/
structure SV where
  y : Int
  t : Int
  f : Int
  b : Int
  a : Option Addr
  c : Nat
  P : List Int
instance : Inhabited SV := ⟨⟨0, 0, 0, 0, none, 0, []⟩⟩
def SV.p (v : SV) : SP := ⟨v.y, v.t, v.f, v.b, v.P⟩
abbrev SV.s (v : SV) : Value := .slice v.a v.P.length v.c
def SV.cells (v : SV) : List Value := [.int .i64 v.y, .int .i64 v.t, .int .i64 v.f, .int .i64 v.b, .slice v.a v.P.length v.c]
abbrev slV (v : SV) : Value := .agg #[.int .i64 v.y, .int .i64 v.t, .int .i64 v.f, .int .i64 v.b, .slice v.a v.P.length v.c]
def cellsSl (L : List SV) : List Value := L.flatMap SV.cells
theorem sl_five (v : SV) : v.cells.length = 5 := rfl
theorem cellsSl_cons (v : SV) (L : List SV) : cellsSl (v :: L) = v.cells ++ cellsSl L := rfl
theorem cellsSl_app (L M : List SV) : cellsSl (L ++ M) = cellsSl L ++ cellsSl M := by simp [cellsSl]
theorem cellsSl_len : ∀ L : List SV, (cellsSl L).length = L.length * 5
  | [] => rfl
  | v :: L => by rw [cellsSl_cons, List.length_append, sl_five, cellsSl_len L, List.length_cons]; omega
theorem cellsSl_at : ∀ {L : List SV} {k : Nat} {v : SV} {j : Nat}, L[k]? = some v → j < 5 → (cellsSl L)[k * 5 + j]? = v.cells[j]?
  | [], k, v, j, h, _ => by simp at h
  | u :: L, 0, v, j, h, hj => by
    obtain rfl : u = v := by simpa using h
    rw [cellsSl_cons, Nat.zero_mul, Nat.zero_add, List.getElem?_append_left (by rw [sl_five]; exact hj)]
  | u :: L, k + 1, v, j, h, hj => by
    rw [cellsSl_cons, List.getElem?_append_right (by rw [sl_five]; omega), sl_five, show (k + 1) * 5 + j - 5 = k * 5 + j by omega]
    exact cellsSl_at (by simpa using h) hj
theorem oneSl (L : List SV) : ∀ u ∈ cellsSl L, u.oneCell' = true := fun u hu => by
  obtain ⟨v, _, hv⟩ := List.mem_flatMap.1 hu
  simp only [SV.cells, List.mem_cons, List.not_mem_nil, or_false] at hv
  rcases hv with rfl | rfl | rfl | rfl | rfl <;> rfl
/-- the five cells of a seal -/
def SlC (w : World) (b o : Nat) (v : SV) : Prop :=
  w.cell? ⟨b, o, none⟩ = some (.int .i64 v.y) ∧ w.cell? ⟨b, o + 1, none⟩ = some (.int .i64 v.t) ∧ w.cell? ⟨b, o + 2, none⟩ = some (.int .i64 v.f) ∧ w.cell? ⟨b, o + 3, none⟩ = some (.int .i64 v.b) ∧ w.cell? ⟨b, o + 4, none⟩ = some (.slice v.a v.P.length v.c)
theorem SlC.below {w w' : World} {b o : Nat} {v : SV} (h : SlC w b o v) (k : Below w.heap.size w w') : SlC w' b o v := ⟨cell_later k h.1, cell_later k h.2.1, cell_later k h.2.2.1, cell_later k h.2.2.2.1, cell_later k h.2.2.2.2⟩
/-- the path of a seal can be read -/
def SV.m (v : SV) (w : World) : Prop := IntA w v.a v.P ∧ v.P.length ≤ v.c ∧ v.P.length ≤ 2000000
theorem SV.m.below {v : SV} {w w' : World} (h : v.m w) (k : Below w.heap.size w w') : v.m w' := ⟨h.1.below k, h.2⟩
/-- a slice of seals -/
def SlA (w : World) (a : Option Addr) (L : List SV) : Prop :=
  (L = [] ∨ ∃ b off, a = some ⟨b, off, none⟩ ∧ ∀ (i : Nat) v, L[i]? = some v → SlC w b (off + i * 5) v) ∧ ∀ v ∈ L, v.m w
theorem SlA.below {w w' : World} {a : Option Addr} {L : List SV} (h : SlA w a L) (k : Below w.heap.size w w') : SlA w' a L := by
  refine ⟨?_, fun v hv => (h.2 v hv).below k⟩
  rcases h.1 with h1 | ⟨b, off, e, h1⟩
  · exact .inl h1
  · exact .inr ⟨b, off, e, fun i v hi => (h1 i v hi).below k⟩
theorem SlA.at {w : World} {a : Option Addr} {L : List SV} (h : SlA w a L) {k : Nat} {v : SV} (hk : L[k]? = some v) : ∃ b off, a = some ⟨b, off, none⟩ ∧ SlC w b (off + k * 5) v ∧ v.m w := by
  have hm := h.2 v (List.mem_of_getElem? hk)
  rcases h.1 with rfl | ⟨b, off, e, h1⟩
  · simp at hk
  · exact ⟨b, off, e, h1 k v hk, hm⟩
/-- an own slice of seals; their paths are one's own, too, all apart -/
abbrev OwnSl (w : World) (R : Nat) (v : Value) (L : List SV) : Prop := w.ownsRow R 34 5 v L.length (cellsSl L)
def SV.ap (x y : SV) : Prop := ∀ k, x.s.ownBlock = some k → y.s.ownBlock ≠ some k
structure SlR (W : World) (R : Nat) (v : Value) (L : List SV) : Prop where
  row : OwnSl W R v L
  own : ∀ x ∈ L, OwnI W R x.s x.P
  ap : L.Pairwise SV.ap
theorem slrows_apart {w : World} {R R' z z' n n' : Nat} {e e' : TypeId} {v v' : Value} {xs xs' : List Value} (h : w.ownsRow R e z v n xs) (h' : w.ownsRow R' e' z' v' n' xs') (hne : e ≠ e') : v.ownBlock = none ∨ v.ownBlock ≠ v'.ownBlock := by
  rcases h.2 with ⟨e0, _⟩ | ⟨g, cap, cur, e0, _, hb, _⟩
  · rw [e0]; exact .inl (by simp [Value.ownBlock])
  · refine .inr fun q => ?_
    rcases h'.2 with ⟨e2, _⟩ | ⟨g', c', cur', e2, _, hb', _⟩
    · rw [e0, e2] at q; simp [Value.ownBlock] at q
    · have e3 : g = g' := by rw [e0, e2] at q; simpa [Value.ownBlock] using q
      rw [e3, hb'] at hb
      simp at hb
      exact hne hb.2.symm
theorem ownsl_later {w w' : World} {R : Nat} {v : Value} {L : List SV} (h : OwnSl w R v L) (k : Below w.heap.size w w') : OwnSl w' R v L :=
  World.ownsRow.kept h (row := none) ⟨k.os, k.tape, k.output, k.size, fun i hi _ => k.block i hi⟩ (by cases v.ownBlock with | none => exact .inl rfl | some k => exact .inr (by simp))
theorem SlR.later {W W' : World} {R : Nat} {v : Value} {L : List SV} (h : SlR W R v L) (k : Below W.heap.size W W') : SlR W' R v L := ⟨ownsl_later h.row k, fun x hx => owni_later (h.own x hx) k, h.ap⟩
theorem SlR.alloc {W : World} {R : Nat} {v : Value} {L : List SV} (h : SlR W R v L) (o : Obj) : SlR (W.alloc o) R v L := h.later ((Below.refl _ _).alloc (Nat.le_refl _) o)
theorem SlR.mono {W : World} {R R' : Nat} {v : Value} {L : List SV} (h : SlR W R v L) (hR : R' ≤ R) : SlR W R' v L := ⟨World.ownsRow.mono h.row hR, fun x hx => owni_mono (h.own x hx) hR, h.ap⟩
theorem SlR.lt {W : World} {R : Nat} {v : Value} {L : List SV} (h : SlR W R v L) : ∀ x ∈ L, ∀ k, x.s.ownBlock = some k → k < W.heap.size := fun x hx k hk => ((h.own x hx).lt k hk).2
theorem OwnSl.tab {w : World} {R : Nat} {v : Value} {L : List SV} (h : OwnSl w R v L) : ∃ a c, v = .slice a L.length c ∧ L.length ≤ c := by
  rcases h.2 with ⟨e0, h0⟩ | ⟨g, cap, cur, e0, hb, hg, hn, _⟩
  · exact ⟨none, 0, by rw [e0, h0], by omega⟩
  · exact ⟨some ⟨g, 0, none⟩, cap, e0, hn⟩
theorem OwnSl.sla {w : World} {R n c : Nat} {a : Option Addr} {L : List SV} (h : OwnSl w R (.slice a n c) L) (hm : ∀ v ∈ L, v.m w) : SlA w a L := by
  refine ⟨?_, hm⟩
  rcases h.2 with ⟨e0, h0⟩ | ⟨g, cap, cur, e0, _⟩
  · exact .inl (List.eq_nil_of_length_eq_zero h0)
  · injection e0 with e1 e2 e3
    subst e1
    refine .inr ⟨g, 0, rfl, fun i v hi => ?_⟩
    have c : ∀ j : Nat, ∀ u, (cellsSl L)[j]? = some u → w.cell? ⟨g, j, none⟩ = some u := fun j u hu => by
      have := World.ownsRow.cells h (g := g) rfl j u hu
      rwa [Addr.add_mid, Nat.zero_add] at this
    rw [Nat.zero_add]
    exact ⟨c _ _ (cellsSl_at (j := 0) hi (by omega)), c _ _ (cellsSl_at (j := 1) hi (by omega)), c _ _ (cellsSl_at (j := 2) hi (by omega)), c _ _ (cellsSl_at (j := 3) hi (by omega)), c _ _ (cellsSl_at (j := 4) hi (by omega))⟩
theorem SlR.sla {W : World} {R n c : Nat} {a : Option Addr} {L : List SV} (h : SlR W R (.slice a n c) L) (hl : ∀ x ∈ L, x.P.length ≤ 2000000) : SlA W a L := OwnSl.sla h.row (fun x hx => ⟨(OwnI.intA (h.own x hx)).2.2, (OwnI.intA (h.own x hx)).2.1, hl x hx⟩)
theorem slr_empty (w : World) (R : Nat) (hR : R ≤ w.heap.size) : SlR (w.alloc (.cells #[] 34)) R (.slice (some ⟨w.heap.size, 0, none⟩) 0 0) [] := ⟨World.ownsRow_lit w #[] 0 hR (by unfold maxLen; omega) rfl, fun x hx => (by cases hx), List.Pairwise.nil⟩
theorem infoSl : (Tryd.prog.info? 34).map (fun i => (i.zero, i.size, i.bytes)) = some (some (.agg #[.int .i64 0, .int .i64 0, .int .i64 0, .int .i64 0, .slice none 0 0]), 5, 56) := by kernel_rfl
/-- a seal more -/
theorem SlR.app {W W' : World} {R N : Nat} {v v' : Value} {L : List SV} {y : SV} (h : SlR W R v L) (hR : R ≤ N) (hN : ∀ x ∈ L, ∀ k, x.s.ownBlock = some k → k < N) (hy : OwnI W N y.s y.P) (own : OwnSl W' R v' (L ++ [y])) (grow : W.grownBy W' v.ownBlock) : SlR W' R v' (L ++ [y]) := by
  have keep : ∀ x : SV, OwnI W R x.s x.P → OwnI W' R x.s x.P := fun x hx => World.ownsRow.kept hx grow (slrows_apart hx h.row (by decide))
  refine ⟨own, fun x hx => ?_, ?_⟩
  · rcases List.mem_append.1 hx with k | k
    · exact keep x (h.own x k)
    · obtain rfl : x = y := by simpa using k
      exact keep x (owni_mono hy hR)
  · rw [List.pairwise_append]
    refine ⟨h.ap, by simp, fun x hx z hz k hk hz2 => ?_⟩
    obtain rfl : z = y := by simpa using hz
    have h1 := hN x hx k hk
    have h2 := (hy.lt k hz2).1
    omega
/-- 'append(own, xs...)' on seals, onto a nil slice too -/
theorem wpList_appSl {ops : Array Oper} {rest : List Oper} {o : Oper} {act : Act} {w : World} {Q : Exit → Act → World → Prop} (hgd : o.guard = none) (s x : Operand)
    (hop : o.op = .call { callee := .builtin .append, args := #[s, x], argTypes := #[30, 30] })
    (R : Nat) (v : Value) (L : List SV) (hs : act.eval s = v) (hown : OwnSl w R v L)
    (D m c : Nat) (M : List SV) (hm : m = M.length) (hx : act.eval x = .slice (some ⟨D, 0, none⟩) m c) (hM : ∀ (j : Nat) u, (cellsSl M)[j]? = some u → w.cell? ⟨D, j, none⟩ = some u) (hlen : L.length + M.length ≤ 2000000) (hR : R ≤ w.heap.size)
    (h : ∀ v' w', OwnSl w' R v' (L ++ M) → w.grownBy w' v.ownBlock → wpList Tryd.prog ops Q rest (act.put o.dst v') w') : wpList Tryd.prog ops Q (o :: rest) act w := by
  subst hm
  obtain ⟨i0, hi, hz0, hz1, hz2⟩ := info_parts infoSl
  refine wpList_append_own w hgd s x 30 hop R 34 i0 (.agg #[.int .i64 0, .int .i64 0, .int .i64 0, .int .i64 0, .slice none 0 0]) 5 56 Tryd.underlying30 hi hz0 hz1 hz2 rfl (by decide) v L.length (cellsSl L) hs hown ⟨D, 0, none⟩ M.length c (cellsSl M) hx (cellsSl_len M) ?_ (oneSl M) (by unfold maxLen; omega) (by omega) hR ?_
  · intro j u hu
    rw [Addr.add_lit, Nat.zero_add]
    exact hM j u hu
  · intro v' w' h2 h3 _
    exact h v' w' (by rw [OwnSl, List.length_append, cellsSl_app]; exact h2) h3
/-! holdings -/
structure HV where
  h : Int
  f : Int
  b : Int
deriving DecidableEq
instance : Inhabited HV := ⟨⟨0, 0, 0⟩⟩
def HV.cells (v : HV) : List Value := [.int .i64 v.h, .int .i64 v.f, .int .i64 v.b]
def cellsHv (L : List HV) : List Value := L.flatMap HV.cells
theorem cellsHv_cons (v : HV) (L : List HV) : cellsHv (v :: L) = v.cells ++ cellsHv L := rfl
theorem cellsHv_app (L M : List HV) : cellsHv (L ++ M) = cellsHv L ++ cellsHv M := by simp [cellsHv]
theorem hv_three (v : HV) : v.cells.length = 3 := rfl
theorem cellsHv_len : ∀ L : List HV, (cellsHv L).length = L.length * 3
  | [] => rfl
  | v :: L => by rw [cellsHv_cons, List.length_append, hv_three, cellsHv_len L, List.length_cons]; omega
theorem cellsHv_at : ∀ {L : List HV} {k : Nat} {v : HV} {j : Nat}, L[k]? = some v → j < 3 → (cellsHv L)[k * 3 + j]? = v.cells[j]?
  | [], k, v, j, h, _ => by simp at h
  | u :: L, 0, v, j, h, hj => by
    obtain rfl : u = v := by simpa using h
    rw [cellsHv_cons, Nat.zero_mul, Nat.zero_add, List.getElem?_append_left (by rw [hv_three]; exact hj)]
  | u :: L, k + 1, v, j, h, hj => by
    rw [cellsHv_cons, List.getElem?_append_right (by rw [hv_three]; omega), hv_three, show (k + 1) * 3 + j - 3 = k * 3 + j by omega]
    exact cellsHv_at (by simpa using h) hj
theorem oneHv (L : List HV) : ∀ u ∈ cellsHv L, u.oneCell' = true := fun u hu => by
  obtain ⟨v, _, hv⟩ := List.mem_flatMap.1 hu
  simp only [HV.cells, List.mem_cons, List.not_mem_nil, or_false] at hv
  rcases hv with rfl | rfl | rfl <;> rfl
def HvC (w : World) (b o : Nat) (v : HV) : Prop := w.cell? ⟨b, o, none⟩ = some (.int .i64 v.h) ∧ w.cell? ⟨b, o + 1, none⟩ = some (.int .i64 v.f) ∧ w.cell? ⟨b, o + 2, none⟩ = some (.int .i64 v.b)
theorem HvC.below {w w' : World} {b o : Nat} {v : HV} (h : HvC w b o v) (k : Below w.heap.size w w') : HvC w' b o v := ⟨cell_later k h.1, cell_later k h.2.1, cell_later k h.2.2⟩
def HvA (w : World) (a : Option Addr) (L : List HV) : Prop := L = [] ∨ ∃ b off, a = some ⟨b, off, none⟩ ∧ ∀ (i : Nat) v, L[i]? = some v → HvC w b (off + i * 3) v
theorem HvA.below {w w' : World} {a : Option Addr} {L : List HV} (h : HvA w a L) (k : Below w.heap.size w w') : HvA w' a L := by
  rcases h with h1 | ⟨b, off, e, h1⟩
  · exact .inl h1
  · exact .inr ⟨b, off, e, fun i v hi => (h1 i v hi).below k⟩
theorem HvA.at {w : World} {a : Option Addr} {L : List HV} (h : HvA w a L) {k : Nat} {v : HV} (hk : L[k]? = some v) : ∃ b off, a = some ⟨b, off, none⟩ ∧ HvC w b (off + k * 3) v := by
  rcases h with rfl | ⟨b, off, e, h1⟩
  · simp at hk
  · exact ⟨b, off, e, h1 k v hk⟩
abbrev OwnHv (w : World) (R : Nat) (v : Value) (L : List HV) : Prop := w.ownsRow R 48 3 v L.length (cellsHv L)
theorem OwnHv.tab {w : World} {R : Nat} {v : Value} {L : List HV} (h : OwnHv w R v L) : ∃ a c, v = .slice a L.length c ∧ L.length ≤ c := by
  rcases h.2 with ⟨e0, h0⟩ | ⟨g, cap, cur, e0, hb, hg, hn, _⟩
  · exact ⟨none, 0, by rw [e0, h0], by omega⟩
  · exact ⟨some ⟨g, 0, none⟩, cap, e0, hn⟩
theorem ownhv_later {w w' : World} {R : Nat} {v : Value} {L : List HV} (h : OwnHv w R v L) (k : Below w.heap.size w w') : OwnHv w' R v L :=
  World.ownsRow.kept h (row := none) ⟨k.os, k.tape, k.output, k.size, fun i hi _ => k.block i hi⟩ (by cases v.ownBlock with | none => exact .inl rfl | some k => exact .inr (by simp))
theorem OwnHv.hva {w : World} {R n c : Nat} {a : Option Addr} {L : List HV} (h : OwnHv w R (.slice a n c) L) : HvA w a L := by
  rcases h.2 with ⟨e0, h0⟩ | ⟨g, cap, cur, e0, _⟩
  · exact .inl (List.eq_nil_of_length_eq_zero h0)
  · injection e0 with e1 e2 e3
    subst e1
    refine .inr ⟨g, 0, rfl, fun i v hi => ?_⟩
    have c : ∀ j : Nat, ∀ u, (cellsHv L)[j]? = some u → w.cell? ⟨g, j, none⟩ = some u := fun j u hu => by
      have := World.ownsRow.cells h (g := g) rfl j u hu
      rwa [Addr.add_mid, Nat.zero_add] at this
    rw [Nat.zero_add]
    exact ⟨c _ _ (cellsHv_at (j := 0) hi (by omega)), c _ _ (cellsHv_at (j := 1) hi (by omega)), c _ _ (cellsHv_at (j := 2) hi (by omega))⟩
theorem ownhv_empty (w : World) (R : Nat) (hR : R ≤ w.heap.size) : OwnHv (w.alloc (.cells #[] 48)) R (.slice (some ⟨w.heap.size, 0, none⟩) 0 0) [] := World.ownsRow_lit w #[] 0 hR (by unfold maxLen; omega) rfl
theorem infoHv : (Tryd.prog.info? 48).map (fun i => (i.zero, i.size, i.bytes)) = some (some (.agg #[.int .i64 0, .int .i64 0, .int .i64 0]), 3, 24) := by kernel_rfl
theorem wpList_appHv {ops : Array Oper} {rest : List Oper} {o : Oper} {act : Act} {w : World} {Q : Exit → Act → World → Prop} (hgd : o.guard = none) (s x : Operand)
    (hop : o.op = .call { callee := .builtin .append, args := #[s, x], argTypes := #[40, 40] })
    (R : Nat) (v : Value) (L : List HV) (hs : act.eval s = v) (hown : OwnHv w R v L)
    (D m c : Nat) (M : List HV) (hm : m = M.length) (hx : act.eval x = .slice (some ⟨D, 0, none⟩) m c) (hM : ∀ (j : Nat) u, (cellsHv M)[j]? = some u → w.cell? ⟨D, j, none⟩ = some u) (hlen : L.length + M.length ≤ 2000000) (hR : R ≤ w.heap.size)
    (h : ∀ v' w', OwnHv w' R v' (L ++ M) → w.grownBy w' v.ownBlock → wpList Tryd.prog ops Q rest (act.put o.dst v') w') : wpList Tryd.prog ops Q (o :: rest) act w := by
  subst hm
  obtain ⟨i0, hi, hz0, hz1, hz2⟩ := info_parts infoHv
  refine wpList_append_own w hgd s x 40 hop R 48 i0 (.agg #[.int .i64 0, .int .i64 0, .int .i64 0]) 3 24 Tryd.underlying40 hi hz0 hz1 hz2 rfl (by decide) v L.length (cellsHv L) hs hown ⟨D, 0, none⟩ M.length c (cellsHv M) hx (cellsHv_len M) ?_ (oneHv M) (by unfold maxLen; omega) (by omega) hR ?_
  · intro j u hu
    rw [Addr.add_lit, Nat.zero_add]
    exact hM j u hu
  · intro v' w' h2 h3 _
    exact h v' w' (by rw [OwnHv, List.length_append, cellsHv_app]; exact h2) h3
/-! what seals say -/
def sealsP (L : List SV) : List SP := L.map SV.p
/-- the seals of a route that was told to a house, from a place on; whom: the one before -/
def sealsOf (f b : Int) : Int → List Int → List SP
  | _, [] => []
  | whom, h :: P => ⟨h, whom, f, b, h :: P⟩ :: sealsOf f b h P
theorem sealsOf_len (f b : Int) : ∀ (whom : Int) (P : List Int), (sealsOf f b whom P).length = P.length
  | _, [] => rfl
  | _, h :: P => by simp [sealsOf, sealsOf_len f b h P]
/-- the seal of the house at a place -/
def whomAt (to : Int) (P : List Int) (i : Nat) : Int := if i = 0 then to else P.getD (i - 1) 0
def sealAt (f b to : Int) (P : List Int) (i : Nat) : SP := ⟨P.getD i 0, whomAt to P i, f, b, P.drop i⟩
theorem sealsOf_at (f b : Int) : ∀ (to : Int) (P : List Int) (i : Nat), i < P.length → (sealsOf f b to P)[i]? = some (sealAt f b to P i)
  | to, [], i, h => by simp at h
  | to, x :: P, 0, _ => by simp [sealsOf, sealAt, whomAt]
  | to, x :: P, i + 1, h => by
    have h' : i < P.length := by simpa using h
    rw [sealsOf, List.getElem?_cons_succ, sealsOf_at f b x P i h']
    simp only [sealAt, List.drop_succ_cons, List.getD_cons_succ, Option.some.injEq, SP.mk.injEq, and_true, true_and]
    unfold whomAt
    by_cases e : i = 0
    · subst e; simp
    · rw [if_neg e, if_neg (by omega)]
      obtain ⟨k, rfl⟩ : ∃ k, i = k + 1 := ⟨i - 1, by omega⟩
      simp
end Go.Proofs.YtnnmgbgkgnejlaaDoor
