/-
  Matrices of ints in memory: rows in a slice; rows of one's own, all apart.
-/
import Derived.Test.YtnljcppefnaapaaJ2
import Derived.Test.YtnljcppefnaapaaJ1
import Derived.Test.YtnljcppefnaapaaMathM
namespace Go.Proofs.Ytnljcppefnaapaa
open Go.RowKit
set_option linter.unusedSimpArgs false
set_option linter.unusedVariables false

/-- a row of ints, as it lies in a cell -/
structure IR where
  a : Option Addr
  c : Nat
  P : List Int
abbrev IR.v (x : IR) : Value := .slice x.a x.P.length x.c
instance : Inhabited IR := ⟨⟨none, 0, []⟩⟩
def matP (L : List IR) : Mat := L.map IR.P
theorem matP_len (L : List IR) : (matP L).length = L.length := by simp [matP]
theorem matP_at {L : List IR} {k : Nat} {x : IR} (h : L[k]? = some x) : (matP L).getD k [] = x.P := by simp [matP, List.getD, List.getElem?_map, h]
theorem mAt_at {L : List IR} {i k : Nat} {x : IR} (h : L[i]? = some x) : mAt (matP L) i k = x.P.getD k 0 := by rw [mAt, matP_at h]
theorem getD_at {P : List Int} {k : Nat} {x : Int} (h : P[k]? = some x) : P.getD k 0 = x := by simp [List.getD, h]
def cellsR (L : List IR) : List Value := L.map IR.v
theorem cellsR_len (L : List IR) : (cellsR L).length = L.length := by simp [cellsR]
theorem cellsR_at {L : List IR} {k : Nat} {x : IR} (h : L[k]? = some x) : (cellsR L)[k]? = some x.v := by simp [cellsR, List.getElem?_map, h]
theorem oneR (L : List IR) : ∀ u ∈ cellsR L, u.oneCell' = true := fun u hu => by
  obtain ⟨x, _, rfl⟩ := List.mem_map.1 hu
  rfl
/-- a matrix in memory -/
def MatA (w : World) (a : Option Addr) (L : List IR) : Prop :=
  (L = [] ∨ ∃ b off, a = some ⟨b, off, none⟩ ∧ ∀ (i : Nat) v, L[i]? = some v → w.cell? ⟨b, off + i, none⟩ = some v.v) ∧ ∀ v ∈ L, IntA w v.a v.P ∧ v.P.length ≤ v.c
theorem MatA.below {w w' : World} {a : Option Addr} {L : List IR} (h : MatA w a L) (k : Below w.heap.size w w') : MatA w' a L := by
  refine ⟨?_, fun v hv => ⟨(h.2 v hv).1.below k, (h.2 v hv).2⟩⟩
  rcases h.1 with h1 | ⟨b, off, e, h1⟩
  · exact .inl h1
  · exact .inr ⟨b, off, e, fun i v hi => cell_later k (h1 i v hi)⟩
theorem MatA.alloc {w : World} {a : Option Addr} {L : List IR} (h : MatA w a L) (o : Obj) : MatA (w.alloc o) a L := h.below ((Below.refl _ _).alloc (Nat.le_refl _) o)
theorem MatA.drew {w : World} {a : Option Addr} {L : List IR} (h : MatA w a L) : MatA w.drew a L := h
theorem MatA.at {w : World} {a : Option Addr} {L : List IR} (h : MatA w a L) {k : Nat} {x : IR} (hk : L[k]? = some x) : ∃ b off, a = some ⟨b, off, none⟩ ∧ w.cell? ⟨b, off + k, none⟩ = some (.slice x.a x.P.length x.c) ∧ IntA w x.a x.P ∧ x.P.length ≤ x.c := by
  have hm := h.2 x (List.mem_of_getElem? hk)
  rcases h.1 with rfl | ⟨b, off, e, h1⟩
  · simp at hk
  · exact ⟨b, off, e, h1 k x hk, hm.1, hm.2⟩
/-- a slice of rows of one's own -/
abbrev OwnM (w : World) (R : Nat) (v : Value) (L : List IR) : Prop := w.ownsRow R 33 1 v L.length (cellsR L)
def IR.ap (x y : IR) : Prop := ∀ k, x.v.ownBlock = some k → y.v.ownBlock ≠ some k
/-- a matrix of one's own, all rows apart -/
structure MaR (W : World) (R : Nat) (v : Value) (L : List IR) : Prop where
  row : OwnM W R v L
  own : ∀ x ∈ L, OwnI W R x.v x.P
  ap : L.Pairwise IR.ap
theorem mrows_apart {w : World} {R R' z z' n n' : Nat} {e e' : TypeId} {v v' : Value} {xs xs' : List Value} (h : w.ownsRow R e z v n xs) (h' : w.ownsRow R' e' z' v' n' xs') (hne : e ≠ e') : v.ownBlock = none ∨ v.ownBlock ≠ v'.ownBlock := by
  rcases h.2 with ⟨e0, _⟩ | ⟨g, cap, cur, e0, _, hb, _⟩
  · rw [e0]; exact .inl (by simp [Value.ownBlock])
  · refine .inr fun q => ?_
    rcases h'.2 with ⟨e2, _⟩ | ⟨g', c', cur', e2, _, hb', _⟩
    · rw [e0, e2] at q; simp [Value.ownBlock] at q
    · have e3 : g = g' := by rw [e0, e2] at q; simpa [Value.ownBlock] using q
      rw [e3, hb'] at hb
      simp at hb
      exact hne hb.2.symm
theorem ownm_later {w w' : World} {R : Nat} {v : Value} {L : List IR} (h : OwnM w R v L) (k : Below w.heap.size w w') : OwnM w' R v L :=
  World.ownsRow.kept h (row := none) ⟨k.os, k.tape, k.output, k.size, fun i hi _ => k.block i hi⟩ (by cases v.ownBlock with | none => exact .inl rfl | some k => exact .inr (by simp))
theorem MaR.later {W W' : World} {R : Nat} {v : Value} {L : List IR} (h : MaR W R v L) (k : Below W.heap.size W W') : MaR W' R v L := ⟨ownm_later h.row k, fun x hx => owni_later (h.own x hx) k, h.ap⟩
theorem MaR.alloc {W : World} {R : Nat} {v : Value} {L : List IR} (h : MaR W R v L) (o : Obj) : MaR (W.alloc o) R v L := h.later ((Below.refl _ _).alloc (Nat.le_refl _) o)
theorem MaR.mono {W : World} {R R' : Nat} {v : Value} {L : List IR} (h : MaR W R v L) (hR : R' ≤ R) : MaR W R' v L := ⟨World.ownsRow.mono h.row hR, fun x hx => owni_mono (h.own x hx) hR, h.ap⟩
theorem OwnM.tab {w : World} {R : Nat} {v : Value} {L : List IR} (h : OwnM w R v L) : ∃ a c, v = .slice a L.length c ∧ L.length ≤ c := by
  rcases h.2 with ⟨e0, h0⟩ | ⟨g, cap, cur, e0, hb, hg, hn, _⟩
  · exact ⟨none, 0, by rw [e0, h0], by omega⟩
  · exact ⟨some ⟨g, 0, none⟩, cap, e0, hn⟩
theorem MaR.mat {W : World} {R n c : Nat} {a : Option Addr} {L : List IR} (h : MaR W R (.slice a n c) L) : MatA W a L := by
  refine ⟨?_, fun x hx => ⟨(OwnI.intA (h.own x hx)).2.2, (OwnI.intA (h.own x hx)).2.1⟩⟩
  rcases h.row.2 with ⟨e0, h0⟩ | ⟨g, cap, cur, e0, _⟩
  · exact .inl (List.eq_nil_of_length_eq_zero h0)
  · injection e0 with e1 e2 e3
    subst e1
    refine .inr ⟨g, 0, rfl, fun i v hi => ?_⟩
    have := World.ownsRow.cells h.row (g := g) rfl i _ (cellsR_at hi)
    rwa [Addr.add_mid] at this
theorem mar_empty (w : World) (R : Nat) (hR : R ≤ w.heap.size) : MaR (w.alloc (.cells #[] 33)) R (.slice (some ⟨w.heap.size, 0, none⟩) 0 0) [] := ⟨World.ownsRow_lit w #[] 0 hR (by unfold maxLen; omega) rfl, fun x hx => (by cases hx), List.Pairwise.nil⟩
theorem infoM : (Try.prog.info? 33).map (fun i => (i.zero, i.size, i.bytes)) = some (some (.slice none 0 0), 1, 24) := by kernel_rfl
/-- a row more -/
theorem MaR.app {W W' : World} {R N : Nat} {v v' : Value} {L : List IR} {y : IR} (h : MaR W R v L) (hR : R ≤ N) (hN : ∀ x ∈ L, ∀ k, x.v.ownBlock = some k → k < N) (hy : OwnI W N y.v y.P) (own : OwnM W' R v' (L ++ [y])) (grow : W.grownBy W' v.ownBlock) : MaR W' R v' (L ++ [y]) := by
  have keep : ∀ x : IR, OwnI W R x.v x.P → OwnI W' R x.v x.P := fun x hx => World.ownsRow.kept hx grow (mrows_apart hx h.row (by decide))
  refine ⟨own, fun x hx => ?_, ?_⟩
  · rcases List.mem_append.1 hx with k | k
    · exact keep x (h.own x k)
    · obtain rfl : x = y := by simpa using k
      exact keep x (owni_mono hy hR)
  · rw [List.pairwise_append]
    refine ⟨h.ap, by simp, fun x hx z hz k hk hz2 => ?_⟩
    obtain rfl : z = y := by simpa using hz
    have h1 := hN x hx k hk
    have h2 := (hy.lt k hz2).1
    omega
theorem MaR.lt {W : World} {R : Nat} {v : Value} {L : List IR} (h : MaR W R v L) : ∀ x ∈ L, ∀ k, x.v.ownBlock = some k → k < W.heap.size := fun x hx k hk => ((h.own x hx).lt k hk).2
theorem IR.ap.symm' {x y : IR} (h : x.ap y) : y.ap x := fun k h1 h2 => h k h2 h1
theorem MaR.apAt {W : World} {R : Nat} {v : Value} {L : List IR} (h : MaR W R v L) {i j : Nat} {x y : IR} (hx : L[i]? = some x) (hy : L[j]? = some y) (hij : i ≠ j) : x.ap y := by
  obtain ⟨hi, rfl⟩ := List.getElem?_eq_some_iff.1 hx
  obtain ⟨hj, rfl⟩ := List.getElem?_eq_some_iff.1 hy
  rcases Nat.lt_or_gt_of_ne hij with k | k
  · exact (List.pairwise_iff_getElem.1 h.ap) i j hi hj k
  · exact ((List.pairwise_iff_getElem.1 h.ap) j i hj hi k).symm'
/-- a number in a row was turned -/
theorem MaR.put {W W' : World} {R g c k : Nat} {L : List IR} {x y : IR} (h : MaR W R (.slice (some ⟨g, 0, none⟩) L.length c) L) (hx : L[k]? = some x) (ha : y.a = x.a) (hc : y.c = x.c) (hP : y.P.length = x.P.length) (hy : OwnI W' R y.v y.P) (hg : W.grownBy W' x.v.ownBlock) :
    MaR W' R (.slice (some ⟨g, 0, none⟩) L.length c) (L.set k y) := by
  have hk := (List.getElem?_eq_some_iff.1 hx).1
  have ev : y.v = x.v := by unfold IR.v; rw [ha, hc, hP]
  have hox := h.own x (List.mem_of_getElem? hx)
  have ecells : cellsR (L.set k y) = cellsR L := by
    refine List.ext_getElem? fun j => ?_
    by_cases e : j = k
    · subst e; rw [cellsR_at (List.getElem?_set_self hk), cellsR_at hx, ev]
    · simp only [cellsR, List.getElem?_map]; rw [List.getElem?_set_ne (fun q => e q.symm)]
  refine ⟨?_, fun z hz => ?_, ?_⟩
  · rw [OwnM, List.length_set, ecells]
    exact World.ownsRow.kept h.row hg (mrows_apart h.row hox (by decide))
  · obtain ⟨j, hj⟩ := List.mem_iff_getElem?.1 hz
    by_cases e : j = k
    · subst e; rw [List.getElem?_set_self hk] at hj; cases hj; exact hy
    · rw [List.getElem?_set_ne (fun q => e q.symm)] at hj
      have ho := h.own z (List.mem_of_getElem? hj)
      refine World.ownsRow.kept ho hg ?_
      cases e2 : z.v.ownBlock with
      | none => exact .inl rfl
      | some b => exact .inr (fun q => h.apAt hj hx e b e2 q.symm)
  · rw [List.pairwise_iff_getElem]
    intro i j hi hj hij
    have hi' : i < L.length := by simpa using hi
    have hj' : j < L.length := by simpa using hj
    rw [List.getElem_set, List.getElem_set]
    by_cases e1 : k = i
    · subst e1
      rw [if_pos rfl, if_neg (by omega)]
      intro b hb
      rw [ev] at hb
      exact h.apAt hx (List.getElem?_eq_getElem hj') (by omega) b hb
    · rw [if_neg e1]
      by_cases e2 : k = j
      · subst e2
        rw [if_pos rfl]
        intro b hb
        rw [ev]
        exact h.apAt (List.getElem?_eq_getElem hi') hx (fun q => e1 q.symm) b hb
      · rw [if_neg e2]
        exact h.apAt (List.getElem?_eq_getElem hi') (List.getElem?_eq_getElem hj') (by omega)
/-- 'append(own, row)' on rows, onto a nil slice too -/
theorem wpList_appM {ops : Array Oper} {rest : List Oper} {o : Oper} {act : Act} {w : World} {Q : Exit → Act → World → Prop} (hgd : o.guard = none) (s x : Operand)
    (hop : o.op = .call { callee := .builtin .append, args := #[s, x], argTypes := #[23, 23] })
    (R : Nat) (v : Value) (L : List IR) (hs : act.eval s = v) (hown : OwnM w R v L)
    (D : Nat) (y : IR) (hx : act.eval x = .slice (some ⟨D, 0, none⟩) 1 1) (hM : w.cell? ⟨D, 0, none⟩ = some y.v) (hlen : L.length ≤ 2000000) (hR : R ≤ w.heap.size)
    (h : ∀ v' w', OwnM w' R v' (L ++ [y]) → w.grownBy w' v.ownBlock → wpList Try.prog ops Q rest (act.put o.dst v') w') : wpList Try.prog ops Q (o :: rest) act w := by
  obtain ⟨i0, hi, hz0, hz1, hz2⟩ := info_parts infoM
  refine wpList_append_own w hgd s x 23 hop R 33 i0 (.slice none 0 0) 1 24 Try.underlying23 hi hz0 hz1 hz2 rfl (by decide) v L.length (cellsR L) hs hown ⟨D, 0, none⟩ 1 1 [y.v] hx rfl ?_ (fun u hu => by simp at hu; subst hu; rfl) (by unfold maxLen; omega) (by omega) hR ?_
  · intro j u hu
    rw [Addr.add_lit, Nat.zero_add]
    match j, hu with
    | 0, e => simp at e; subst e; exact hM
    | n + 1, e => simp at e
  · intro v' w' h2 h3 h4
    exact h v' w' (by rw [OwnM, List.length_append, show cellsR (L ++ [y]) = cellsR L ++ [y.v] by simp [cellsR]]; exact h2) h3
end Go.Proofs.Ytnljcppefnaapaa
