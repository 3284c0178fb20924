/-
  Memory while a clause is done to a route.
-/
import Derived.Test.YtioppkalehnoaaaGreatDoorClFi
import Derived.Deep.MidRow
namespace Go.Proofs.YtioppkalehnoaaaGreatDoor
open Go.RowKit
set_option linter.unusedSimpArgs false
set_option linter.unusedVariables false

def z5l : List Value := [.int .i64 0, .int .i64 0, .slice none 0 0, .int .i64 0, .slice none 0 0]
theorem At5.toL {w : World} {R : Nat} {x0 x1 x2 x3 x4 : Value} (h : At5 w R x0 x1 x2 x3 x4) : AtL w R 0 [x0, x1, x2, x3, x4] := fun j v hj => by
  obtain ⟨⟨h0, h1, h2, h3, h4⟩, k0, k1, k2, k3, k4⟩ := h
  match j, hj with
  | 0, e => simp at e; subst e; exact ⟨h0, k0⟩
  | 1, e => simp at e; subst e; exact ⟨h1, k1⟩
  | 2, e => simp at e; subst e; exact ⟨h2, k2⟩
  | 3, e => simp at e; subst e; exact ⟨h3, k3⟩
  | 4, e => simp at e; subst e; exact ⟨h4, k4⟩
  | n + 5, e => simp at e
theorem AtL.to5 {w : World} {R : Nat} {x0 x1 x2 x3 x4 : Value} (h : AtL w R 0 [x0, x1, x2, x3, x4]) : At5 w R x0 x1 x2 x3 x4 := by
  have e : ∀ j, (0 : Nat) + j = j := Nat.zero_add
  have h0 := h 0 _ rfl; have h1 := h 1 _ rfl; have h2 := h 2 _ rfl; have h3 := h 3 _ rfl; have h4 := h 4 _ rfl
  simp only [e] at h0 h1 h2 h3 h4
  exact ⟨⟨h0.1, h1.1, h2.1, h3.1, h4.1⟩, h0.2, h1.2, h2.2, h3.2, h4.2⟩
theorem owni_only {W W' : World} {A R : Nat} {v : Value} {L : List Int} (h : OwnI W A v L) (hg : W.grownBy W' (some R)) (hn : v.ownBlock ≠ some R) : OwnI W' A v L := World.ownsRow.kept h hg (.inr hn)
abbrev rtL (r : Rt) (pv mv : Value) : List Value := [.int .i64 r.1, .int .i64 r.2.1, pv, .int .i64 r.2.2.2.1, mv]
/-- a route under way, in a box R, beside a clause's box RU and the answer's block RA -/
structure Ap (w : World) (u : CL) (RU RA R : Nat) (r : Rt) (pv mv : Value) (S : Nat) (W : World) : Prop where
  cl : AtL W RU 0 u.cells
  ans : AtL W RA 0 z5l
  box : AtL W R 0 (rtL r pv mv)
  oP : OwnI W (RA + 1) pv r.2.2.1
  bP : pBtw pv (RA + 1) S
  oM : OwnI W S mv r.2.2.2.2
  lo : RA + 1 ≤ S
  nP : pv.ownBlock ≠ some R
  nM : mv.ownBlock ≠ some R
  ne : RU ≠ R
  nA : RU ≠ RA
  lt : RA < R
  lw : w.heap.size ≤ RA
  bel : Below w.heap.size w W
section
variable {w W W' W2 : World} {u : CL} {RU RA R S : Nat} {r r2 : Rt} {pv mv pv2 mv2 : Value}
theorem Ap.later (h : Ap w u RU RA R r pv mv S W) (k : Below W.heap.size W W') : Ap w u RU RA R r pv mv S W' :=
  ⟨h.cl.below k, h.ans.below k, h.box.below k, owni_later h.oP k, h.bP, owni_later h.oM k, h.lo, h.nP, h.nM, h.ne, h.nA, h.lt, h.lw, next h.bel k⟩
/-- a cell of the box was written: the like -/
theorem Ap.like (h : Ap w u RU RA R r pv mv S W) {x : Int} (ha : AtL W' R 0 ((rtL r pv mv).set 3 (.int .i64 x))) (hg : W.grownBy W' (some R)) : Ap w u RU RA R (r.1, r.2.1, r.2.2.1, x, r.2.2.2.2) pv mv S W' := by
  have := h.lt
  have := h.lw
  exact ⟨h.cl.only hg (by have := h.ne; simp; omega), h.ans.only hg (by simp; omega), ha, owni_only h.oP hg h.nP, h.bP, owni_only h.oM hg h.nM, h.lo, h.nP, h.nM, h.ne, h.nA, h.lt, h.lw, below_only h.bel hg h.bel.size (by omega)⟩
/-- another route was made, and stored -/
theorem Ap.put (h : Ap w u RU RA R r pv mv S W) (ho : OwnRt W r2 pv2 mv2 W2) (ha : AtL W' R 0 (rtL r2 pv2 mv2)) (hg : W2.grownBy W' (some R)) : ∃ S2, Ap w u RU RA R r2 pv2 mv2 S2 W' := by
  obtain ⟨S2, o1, b1, o2, hS, hb⟩ := ho
  have h1 := h.lt
  have h2 := h.lw
  have hR : R < W.heap.size := h.box.lt (by show 0 < 5; omega)
  have hA := h.later hb
  have n1 : pv2.ownBlock ≠ some R := fun e => by have := (b1 R e).1; omega
  have n2 : mv2.ownBlock ≠ some R := fun e => by have := (o2.lt R e).1; omega
  exact ⟨S2, hA.cl.only hg (by have := h.ne; simp; omega), hA.ans.only hg (by simp; omega), ha, owni_only (owni_mono o1 (by omega)) hg n1, b1.mono (by omega) (Nat.le_refl _), owni_only o2 hg n2, by omega, n1, n2, h.ne, h.nA, h.lt, h.lw, below_only hA.bel hg hA.bel.size (by omega)⟩
/-- other marks were made, and stored -/
theorem Ap.putM (h : Ap w u RU RA R r pv mv S W) {U : List Int} (ho : OwnI W2 W.heap.size mv2 U) (hb : Below W.heap.size W W2) (ha : AtL W' R 0 ((rtL r pv mv).set 4 mv2)) (hg : W2.grownBy W' (some R)) : ∃ S2, Ap w u RU RA R (r.1, r.2.1, r.2.2.1, r.2.2.2.1, U) pv mv2 S2 W' := by
  have h1 := h.lt
  have h2 := h.lw
  have hR : R < W.heap.size := h.box.lt (by show 0 < 5; omega)
  have hA := h.later hb
  have n2 : mv2.ownBlock ≠ some R := fun e => by have := (ho.lt R e).1; omega
  exact ⟨W.heap.size, hA.cl.only hg (by have := h.ne; simp; omega), hA.ans.only hg (by simp; omega), ha, owni_only hA.oP hg h.nP, fun k e => ⟨(h.bP k e).1, (h.oP.lt k e).2⟩, owni_only ho hg n2, by omega, h.nP, n2, h.ne, h.nA, h.lt, h.lw, below_only hA.bel hg hA.bel.size (by omega)⟩
/-- the answer was stored -/
theorem Ap.done (h : Ap w u RU RA R r pv mv S W) (hg : W.grownBy W' (some RA)) : OwnRt w r pv mv W' := by
  have h1 := h.lw
  have n1 : pv.ownBlock ≠ some RA := fun e => by have := (h.bP RA e).1; omega
  have n2 : mv.ownBlock ≠ some RA := fun e => by have := (h.oM.lt RA e).1; have := h.lo; omega
  exact ⟨S, owni_only (owni_mono h.oP (by omega)) hg n1, h.bP.mono (by omega) (Nat.le_refl _), owni_only h.oM hg n2, by have := h.lo; omega, below_only h.bel hg h.bel.size h.lw⟩
theorem Ap.m {a d : Option Addr} {c e : Nat} {f b l : Int} {P M : List Int} (h : Ap w u RU RA R (f, b, P, l, M) (.slice a P.length c) (.slice d M.length e) S W) (h1 : P.length ≤ 2000000) (h2 : M.length ≤ 2000000) : RtM W a c P d e M :=
  ⟨⟨(OwnI.intA h.oP).2.2, (OwnI.intA h.oM).2.2⟩, (OwnI.intA h.oP).2.1, (OwnI.intA h.oM).2.1, h1, h2⟩
end
/-- the walk halts ahead of a load -/
theorem wpList_halt {P : Program} {ops : Array Oper} {rest : List Oper} {o : Oper} {a : Act} {w : World} {Q : Exit → Act → World → Prop} (ty : TypeId) (x : Operand) (ho : o.op = .load ty x) (h : ∀ w', w' = w → wpList P ops Q (o :: rest) a w') : wpList P ops Q (o :: rest) a w := h w rfl
theorem infoR5 : (Tryz.prog.info? 32).map (·.size) = some 5 := by kernel_rfl
theorem one5a (x0 x1 x3 : Int) (a d : Option Addr) (n m c e : Nat) : (#[Value.int .i64 x0, .int .i64 x1, .slice a n c, .int .i64 x3, .slice d m e]).all (·.oneCell') = true := all_oneCell_toArray (cs := [.int .i64 x0, .int .i64 x1, .slice a n c, .int .i64 x3, .slice d m e]) fun v hv => by
  simp only [List.mem_cons, List.not_mem_nil, or_false] at hv
  rcases hv with rfl | rfl | rfl | rfl | rfl <;> rfl
/-- a new route is copied into its box -/
theorem Ap.start {w W W3 : World} {u : CL} {RU RA : Nat} {r : Rt} {pv mv : Value} (hcl : AtL W RU 0 u.cells) (hans : AtL W RA 0 z5l) (hb : Below w.heap.size w W) (ho : OwnRt W r pv mv W3) (hw : w.heap.size ≤ RA) (nA : RU ≠ RA) (t : TypeId) :
    ∃ S, Ap w u RU RA W3.heap.size r pv mv S (W3.alloc (.cells (rtL r pv mv).toArray t)) := by
  obtain ⟨S, o1, b1, o2, hS, hb3⟩ := ho
  have hRA : RA < W.heap.size := hans.lt (by show 0 < 5; omega)
  have hRU : RU < W.heap.size := hcl.lt (by show 0 < 8; omega)
  have hs := hb3.size
  refine ⟨S, (hcl.below hb3).alloc _, (hans.below hb3).alloc _, ?_, World.ownsRow.alloc (owni_mono o1 (by omega)) _, b1.mono (by omega) (Nat.le_refl _), World.ownsRow.alloc o2 _, by omega, fun e => ?_, fun e => ?_, by omega, nA, by omega, hw, (next hb hb3).alloc (next hb hb3).size _⟩
  · exact (At5.new W3 _ _ _ _ _ t).toL
  · have := (o1.lt _ e).2; omega
  · have := (o2.lt _ e).2; omega

end Go.Proofs.YtioppkalehnoaaaGreatDoor
