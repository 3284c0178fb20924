/-
  Slices of ints in memory: what they hold; those of the call's own; appending to them.
-/
import Derived.RangeFuncNested
import Derived.RangeFuncBound
import Derived.RangeFuncCalls
import Derived.RangeFuncLeaves
import Derived.Shelf.Abstract
import Derived.Shelf.RegionOpen
import Derived.OwnWalkIn
import Derived.TacticsInMore
import Derived.LoopNIn
import Derived.LoopIn
import Derived.Deep.Upon
import Derived.Test.YthkaaamgkmmeeaaDoorMathP
import Derived.Test.YthkaaamgkmmeeaaDoorBox
import Derived.Test.YthkaaamgkmmeeaaDoorWalksB
namespace Go.Proofs.YthkaaamgkmmeeaaDoor
open Go.RowKit

/-- a slice of ints, as it lies in memory -/
def IntA (w : World) (a : Option Addr) (L : List Int) : Prop :=
  L = [] ∨ ∃ b off, a = some ⟨b, off, none⟩ ∧ ∀ i x, L[i]? = some x → w.cell? ⟨b, off + i, none⟩ = some (.int .i64 x)
theorem IntA.at {w : World} {a : Option Addr} {L : List Int} (h : IntA w a L) {k : Nat} (hk : k < L.length) :
    ∃ b off x, a = some ⟨b, off, none⟩ ∧ L[k]? = some x ∧ w.cell? ⟨b, off + k, none⟩ = some (.int .i64 x) := by
  rcases h with rfl | ⟨b, off, rfl, h⟩
  · simp at hk
  · have e : L[k]? = some L[k] := List.getElem?_eq_getElem hk
    exact ⟨b, off, L[k], rfl, e, h k _ e⟩
theorem IntA.below {w w' : World} {a : Option Addr} {L : List Int} (h : IntA w a L) (k : Below w.heap.size w w') : IntA w' a L := by
  rcases h with rfl | ⟨b, off, rfl, h⟩
  · exact .inl rfl
  · exact .inr ⟨b, off, rfl, fun i e hi => cell_later k (h i e hi)⟩
theorem IntA.alloc {w : World} {a : Option Addr} {L : List Int} (h : IntA w a L) (o : Obj) : IntA (w.alloc o) a L := h.below ((Below.refl _ _).alloc (Nat.le_refl _) o)
theorem IntA.drew {w : World} {a : Option Addr} {L : List Int} (h : IntA w a L) : IntA w.drew a L := h
theorem IntA.take {w : World} {a : Option Addr} {L : List Int} (h : IntA w a L) (k : Nat) : IntA w a (L.take k) := by
  rcases h with rfl | ⟨b, off, rfl, h⟩
  · exact .inl (by simp)
  · refine .inr ⟨b, off, rfl, fun i x hi => h i x ?_⟩
    rw [List.getElem?_take] at hi
    split at hi
    · exact hi
    · cases hi
theorem IntA.drop {w : World} {b off : Nat} {L : List Int} (h : IntA w (some ⟨b, off, none⟩) L) (k : Nat) : IntA w (some ⟨b, off + k, none⟩) (L.drop k) := by
  rcases h with rfl | ⟨b', off', e, h⟩
  · exact .inl (by simp)
  · obtain ⟨rfl, rfl⟩ : b = b' ∧ off = off' := by simpa using e
    refine .inr ⟨b, off + k, rfl, fun i x hi => ?_⟩
    rw [List.getElem?_drop] at hi
    rw [Nat.add_assoc]
    exact h (k + i) x hi

def cellsI (L : List Int) : List Value := L.map (Value.int .i64 ·)
theorem cellsI_len (L : List Int) : (cellsI L).length = L.length := by simp [cellsI]
theorem cellsI_at {L : List Int} {i : Nat} {x : Int} (h : L[i]? = some x) : (cellsI L)[i]? = some (.int .i64 x) := by simp [cellsI, h]
theorem oneI (L : List Int) : ∀ u ∈ cellsI L, u.oneCell' = true := by
  intro u hu
  simp only [cellsI, List.mem_map] at hu
  obtain ⟨x, _, rfl⟩ := hu
  rfl
theorem IntA.cells {w : World} {b off : Nat} {L : List Int} (h : IntA w (some ⟨b, off, none⟩) L) (j : Nat) (u : Value) (hj : (cellsI L)[j]? = some u) : w.cell? ((⟨b, off, none⟩ : Addr).add j) = some u := by
  rcases h with rfl | ⟨b', off', e, h⟩
  · simp [cellsI] at hj
  · obtain ⟨rfl, rfl⟩ : b = b' ∧ off = off' := by simpa using e
    simp only [cellsI, List.getElem?_map, Option.map_eq_some_iff] at hj
    obtain ⟨x, hx, rfl⟩ := hj
    rw [Addr.add_lit]
    exact h j x hx

/-- a slice of ints of the call's own -/
abbrev OwnI (w : World) (R : Nat) (v : Value) (L : List Int) : Prop := w.ownsRow R 3 1 v L.length (cellsI L)
theorem OwnI.tab {w : World} {R : Nat} {v : Value} {L : List Int} (h : OwnI w R v L) : ∃ a cap, v = .slice a L.length cap ∧ L.length ≤ cap ∧ IntA w a L := by
  obtain ⟨_, h2⟩ := id h
  rcases h2 with ⟨rfl, h0⟩ | ⟨g, cap, cur, rfl, hb, hg, hc, hm, hs, ht⟩
  · exact ⟨none, 0, by rw [h0], by omega, .inl (List.eq_nil_of_length_eq_zero h0)⟩
  · refine ⟨_, cap, rfl, hc, .inr ⟨g, 0, rfl, fun i x hi => ?_⟩⟩
    obtain ⟨hi', _⟩ := List.getElem?_eq_some_iff.1 hi
    rw [Nat.zero_add]; exact (h.cellAt i (by omega)).trans (cellsI_at hi)
theorem OwnI.intA {w : World} {R n cap : Nat} {a : Option Addr} {L : List Int} (h : OwnI w R (.slice a n cap) L) : n = L.length ∧ L.length ≤ cap ∧ IntA w a L := by
  obtain ⟨a', cap', e, hc, t⟩ := OwnI.tab h
  obtain ⟨rfl, rfl, rfl⟩ : a = a' ∧ n = L.length ∧ cap = cap' := by simpa using e
  exact ⟨rfl, hc, t⟩
theorem owni_later {w w' : World} {R : Nat} {v : Value} {L : List Int} (h : OwnI w R v L) (k : Below w.heap.size w w') : OwnI w' R v L :=
  h.kept (row := none) ⟨k.os, k.tape, k.output, k.size, fun i hi _ => k.block i hi⟩ (by
    cases v.ownBlock with
    | none => exact .inl rfl
    | some k => exact .inr (by simp))
theorem owni_mono {w : World} {R R' : Nat} {v : Value} {L : List Int} (h : OwnI w R v L) (hR : R' ≤ R) : OwnI w R' v L := by
  obtain ⟨h1, h2⟩ := h
  refine ⟨h1, ?_⟩
  rcases h2 with h | ⟨g, cap, cur, e, hb, r⟩
  · exact .inl h
  · exact .inr ⟨g, cap, cur, e, by omega, r⟩
theorem owni_nil (w : World) (R : Nat) : OwnI w R (.slice none 0 0) [] := World.ownsRow_nil w R _ _
theorem owni_empty (w : World) (R : Nat) (hR : R ≤ w.heap.size) : OwnI (w.alloc (.cells #[] 3)) R (.slice (some ⟨w.heap.size, 0, none⟩) 0 0) [] :=
  World.ownsRow_lit w #[] 0 hR (by unfold maxLen; omega) rfl
theorem owni_one (w : World) (R : Nat) (hR : R ≤ w.heap.size) (x : Int) : OwnI (w.alloc (.cells #[.int .i64 x] 3)) R (.slice (some ⟨w.heap.size, 0, none⟩) 1 1) [x] :=
  World.ownsRow_lit w #[.int .i64 x] 1 hR (by unfold maxLen; omega) rfl
theorem infoI : (Tryd.prog.info? 3).map (fun i => (i.zero, i.size, i.bytes)) = some (some (.int .i64 0), 1, 8) := by kernel_rfl
theorem appi_below {R : Nat} {W w2 : World} {v : Value} {L : List Int} (ho : OwnI W R v L) (hg : W.grownBy w2 v.ownBlock) (hR : R ≤ W.heap.size) : Below R W w2 :=
  (Below.refl R W).grown hg hR (fun k e => (ho.lt k e).1)

/-- 'append(own, xs...)', xs a slice of ints, also a nil one -/
theorem wp_appI {o : Oper} {act : Act} {w : World} {K : Act → World → Prop} {Q : Exit → Act → World → Prop} (s x : Operand)
    (ho : o.op = .call { callee := .builtin .append, args := #[s, x], argTypes := #[27, 27] })
    (R : Nat) (v : Value) (L : List Int) (hs : act.eval s = v) (hown : OwnI w R v L)
    (a : Option Addr) (c : Nat) (M : List Int) (hx : act.eval x = .slice a M.length c) (hM : IntA w a M) (hc : M.length ≤ c)
    (hlen : L.length + M.length ≤ 4000000) (hR : R ≤ w.heap.size)
    (h : ∀ v' w', OwnI w' R v' (L ++ M) → w.grownBy w' v.ownBlock → K (act.put o.dst v') w') : o.wp Tryd.prog act w K Q := by
  obtain ⟨i0, hi, hz0, hz1, hz2⟩ := info_parts infoI
  rcases hM with rfl | ⟨b, off, rfl, hM⟩
  · obtain ⟨a0, cap0, rfl, hc0, _⟩ := OwnI.tab hown
    have hr := run_append_nothing (P := Tryd.prog) w 27 27 o.type 3 i0 Tryd.underlying27 hi a0 L.length cap0 hc0 (.slice a 0 c) (by
      cases a with
      | none => exact Src.ofNil w Tryd.underlying27 c
      | some ad => exact Src.ofSlice w Tryd.underlying27 ad 0 c [] (by simp) (fun j u h => by simp at h) (fun u h => by cases h))
    unfold Oper.wp execOp
    simp only [ho, resolve, invoke, builtin, Sem.run_bind, Sem.run_pure, Result.andThen_ok, List.map_toArray, List.map_cons, List.map_nil, hs, hx, List.length_nil, hr]
    exact h _ _ (by simpa using hown) (World.grownBy.refl _ _)
  · refine wp_append_own w s x 27 ho R 3 i0 (.int .i64 0) 1 8 Tryd.underlying27 hi hz0 hz1 hz2 rfl (by decide) v L.length (cellsI L) hs hown ⟨b, off, none⟩ M.length c (cellsI M) hx (by rw [cellsI_len, Nat.mul_one]) (fun j u hj => IntA.cells (.inr ⟨b, off, rfl, hM⟩) j u hj) (oneI M) (by unfold maxLen; omega) (by omega) hR ?_
    intro v' w' h2 h3 _
    exact h v' w' (by rw [OwnI, List.length_append, cellsI, List.map_append]; exact h2) h3
theorem wpList_appI {ops : Array Oper} {rest : List Oper} {o : Oper} {act : Act} {w : World} {Q : Exit → Act → World → Prop} (hgd : o.guard = none) (s x : Operand)
    (ho : o.op = .call { callee := .builtin .append, args := #[s, x], argTypes := #[27, 27] })
    (R : Nat) (v : Value) (L : List Int) (hs : act.eval s = v) (hown : OwnI w R v L)
    (a : Option Addr) (c : Nat) (M : List Int) (hx : act.eval x = .slice a M.length c) (hM : IntA w a M) (hc : M.length ≤ c)
    (hlen : L.length + M.length ≤ 4000000) (hR : R ≤ w.heap.size)
    (h : ∀ v' w', OwnI w' R v' (L ++ M) → w.grownBy w' v.ownBlock → wpList Tryd.prog ops Q rest (act.put o.dst v') w') : wpList Tryd.prog ops Q (o :: rest) act w :=
  wpList_plain hgd fun _ hK => wp_appI s x ho R v L hs hown a c M hx hM hc hlen hR fun v' w' h2 h3 => hK _ _ (h v' w' h2 h3)
end Go.Proofs.YthkaaamgkmmeeaaDoor
