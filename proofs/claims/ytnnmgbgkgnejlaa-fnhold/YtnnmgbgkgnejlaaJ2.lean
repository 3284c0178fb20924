/-
  Several texts joined: PMem, PSpec, PSpecB, PErr, PImp, PBack, PTop, PEx, PExA, PDraw.
-/
import Derived.RangeFuncNested
import Derived.RangeFuncBound
import Derived.RangeFuncCalls
import Derived.RangeFuncLeaves
import Derived.Shelf.Abstract
import Derived.Shelf.RegionOpen
import Derived.OwnWalkIn
import Derived.TacticsInMore
import Derived.LoopNIn
import Derived.LoopIn
import Derived.Deep.Upon
import Derived.Test.YtnnmgbgkgnejlaaJ1
import Derived.LaidEql
import Derived.Stop.Asserts
import Derived.RowKitTokens
/-
  Slices of ints in memory: what they hold; those of the call's own; appending to them.
-/
namespace Go.Proofs.Ytnnmgbgkgnejlaa
open Go.RowKit

/-- a slice of ints, as it lies in memory -/
def IntA (w : World) (a : Option Addr) (L : List Int) : Prop :=
  L = [] ∨ ∃ b off, a = some ⟨b, off, none⟩ ∧ ∀ i x, L[i]? = some x → w.cell? ⟨b, off + i, none⟩ = some (.int .i64 x)
theorem IntA.at {w : World} {a : Option Addr} {L : List Int} (h : IntA w a L) {k : Nat} (hk : k < L.length) :
    ∃ b off x, a = some ⟨b, off, none⟩ ∧ L[k]? = some x ∧ w.cell? ⟨b, off + k, none⟩ = some (.int .i64 x) := by
  rcases h with rfl | ⟨b, off, rfl, h⟩
  · simp at hk
  · have e : L[k]? = some L[k] := List.getElem?_eq_getElem hk
    exact ⟨b, off, L[k], rfl, e, h k _ e⟩
theorem IntA.below {w w' : World} {a : Option Addr} {L : List Int} (h : IntA w a L) (k : Below w.heap.size w w') : IntA w' a L := by
  rcases h with rfl | ⟨b, off, rfl, h⟩
  · exact .inl rfl
  · exact .inr ⟨b, off, rfl, fun i e hi => cell_later k (h i e hi)⟩
theorem IntA.alloc {w : World} {a : Option Addr} {L : List Int} (h : IntA w a L) (o : Obj) : IntA (w.alloc o) a L := h.below ((Below.refl _ _).alloc (Nat.le_refl _) o)
theorem IntA.drew {w : World} {a : Option Addr} {L : List Int} (h : IntA w a L) : IntA w.drew a L := h
theorem IntA.take {w : World} {a : Option Addr} {L : List Int} (h : IntA w a L) (k : Nat) : IntA w a (L.take k) := by
  rcases h with rfl | ⟨b, off, rfl, h⟩
  · exact .inl (by simp)
  · refine .inr ⟨b, off, rfl, fun i x hi => h i x ?_⟩
    rw [List.getElem?_take] at hi
    split at hi
    · exact hi
    · cases hi
theorem IntA.drop {w : World} {b off : Nat} {L : List Int} (h : IntA w (some ⟨b, off, none⟩) L) (k : Nat) : IntA w (some ⟨b, off + k, none⟩) (L.drop k) := by
  rcases h with rfl | ⟨b', off', e, h⟩
  · exact .inl (by simp)
  · obtain ⟨rfl, rfl⟩ : b = b' ∧ off = off' := by simpa using e
    refine .inr ⟨b, off + k, rfl, fun i x hi => ?_⟩
    rw [List.getElem?_drop] at hi
    rw [Nat.add_assoc]
    exact h (k + i) x hi

def cellsI (L : List Int) : List Value := L.map (Value.int .i64 ·)
theorem cellsI_len (L : List Int) : (cellsI L).length = L.length := by simp [cellsI]
theorem cellsI_at {L : List Int} {i : Nat} {x : Int} (h : L[i]? = some x) : (cellsI L)[i]? = some (.int .i64 x) := by simp [cellsI, h]
theorem oneI (L : List Int) : ∀ u ∈ cellsI L, u.oneCell' = true := by
  intro u hu
  simp only [cellsI, List.mem_map] at hu
  obtain ⟨x, _, rfl⟩ := hu
  rfl
theorem IntA.cells {w : World} {b off : Nat} {L : List Int} (h : IntA w (some ⟨b, off, none⟩) L) (j : Nat) (u : Value) (hj : (cellsI L)[j]? = some u) : w.cell? ((⟨b, off, none⟩ : Addr).add j) = some u := by
  rcases h with rfl | ⟨b', off', e, h⟩
  · simp [cellsI] at hj
  · obtain ⟨rfl, rfl⟩ : b = b' ∧ off = off' := by simpa using e
    simp only [cellsI, List.getElem?_map, Option.map_eq_some_iff] at hj
    obtain ⟨x, hx, rfl⟩ := hj
    rw [Addr.add_lit]
    exact h j x hx

/-- a slice of ints of the call's own -/
abbrev OwnI (w : World) (R : Nat) (v : Value) (L : List Int) : Prop := w.ownsRow R 3 1 v L.length (cellsI L)
theorem OwnI.tab {w : World} {R : Nat} {v : Value} {L : List Int} (h : OwnI w R v L) : ∃ a cap, v = .slice a L.length cap ∧ L.length ≤ cap ∧ IntA w a L := by
  obtain ⟨_, h2⟩ := id h
  rcases h2 with ⟨rfl, h0⟩ | ⟨g, cap, cur, rfl, hb, hg, hc, hm, hs, ht⟩
  · exact ⟨none, 0, by rw [h0], by omega, .inl (List.eq_nil_of_length_eq_zero h0)⟩
  · refine ⟨_, cap, rfl, hc, .inr ⟨g, 0, rfl, fun i x hi => ?_⟩⟩
    obtain ⟨hi', _⟩ := List.getElem?_eq_some_iff.1 hi
    rw [Nat.zero_add]; exact (h.cellAt i (by omega)).trans (cellsI_at hi)
theorem OwnI.intA {w : World} {R n cap : Nat} {a : Option Addr} {L : List Int} (h : OwnI w R (.slice a n cap) L) : n = L.length ∧ L.length ≤ cap ∧ IntA w a L := by
  obtain ⟨a', cap', e, hc, t⟩ := OwnI.tab h
  obtain ⟨rfl, rfl, rfl⟩ : a = a' ∧ n = L.length ∧ cap = cap' := by simpa using e
  exact ⟨rfl, hc, t⟩
theorem owni_later {w w' : World} {R : Nat} {v : Value} {L : List Int} (h : OwnI w R v L) (k : Below w.heap.size w w') : OwnI w' R v L :=
  h.kept (row := none) ⟨k.os, k.tape, k.output, k.size, fun i hi _ => k.block i hi⟩ (by
    cases v.ownBlock with
    | none => exact .inl rfl
    | some k => exact .inr (by simp))
theorem owni_mono {w : World} {R R' : Nat} {v : Value} {L : List Int} (h : OwnI w R v L) (hR : R' ≤ R) : OwnI w R' v L := by
  obtain ⟨h1, h2⟩ := h
  refine ⟨h1, ?_⟩
  rcases h2 with h | ⟨g, cap, cur, e, hb, r⟩
  · exact .inl h
  · exact .inr ⟨g, cap, cur, e, by omega, r⟩
theorem owni_nil (w : World) (R : Nat) : OwnI w R (.slice none 0 0) [] := World.ownsRow_nil w R _ _
theorem owni_empty (w : World) (R : Nat) (hR : R ≤ w.heap.size) : OwnI (w.alloc (.cells #[] 3)) R (.slice (some ⟨w.heap.size, 0, none⟩) 0 0) [] :=
  World.ownsRow_lit w #[] 0 hR (by unfold maxLen; omega) rfl
theorem owni_one (w : World) (R : Nat) (hR : R ≤ w.heap.size) (x : Int) : OwnI (w.alloc (.cells #[.int .i64 x] 3)) R (.slice (some ⟨w.heap.size, 0, none⟩) 1 1) [x] :=
  World.ownsRow_lit w #[.int .i64 x] 1 hR (by unfold maxLen; omega) rfl
theorem infoI : (Try.prog.info? 3).map (fun i => (i.zero, i.size, i.bytes)) = some (some (.int .i64 0), 1, 8) := by kernel_rfl
theorem appi_below {R : Nat} {W w2 : World} {v : Value} {L : List Int} (ho : OwnI W R v L) (hg : W.grownBy w2 v.ownBlock) (hR : R ≤ W.heap.size) : Below R W w2 :=
  (Below.refl R W).grown hg hR (fun k e => (ho.lt k e).1)

/-- 'append(own, xs...)', xs a slice of ints, also a nil one -/
theorem wp_appI {o : Oper} {act : Act} {w : World} {K : Act → World → Prop} {Q : Exit → Act → World → Prop} (s x : Operand)
    (ho : o.op = .call { callee := .builtin .append, args := #[s, x], argTypes := #[62, 62] })
    (R : Nat) (v : Value) (L : List Int) (hs : act.eval s = v) (hown : OwnI w R v L)
    (a : Option Addr) (c : Nat) (M : List Int) (hx : act.eval x = .slice a M.length c) (hM : IntA w a M) (hc : M.length ≤ c)
    (hlen : L.length + M.length ≤ 4000000) (hR : R ≤ w.heap.size)
    (h : ∀ v' w', OwnI w' R v' (L ++ M) → w.grownBy w' v.ownBlock → K (act.put o.dst v') w') : o.wp Try.prog act w K Q := by
  obtain ⟨i0, hi, hz0, hz1, hz2⟩ := info_parts infoI
  rcases hM with rfl | ⟨b, off, rfl, hM⟩
  · obtain ⟨a0, cap0, rfl, hc0, _⟩ := OwnI.tab hown
    have hr := run_append_nothing (P := Try.prog) w 62 62 o.type 3 i0 Try.underlying62 hi a0 L.length cap0 hc0 (.slice a 0 c) (by
      cases a with
      | none => exact Src.ofNil w Try.underlying62 c
      | some ad => exact Src.ofSlice w Try.underlying62 ad 0 c [] (by simp) (fun j u h => by simp at h) (fun u h => by cases h))
    unfold Oper.wp execOp
    simp only [ho, resolve, invoke, builtin, Sem.run_bind, Sem.run_pure, Result.andThen_ok, List.map_toArray, List.map_cons, List.map_nil, hs, hx, List.length_nil, hr]
    exact h _ _ (by simpa using hown) (World.grownBy.refl _ _)
  · refine wp_append_own w s x 62 ho R 3 i0 (.int .i64 0) 1 8 Try.underlying62 hi hz0 hz1 hz2 rfl (by decide) v L.length (cellsI L) hs hown ⟨b, off, none⟩ M.length c (cellsI M) hx (by rw [cellsI_len, Nat.mul_one]) (fun j u hj => IntA.cells (.inr ⟨b, off, rfl, hM⟩) j u hj) (oneI M) (by unfold maxLen; omega) (by omega) hR ?_
    intro v' w' h2 h3 _
    exact h v' w' (by rw [OwnI, List.length_append, cellsI, List.map_append]; exact h2) h3
theorem wpList_appI {ops : Array Oper} {rest : List Oper} {o : Oper} {act : Act} {w : World} {Q : Exit → Act → World → Prop} (hgd : o.guard = none) (s x : Operand)
    (ho : o.op = .call { callee := .builtin .append, args := #[s, x], argTypes := #[62, 62] })
    (R : Nat) (v : Value) (L : List Int) (hs : act.eval s = v) (hown : OwnI w R v L)
    (a : Option Addr) (c : Nat) (M : List Int) (hx : act.eval x = .slice a M.length c) (hM : IntA w a M) (hc : M.length ≤ c)
    (hlen : L.length + M.length ≤ 4000000) (hR : R ≤ w.heap.size)
    (h : ∀ v' w', OwnI w' R v' (L ++ M) → w.grownBy w' v.ownBlock → wpList Try.prog ops Q rest (act.put o.dst v') w') : wpList Try.prog ops Q (o :: rest) act w :=
  wpList_plain hgd fun _ hK => wp_appI s x ho R v L hs hown a c M hx hM hc hlen hR fun v' w' h2 h3 => hK _ _ (h v' w' h2 h3)
end Go.Proofs.Ytnnmgbgkgnejlaa

/-
  What the model's functions on paths answer: is a number among such, is a list a path, which stands ahead.
-/
namespace Go.Proofs.Ytnnmgbgkgnejlaa
open Go.RowKit
set_option linter.unusedSimpArgs false

theorem path_bad {L : List Int} {k : Nat} {x : Int} (hx : L[k]? = some x) (h : ¬ ((1 ≤ x ∧ x ≤ 5) ∧ x ∉ L.take k)) : pOk L = false := pOk_no fun hp => by
  have := hp.take (k + 1)
  rw [List.take_add_one, hx] at this
  obtain ⟨_, h1, h2⟩ := path_snoc.1 this
  exact h ⟨h1, h2⟩
theorem path_next {L : List Int} {k : Nat} {x : Int} (hx : L[k]? = some x) (hp : Path (L.take k)) (h1 : 1 ≤ x ∧ x ≤ 5) (h2 : x ∉ L.take k) : Path (L.take (k + 1)) := by
  rw [List.take_add_one, hx]
  exact path_snoc.2 ⟨hp, h1, h2⟩

end Go.Proofs.Ytnnmgbgkgnejlaa

/-
  What the model's functions on paths answer: has, add, which stands ahead.
-/
namespace Go.Proofs.Ytnnmgbgkgnejlaa
open Go.RowKit
set_option linter.unusedSimpArgs false
set_option linter.unusedVariables false

/-- what PathAdd answers -/
def padd (L : List Int) (h : Int) : List Int × Bool := if pOk (h :: L) = true then (h :: L, true) else ([], false)
theorem padd_yes {L : List Int} {h : Int} (k : Path (h :: L)) : padd L h = (h :: L, true) := by simp [padd, pOk_yes k]
theorem padd_no {L : List Int} {h : Int} (k : ¬ Path (h :: L)) : padd L h = ([], false) := by simp [padd, pOk_no k]
def OwnA (w : World) (r : List Int × Bool) (e : Ending) (w' : World) : Prop := ∃ v, e = .returned (.tuple #[v, .bool r.2]) ∧ OwnI w' w.heap.size v r.1 ∧ Below w.heap.size w w'

theorem cmpL_step {L M : List Int} {k : Nat} {x y : Int} (hx : L[k]? = some x) (hy : M[k]? = some y) (h : x = y) : cmpL (L.drop k) (M.drop k) = cmpL (L.drop (k + 1)) (M.drop (k + 1)) := by
  obtain ⟨h1, e1⟩ := List.getElem?_eq_some_iff.1 hx
  obtain ⟨h2, e2⟩ := List.getElem?_eq_some_iff.1 hy
  rw [List.drop_eq_getElem_cons h1, List.drop_eq_getElem_cons h2, e1, e2, h]
  simp [cmpL]
theorem cmpL_here {L M : List Int} {k : Nat} {x y : Int} (hx : L[k]? = some x) (hy : M[k]? = some y) : cmpL (L.drop k) (M.drop k) = if x < y then -1 else if y < x then 1 else cmpL (L.drop (k + 1)) (M.drop (k + 1)) := by
  obtain ⟨h1, e1⟩ := List.getElem?_eq_some_iff.1 hx
  obtain ⟨h2, e2⟩ := List.getElem?_eq_some_iff.1 hy
  rw [List.drop_eq_getElem_cons h1, List.drop_eq_getElem_cons h2, e1, e2]
  simp [cmpL]

end Go.Proofs.Ytnnmgbgkgnejlaa

/-
  errors.Is, for what the program hands it: nil, or the very error that it is asked for.
-/
namespace Go.Proofs.Ytnnmgbgkgnejlaa
open Go.RowKit Go.Stop Go.Extern
set_option linter.unusedSimpArgs false

end Go.Proofs.Ytnnmgbgkgnejlaa

/-
  The program's paths: is a number a house; is a house on a track; a house ahead of a track.
-/
namespace Go.Proofs.Ytnnmgbgkgnejlaa
open Go.RowKit
set_option linter.unusedSimpArgs false
set_option linter.unusedVariables false

theorem pbit_is : ∀ m : Nat, m < 64 → ∀ k : Nat, k < 6 → (bits .and .u64 ((m : Int) / 2 ^ k) 1 == 1) = m.testBit k := by decide +kernel

/-- two values in a block -/
def AtV (w : World) (R : Nat) (x y : Value) : Prop := w.cell? ⟨R, 0, none⟩ = some x ∧ w.cell? ⟨R, 1, none⟩ = some y ∧ w.frozen? ⟨R, 0, none⟩ = false ∧ w.frozen? ⟨R, 1, none⟩ = false
theorem AtV.new (w : World) (x y : Value) (t : TypeId) : AtV (w.alloc (.cells #[x, y] t)) w.heap.size x y := ⟨by simp, by simp, by simp, by simp⟩
theorem AtV.lt {w : World} {R : Nat} {x y : Value} (h : AtV w R x y) : R < w.heap.size := World.block_lt_of_cell? w _ h.1
theorem AtV.below {w w' : World} {R : Nat} {x y : Value} (h : AtV w R x y) (k : Below w.heap.size w w') : AtV w' R x y :=
  ⟨cell_later k h.1, cell_later k h.2.1, by rw [k.frozen (p := ⟨R, 0, none⟩) h.lt]; exact h.2.2.1, by rw [k.frozen (p := ⟨R, 1, none⟩) h.lt]; exact h.2.2.2⟩
theorem AtV.alloc {w : World} {R : Nat} {x y : Value} (h : AtV w R x y) (o : Obj) : AtV (w.alloc o) R x y := h.below ((Below.refl _ _).alloc (Nat.le_refl _) o)
theorem AtV.drew {w : World} {R : Nat} {x y : Value} (h : AtV w R x y) : AtV w.drew R x y := h
theorem AtV.far {w : World} {R : Nat} {x y : Value} (h : AtV w R x y) (q : Addr) (v : Value) (hne : q.block ≠ R) : AtV (w.setCell q v) R x y :=
  ⟨by rw [World.cell?_setCell_far _ _ _ _ hne]; exact h.1, by rw [World.cell?_setCell_far _ _ _ _ hne]; exact h.2.1, by rw [World.frozen?_setCell]; exact h.2.2.1, by rw [World.frozen?_setCell]; exact h.2.2.2⟩
theorem AtV.put {w : World} {R : Nat} {x y : Value} (h : AtV w R x y) (u v : Value) : AtV ((w.setCell ⟨R, 0, none⟩ u).setCell ⟨R, 1, none⟩ v) R u v := by
  refine ⟨?_, ?_, by rw [World.frozen?_setCell, World.frozen?_setCell]; exact h.2.2.1, by rw [World.frozen?_setCell, World.frozen?_setCell]; exact h.2.2.2⟩
  · rw [World.cell?_setCell_other _ _ _ _ (by simp)]; exact World.cell?_setCell_same' _ _ _ (by rw [h.1]; rfl)
  · refine World.cell?_setCell_same' _ _ _ ?_
    rw [World.cell?_setCell_other _ _ _ _ (by simp), h.2.1]; rfl
theorem AtV.kept {A B : World} {row : Option Nat} {R : Nat} {x y : Value} (h : AtV A R x y) (hg : A.grownBy B row) (hr : ∀ r, row = some r → ∃ o : Obj, A.heap[r]? = some o ∧ o.isCells = false) : AtV B R x y :=
  ⟨cell_kept h.1 hg hr, cell_kept h.2.1 hg hr, (frozen_kept h.1 hg hr).trans h.2.2.1, (frozen_kept h.2.1 hg hr).trans h.2.2.2⟩
theorem AtV.only {A B : World} {row : Option Nat} {R : Nat} {x y : Value} (h : AtV A R x y) (hg : A.grownBy B row) (hr : some R ≠ row) : AtV B R x y :=
  ⟨hg.cell h.1 hr, hg.cell h.2.1 hr, (World.frozen?_of_block (w := A) (a := ⟨R, 0, none⟩) (hg.block R h.lt hr)).trans h.2.2.1, (World.frozen?_of_block (w := A) (a := ⟨R, 1, none⟩) (hg.block R h.lt hr)).trans h.2.2.2⟩
theorem below_put {w W : World} {n R : Nat} (h : Below n w W) (hR : n ≤ R) (x y : Value) : Below n w ((W.setCell ⟨R, 0, none⟩ x).setCell ⟨R, 1, none⟩ y) :=
  (h.setCell (p := ⟨R, 0, none⟩) hR x).setCell (p := ⟨R, 1, none⟩) hR y

theorem or_is : ∀ m : Nat, m < 64 → ∀ k : Nat, k < 6 → bits .or .u64 (m : Int) (IntKind.u64.wrap (2 ^ k)) = ((m ||| 1 <<< k : Nat) : Int) := by decide +kernel
def OwnT (w : World) (L : List Int) (e : Ending) (w' : World) : Prop := ∃ v, e = .returned (.tuple #[.agg #[.int .u64 (bitsH L : Int), v], .nilIface]) ∧ OwnI w' w.heap.size v L ∧ Below w.heap.size w w'

end Go.Proofs.Ytnnmgbgkgnejlaa

/-
  A track of houses: the iterator that goes backward, and who goes by it.
-/
namespace Go.Proofs.Ytnnmgbgkgnejlaa
open Go.RowKit Go.Shelf
set_option linter.unusedSimpArgs false
set_option linter.unusedVariables false
attribute [local go_sem] Oper.semAt_some

/-- what is yielded: places and houses, the last first -/
def backL (L : List Int) (k : Nat) : List (Nat × Int) := (List.range k).map fun j => (L.length - 1 - j, L[L.length - 1 - j]?.getD 0)
theorem backL_succ (L : List Int) (k : Nat) : backL L (k + 1) = backL L k ++ [(L.length - 1 - k, L[L.length - 1 - k]?.getD 0)] := by
  simp [backL, List.range_succ]
theorem backL_length (L : List Int) (k : Nat) : (backL L k).length = k := by simp [backL]
/-- the houses that have come, in order -/
def came (pre : List (Nat × Int)) : List Int := (pre.map (·.2)).reverse
theorem came_snoc (pre : List (Nat × Int)) (x : Nat × Int) : came (pre ++ [x]) = x.2 :: came pre := by simp [came]
theorem came_back (L : List Int) : ∀ k, k ≤ L.length → came (backL L k) = L.drop (L.length - k)
  | 0, _ => by simp [came, backL]
  | k + 1, h => by
    rw [backL_succ, came_snoc, came_back L k (by omega)]
    have hlt : L.length - (k + 1) < L.length := by omega
    rw [List.drop_eq_getElem_cons hlt, show L.length - (k + 1) + 1 = L.length - k by omega, show L.length - 1 - k = L.length - (k + 1) by omega, List.getElem?_eq_getElem hlt]
    rfl
def encB (x : Nat × Int) : Array Value := #[.int .i64 (x.1 : Int), .int .i64 x.2]
/-- all cells stay, but those of one block -/
def KP (T : Nat) (W W' : World) : Prop := ∀ b o v, b ≠ T → W.cell? ⟨b, o, none⟩ = some v → W'.cell? ⟨b, o, none⟩ = some v
theorem KP.refl (T : Nat) (W : World) : KP T W W := fun _ _ _ _ h => h
theorem KP.trans {T : Nat} {A B C : World} (h : KP T A B) (k : KP T B C) : KP T A C := fun b o v hb e => k b o v hb (h b o v hb e)
theorem KP.below {T : Nat} {W W' : World} (h : Below W.heap.size W W') : KP T W W' := fun _ _ _ _ e => cell_later h e
theorem KP.set {T : Nat} (W : World) (o : Nat) (v : Value) : KP T W (W.setCell ⟨T, o, none⟩ v) := fun b o' u hb e => by
  rw [World.cell?_setCell_far _ _ _ _ (fun h => hb h.symm)]; exact e
theorem KP.put {T : Nat} {w W : World} (l : Nat) (o o' : Obj) (_ : w.heap.size ≤ l) (h : W.heap[l]? = some o) (hc : o.isCells = false) (_ : o.isWalk = false) : KP T W (W.putObj l o') :=
  fun _ _ _ _ e => cell_kept e (grownBy_putObj' W l o') (fun r k => by cases k; exact ⟨o, h, hc⟩)
theorem IntA.kp {T : Nat} {W W' : World} {a : Option Addr} {L : List Int} (h : IntA W a L) (k : KP T W W') (haT : L ≠ [] → ∀ b off, a = some ⟨b, off, none⟩ → b ≠ T) : IntA W' a L := by
  by_cases hL : L = []
  · exact .inl hL
  · rcases h with h | ⟨b, off, rfl, h⟩
    · exact .inl h
    · exact .inr ⟨b, off, rfl, fun i x hi => k _ _ _ (haT hL b off rfl) (h i x hi)⟩
theorem IntA.lt {w : World} {a : Option Addr} {L : List Int} (h : IntA w a L) (hL : L ≠ []) (b off : Nat) (e : a = some ⟨b, off, none⟩) : b < w.heap.size := by
  subst e
  obtain ⟨b', off', x, e, _, c⟩ := h.at (List.length_pos_iff.2 hL)
  obtain ⟨rfl, rfl⟩ : b = b' ∧ off = off' := by simpa using e
  exact World.block_lt_of_cell? w _ c

theorem owni_keptO {A B : World} {row : Option Nat} {R : Nat} {v : Value} {L : List Int} (h : OwnI A R v L) (hg : A.grownBy B row) (hr : ∀ r, row = some r → ∃ o : Obj, A.heap[r]? = some o ∧ o.isCells = false) : OwnI B R v L := by
  refine h.kept hg ?_
  cases e : v.ownBlock with
  | none => exact .inl rfl
  | some k =>
    refine .inr fun e2 => ?_
    obtain ⟨o, ho, hc⟩ := hr k e2.symm
    rcases h.2 with ⟨rfl, _⟩ | ⟨g, cap, cur, rfl, hb, hgg, _⟩
    · simp [Value.ownBlock] at e
    · simp [Value.ownBlock] at e
      subst e
      rw [hgg] at ho
      cases ho
      cases hc

/-- one value in a block -/
def At1 (w : World) (R : Nat) (x : Value) : Prop := w.cell? ⟨R, 0, none⟩ = some x ∧ w.frozen? ⟨R, 0, none⟩ = false
theorem At1.new (w : World) (x : Value) (t : TypeId) : At1 (w.alloc (.cells #[x] t)) w.heap.size x := ⟨by simp, by simp⟩
theorem At1.lt {w : World} {R : Nat} {x : Value} (h : At1 w R x) : R < w.heap.size := World.block_lt_of_cell? w _ h.1
theorem At1.below {w w' : World} {R : Nat} {x : Value} (h : At1 w R x) (k : Below w.heap.size w w') : At1 w' R x :=
  ⟨cell_later k h.1, by rw [k.frozen (p := ⟨R, 0, none⟩) h.lt]; exact h.2⟩
theorem At1.alloc {w : World} {R : Nat} {x : Value} (h : At1 w R x) (o : Obj) : At1 (w.alloc o) R x := h.below ((Below.refl _ _).alloc (Nat.le_refl _) o)
theorem At1.far {w : World} {R : Nat} {x : Value} (h : At1 w R x) (q : Addr) (v : Value) (hne : q.block ≠ R) : At1 (w.setCell q v) R x :=
  ⟨by rw [World.cell?_setCell_far _ _ _ _ hne]; exact h.1, by rw [World.frozen?_setCell]; exact h.2⟩
theorem At1.put {w : World} {R : Nat} {x : Value} (h : At1 w R x) (u : Value) : At1 (w.setCell ⟨R, 0, none⟩ u) R u :=
  ⟨World.cell?_setCell_same' _ _ _ (by rw [h.1]; rfl), by rw [World.frozen?_setCell]; exact h.2⟩
theorem At1.kept {A B : World} {row : Option Nat} {R : Nat} {x : Value} (h : At1 A R x) (hg : A.grownBy B row) (hr : ∀ r, row = some r → ∃ o : Obj, A.heap[r]? = some o ∧ o.isCells = false) : At1 B R x :=
  ⟨cell_kept h.1 hg hr, (frozen_kept h.1 hg hr).trans h.2⟩

abbrev zT : Value := .int .u64 0
abbrev zS : Value := .slice none 0 0
theorem ko_below {W W' : World} (k : Below W.heap.size W W') : KeepsOthers W W' :=
  KeepsOthers.of_grownBy (row := none) ⟨k.os, k.tape, k.output, k.size, fun i hi _ => k.block i hi⟩ (fun j o e _ => by cases e)
theorem owni_set {W : World} {R : Nat} {v : Value} {L : List Int} (h : OwnI W R v L) {q : Addr} (hq : q.block < R) (u : Value) : OwnI (W.setCell q u) R v L := ownsRow_setCell_below h hq u

end Go.Proofs.Ytnnmgbgkgnejlaa

/-
  What the program's functions on paths answer: ok, has, add, which stands ahead.
-/
namespace Go.Proofs.Ytnnmgbgkgnejlaa
open Go.RowKit
set_option linter.unusedSimpArgs false
set_option linter.unusedVariables false

/-! order -/
def sgn (x y : Int) : Int := if x < y then -1 else if y < x then 1 else 0
end Go.Proofs.Ytnnmgbgkgnejlaa

/-
  What the helpers of the laws do with slices of ints: copies, comparisons, marks.
-/
namespace Go.Proofs.Ytnnmgbgkgnejlaa
open Go.RowKit
set_option linter.unusedSimpArgs false
set_option linter.unusedVariables false

def pOwn1 (w : World) (L : List Int) (e : Ending) (w' : World) : Prop := ∃ v, e = .returned v ∧ OwnI w' w.heap.size v L ∧ Below w.heap.size w w'
theorem madeI (n : Nat) : (madeCells #[Value.int .i64 0] (n * 1)).toList = cellsI (List.replicate n 0) := by
  refine (List.eq_replicate_iff.2 ⟨by simp [size_madeCells], fun x hx => ?_⟩ : _ = List.replicate n (Value.int .i64 0)).trans (by simp [cellsI])
  simp only [madeCells, Array.toList_map, List.mem_map] at hx
  obtain ⟨i, _, rfl⟩ := hx
  show (#[Value.int .i64 0] : Array Value)[i % 1]! = _
  rw [show i % 1 = 0 by omega]; rfl
theorem owni_put {w : World} {R g cap : Nat} {L : List Int} {k : Nat} (h : OwnI w R (.slice (some ⟨g, 0, none⟩) L.length cap) L) (x : Int) :
    OwnI (w.setCell ⟨g, k, none⟩ (.int .i64 x)) R (.slice (some ⟨g, 0, none⟩) L.length cap) (L.set k x) ∧ w.grownBy (w.setCell ⟨g, k, none⟩ (.int .i64 x)) (some g) := by
  have h1 := World.ownsRow.stored h k (.int .i64 x)
  refine ⟨?_, h1.2⟩
  have := h1.1
  rw [OwnI, List.length_set, cellsI, List.map_set]
  exact this
theorem owni_cell {w : World} {R g cap : Nat} {L : List Int} {k : Nat} (h : OwnI w R (.slice (some ⟨g, 0, none⟩) L.length cap) L) (hk : k < L.length) : w.cell? ⟨g, k, none⟩ = some (.int .i64 L[k]) :=
  (h.cellAt k (by omega)).trans (cellsI_at (List.getElem?_eq_getElem hk))

/-- marks -/
def pmarkL (n : Nat) : List Int := (List.range n).map fun (i : Nat) => (i : Int) + 1
theorem pmarkL_len (n : Nat) : (pmarkL n).length = n := by simp [pmarkL]
theorem pmarkL_at {n k : Nat} (h : k < n) : (pmarkL n)[k]? = some ((k : Int) + 1) := by simp [pmarkL, h]
theorem pmarkL_all {n : Nat} {M : List Int} (hM : M.length = n) (h : ∀ j, j < n → M[j]? = (pmarkL n)[j]?) : M = pmarkL n := List.ext_getElem? fun j => by
  by_cases e : j < n
  · exact h j e
  · rw [List.getElem?_eq_none (by omega), List.getElem?_eq_none (by rw [pmarkL_len]; omega)]

/-- the block of an own slice lies between two numbers -/
def pBtw (v : Value) (A B : Nat) : Prop := ∀ k, v.ownBlock = some k → A ≤ k ∧ k < B
theorem OwnI.btw {w : World} {R : Nat} {v : Value} {L : List Int} (h : OwnI w R v L) : pBtw v R w.heap.size := fun k hk => h.lt k hk
theorem pBtw.apart {v u : Value} {A B C D : Nat} (hv : pBtw v A B) (hu : pBtw u C D) (h : B ≤ C ∨ D ≤ A) : v.ownBlock = none ∨ v.ownBlock ≠ u.ownBlock := by
  cases e : v.ownBlock with
  | none => exact .inl rfl
  | some k =>
    refine .inr fun e' => ?_
    have h1 := hv k e
    have h2 := hu k e'.symm
    omega
end Go.Proofs.Ytnnmgbgkgnejlaa

/-
  The exact laws of PathOk, PathHas, PathAdd, PathCmp: the walks.
-/
namespace Go.Proofs.Ytnnmgbgkgnejlaa
open Go.RowKit
set_option linter.unusedSimpArgs false
set_option linter.unusedVariables false

theorem padd_len (L : List Int) (h : Int) : (padd L h).1.length ≤ 5 := by
  by_cases k : Path (h :: L)
  · rw [padd_yes k]; exact k.len
  · rw [padd_no k]; simp

end Go.Proofs.Ytnnmgbgkgnejlaa

/-
  Drawn paths: some ints, not many, in memory of their own; whatever the bytes.
-/
namespace Go.Proofs.Ytnnmgbgkgnejlaa
open Go.RowKit
set_option linter.unusedSimpArgs false
set_option linter.unusedVariables false

def Pathed (w : World) (B p : Nat) (e : Ending) (w' : World) : Prop :=
  ∃ (v : Value) (L : List Int) (p' : Nat), e = .returned v ∧ L.length ≤ 5 ∧ OwnI w' w.heap.size v L ∧ Rd w' B p' ∧ p' ≤ p + 20 ∧ w.grownBy w' (some B)
theorem owni_pick {w w' : World} {R B : Nat} {v : Value} {L : List Int} (ho : OwnI w R v L) (hg : w.grownBy w' (some B)) (hB : B < R) : OwnI w' R v L :=
  ho.kept hg (by
    cases e : v.ownBlock with
    | none => exact .inl rfl
    | some k => exact .inr (fun h => by have := (ho.lt k e).1; simp at h; omega))
theorem OwnI.lt' {w : World} {R : Nat} {v : Value} {L : List Int} (h : OwnI w R v L) : ∀ k, v.ownBlock = some k → R ≤ k := fun k hk => (h.lt k hk).1
/-- a reader is kept where an own row is written -/
theorem prd_own {w w' : World} {B p R : Nat} {v : Value} (h : Rd w B p) (hg : w.grownBy w' v.ownBlock) (hv : ∀ k, v.ownBlock = some k → R ≤ k) (hB : B < R) : Rd w' B p := by
  have hBw := rd_lt h
  have ne : ∀ b, b ≤ B → some b ≠ v.ownBlock := fun b hb e => by have := hv b e.symm; omega
  obtain ⟨a, len, cap, z, c0, c1, hf, hp, hl, hz⟩ := h
  refine ⟨a, len, cap, z, hg.cell c0 (ne B (Nat.le_refl _)), hg.cell c1 (ne B (Nat.le_refl _)), (World.frozen?_of_block (w := w) (a := ⟨B, 1, none⟩) (hg.block B hBw (ne B (Nat.le_refl _)))).trans hf, hp, hl, ?_⟩
  rcases hz with h | ⟨b, off, rfl, hb', hc, hbd⟩
  · exact .inl h
  · exact .inr ⟨b, off, rfl, hb', fun i hi => hg.cell (hc i hi) (ne b (by omega)), hbd⟩
/-- seen from before, only new memory was written -/
theorem ponly_own {a w w' : World} {row : Option Nat} {v : Value} (h : a.grownBy w row) (hg : w.grownBy w' v.ownBlock) (hv : ∀ k, v.ownBlock = some k → a.heap.size ≤ k) : a.grownBy w' row :=
  ⟨hg.os.trans h.os, hg.tape.trans h.tape, hg.output.trans h.output, Nat.le_trans h.size hg.size, fun i hi hne =>
    (hg.block i (Nat.lt_of_lt_of_le hi h.size) (fun e => by have := hv i e.symm; omega)).trans (h.block i hi hne)⟩

/-- while a path is drawn -/
def PthI (w : World) (B q : Nat) (L : List Int) (v : Value) (W : World) : Prop := OwnI W w.heap.size v L ∧ (∃ q', Rd W B q' ∧ q' ≤ q) ∧ w.grownBy W (some B)
theorem PthI.more {w : World} {B q q2 : Nat} {L : List Int} {v : Value} {W : World} (h : PthI w B q L v W) (hq : q ≤ q2) : PthI w B q2 L v W := by
  obtain ⟨a, ⟨q', b, c⟩, d⟩ := h
  exact ⟨a, ⟨q', b, by omega⟩, d⟩
theorem pnews1 (W : World) (x : Int) : IntA (W.alloc (.cells #[.int .i64 x] 3)) (some ⟨W.heap.size, 0, none⟩) [x] := (OwnI.intA (owni_one W W.heap.size (Nat.le_refl _) x)).2.2

/-- a drawn path; a drawn path and a number; two drawn paths -/
def DrawnP (w : World) (e : Ending) (w' : World) : Prop := ∃ (v : Value) (L : List Int), e = .returned v ∧ L.length ≤ 6 ∧ OwnI w' w.heap.size v L ∧ Below w.heap.size w w'
def DrawnPH (w : World) (e : Ending) (w' : World) : Prop := ∃ (v : Value) (L : List Int) (h : Int), e = .returned (.tuple #[v, .int .i64 h]) ∧ L.length ≤ 6 ∧ OwnI w' w.heap.size v L ∧ Below w.heap.size w w'
def DrawnPP (w : World) (e : Ending) (w' : World) : Prop := ∃ (v u : Value) (L M : List Int), e = .returned (.tuple #[v, u]) ∧ L.length ≤ 6 ∧ M.length ≤ 6 ∧ OwnI w' w.heap.size v L ∧ OwnI w' w.heap.size u M ∧ Below w.heap.size w w'

end Go.Proofs.Ytnnmgbgkgnejlaa

