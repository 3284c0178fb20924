/-
  Steps of a region that draws its order, each with a letter for the world behind it: what is made, appended, stored.
-/
import Derived.Test.YtioppkalehnoaaaGreatDoorClPa
import Derived.Deep.CutBlock
namespace Go.Proofs.YtioppkalehnoaaaGreatDoor
open Go.RowKit
set_option linter.unusedSimpArgs false
set_option linter.unusedVariables false

/-- rows of elements of two types lie apart -/
theorem rows_apart {w : World} {R R' z z' n n' : Nat} {e e' : TypeId} {v v' : Value} {xs xs' : List Value} (h : w.ownsRow R e z v n xs) (h' : w.ownsRow R' e' z' v' n' xs') (hne : e ≠ e') : v.ownBlock = none ∨ v.ownBlock ≠ v'.ownBlock := by
  rcases h.2 with ⟨e0, _⟩ | ⟨g, cap, cur, e0, _, hb, _⟩
  · rw [e0]; exact .inl (by simp [Value.ownBlock])
  · refine .inr fun q => ?_
    rcases h'.2 with ⟨e2, _⟩ | ⟨g', c', cur', e2, _, hb', _⟩
    · rw [e0, e2] at q; simp [Value.ownBlock] at q
    · have e3 : g = g' := by rw [e0, e2] at q; simpa [Value.ownBlock] using q
      rw [e3, hb'] at hb
      simp at hb
      exact hne hb.2.symm
/-- a whole struct is stored -/
theorem wp_stA {P : Program} {op : Oper} {a : Act} {w : World} {Kc : Act → World → Prop} {Q : Exit → Act → World → Prop} (ty : TypeId) (x y : Operand) (ho : op.op = .store ty x y)
    (R : Nat) (cells : Array Value) (hx : a.eval x = .pointer (some ⟨R, 0, none⟩)) (hy : a.eval y = .agg cells) (h1 : cells.all (·.oneCell') = true) (hi : (P.info? ty).map (·.size) = some cells.size)
    (L : List Value) (hA : AtL w R 0 L) (hl : cells.toList.length = L.length)
    (h : ∀ w', AtL w' R 0 cells.toList → w.grownBy w' (some R) → Kc (a.put op.dst undef) w') : op.wp P a w Kc Q :=
  Go.wp_store_mid ty x y ho R 0 cells hx hy (hA.there (by rw [← hl]; simp)) hi h1 (h _ (hA.sets _ hl) (only_sets _ _ _))
theorem OwnW.atl {w : World} {R g : Nat} {v : RV} (h : OwnW w R g 1 [v]) : AtL w g 0 v.cells := fun j u hj => by
  have hj5 : j < 5 := by have := (List.getElem?_eq_some_iff.1 hj).1; rwa [five_len] at this
  have c := OwnW.cellsA h j u (by have := cells5_at (L := [v]) (k := 0) (v := v) (j := j) rfl hj5; rw [Nat.zero_mul, Nat.zero_add] at this; rw [this]; exact hj)
  rw [Nat.zero_add]
  exact ⟨c, World.ownsRow.frozenAt h j⟩
/-- a variable for a route -/
theorem ownw_zero (w : World) (R : Nat) (hR : R ≤ w.heap.size) : OwnW (w.alloc (.cells #[.int .i64 0, .int .i64 0, .slice none 0 0, .int .i64 0, .slice none 0 0] 32)) R w.heap.size 1 [⟨0, 0, none, 0, [], 0, none, 0, []⟩] := World.ownsRow_lit w #[.int .i64 0, .int .i64 0, .slice none 0 0, .int .i64 0, .slice none 0 0] 1 hR (by unfold maxLen; omega) rfl
theorem ownw_later {w w' : World} {R g c : Nat} {L : List RV} (h : OwnW w R g c L) (k : Below w.heap.size w w') : OwnW w' R g c L :=
  World.ownsRow.kept h (row := none) ⟨k.os, k.tape, k.output, k.size, fun i hi _ => k.block i hi⟩ (.inr (by simp [Value.ownBlock]))
/-- what lies behind the region: a route in a variable -/
structure CutY (q : World) (Ry : Nat) (f b l : Int) (P M : List Int) (ap : Option Addr) (cp : Nat) (am : Option Addr) (cm : Nat) (W : World) : Prop where
  bel : Below q.heap.size q W
  box : At5 W Ry (.int .i64 f) (.int .i64 b) (.slice ap P.length cp) (.int .i64 l) (.slice am M.length cm)
  low : q.heap.size ≤ Ry
  p : OwnI W q.heap.size (.slice ap P.length cp) P
  m : OwnI W q.heap.size (.slice am M.length cm) M
theorem CutY.mk' {q W W' : World} {Ry : Nat} {f b l : Int} {P M : List Int} {ap am : Option Addr} {cp cm : Nat} {z : RV} (hb : Below q.heap.size q W) (hz : OwnW W q.heap.size Ry 1 [z]) (hp : OwnI W q.heap.size (.slice ap P.length cp) P) (hm : OwnI W q.heap.size (.slice am M.length cm) M)
    (ha : AtL W' Ry 0 [.int .i64 f, .int .i64 b, .slice ap P.length cp, .int .i64 l, .slice am M.length cm]) (hg : W.grownBy W' (some Ry)) : CutY q Ry f b l P M ap cp am cm W' :=
  ⟨below_only hb hg hb.size (OwnW.low hz).1, AtL.to5 ha, (OwnW.low hz).1, World.ownsRow.kept hp hg (rows_apart hp hz (by decide)), World.ownsRow.kept hm hg (rows_apart hm hz (by decide))⟩
end Go.Proofs.YtioppkalehnoaaaGreatDoor
