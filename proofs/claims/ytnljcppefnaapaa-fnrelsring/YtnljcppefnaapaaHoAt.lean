/-
  Values in a block: what is kept, what a store of a struct leaves.
-/
import Derived.Test.YtnljcppefnaapaaHoPb
import Derived.Deep.MidRow
namespace Go.Proofs.Ytnljcppefnaapaa
open Go.RowKit
set_option linter.unusedSimpArgs false
set_option linter.unusedVariables false

def AtX (w : World) (R : Nat) (L : List Value) : Prop := ∀ (j : Nat) v, L[j]? = some v → w.cell? ⟨R, j, none⟩ = some v ∧ w.frozen? ⟨R, j, none⟩ = false
section
variable {w w' : World} {R : Nat} {L : List Value}
theorem AtX.below (h : AtX w R L) (k : Below w.heap.size w w') : AtX w' R L := fun j v hj =>
  ⟨cell_later k (h j v hj).1, by rw [k.frozen (p := ⟨R, j, none⟩) (World.block_lt_of_cell? w _ (h j v hj).1)]; exact (h j v hj).2⟩
theorem AtX.only {row : Option Nat} (h : AtX w R L) (hg : w.grownBy w' row) (hr : some R ≠ row) : AtX w' R L := fun j v hj =>
  ⟨hg.cell (h j v hj).1 hr, (World.frozen?_of_block (w := w) (a := ⟨R, j, none⟩) (hg.block R (World.block_lt_of_cell? w _ (h j v hj).1) hr)).trans (h j v hj).2⟩
theorem AtX.range (h : AtX w R L) : w.rangeAt R 0 L := fun j v hj => by rw [Nat.zero_add]; exact (h j v hj).1
theorem AtX.there (h : AtX w R L) {n : Nat} (hn : n ≤ L.length) : w.there R 0 n := fun j hj => by
  obtain ⟨h1, h2⟩ := h j L[j] (List.getElem?_eq_getElem (by omega))
  rw [Nat.zero_add]
  exact ⟨by rw [h1]; rfl, h2⟩
theorem AtX.sets (h : AtX w R L) (vs : List Value) (hv : vs.length = L.length) : AtX (w.setCells R 0 vs) R vs := fun j v hj => by
  have h1 := World.rangeAt_setCells_same w R 0 vs (h.there (by omega)) j v hj
  rw [Nat.zero_add] at h1
  exact ⟨h1, by rw [World.frozen?_setCells]; have := (h.there (Nat.le_refl _) j (by have := (List.getElem?_eq_some_iff.1 hj).1; omega)).2; rwa [Nat.zero_add] at this⟩
end
theorem onlyX_set (w : World) (R o : Nat) (v : Value) : w.grownBy (w.setCell ⟨R, o, none⟩ v) (some R) := ⟨rfl, rfl, rfl, by simp [World.setCell], fun k _ hk => Below.heap_setCell _ _ _ _ (fun e => hk (by first | (simp at e; rw [e]; done) | (rw [e]; done) | simp [e]))⟩
theorem onlyX_sets {R : Nat} : ∀ (vs : List Value) (o : Nat) (w : World), w.grownBy (w.setCells R o vs) (some R)
  | [], _, w => World.grownBy.refl _ _
  | v :: vs, o, w => by
    rw [World.setCells]
    exact only_on (onlyX_set w R o v) (onlyX_sets vs (o + 1) (w.setCell ⟨R, o, none⟩ v))
/-- a whole struct is stored: the world behind it is a letter -/
theorem wp_stX {P : Program} {op : Oper} {a : Act} {w : World} {Kc : Act → World → Prop} {Q : Exit → Act → World → Prop} (ty : TypeId) (x y : Operand) (ho : op.op = .store ty x y)
    (R : Nat) (cells : Array Value) (hx : a.eval x = .pointer (some ⟨R, 0, none⟩)) (hy : a.eval y = .agg cells) (h1 : cells.all (·.oneCell') = true) (hi : (P.info? ty).map (·.size) = some cells.size)
    (L : List Value) (hA : AtX w R L) (hl : cells.toList.length = L.length)
    (h : ∀ w', AtX w' R cells.toList → w.grownBy w' (some R) → Kc (a.put op.dst undef) w') : op.wp P a w Kc Q :=
  Go.wp_store_mid ty x y ho R 0 cells hx hy (hA.there (by rw [← hl]; simp)) hi h1 (h _ (hA.sets _ hl) (onlyX_sets _ _ _))
theorem wpList_stX {P : Program} {ops : Array Oper} {rest : List Oper} {op : Oper} {a : Act} {w : World} {Q : Exit → Act → World → Prop} (hgd : op.guard = none) (ty : TypeId) (x y : Operand) (ho : op.op = .store ty x y)
    (R : Nat) (cells : Array Value) (hx : a.eval x = .pointer (some ⟨R, 0, none⟩)) (hy : a.eval y = .agg cells) (h1 : cells.all (·.oneCell') = true) (hi : (P.info? ty).map (·.size) = some cells.size)
    (L : List Value) (hA : AtX w R L) (hl : cells.toList.length = L.length)
    (h : ∀ w', AtX w' R cells.toList → w.grownBy w' (some R) → wpList P ops Q rest (a.put op.dst undef) w') : wpList P ops Q (op :: rest) a w :=
  wpList_plain hgd fun _ hK => wp_stX ty x y ho R cells hx hy h1 hi L hA hl (fun w' h2 h3 => hK _ _ (h w' h2 h3))
theorem infoR2 : (Try.prog.info? 50).map (·.size) = some 2 := by kernel_rfl
theorem AtX.two {w : World} {R : Nat} {a b : Value} (h : AtX w R [a, b]) : w.cell? ⟨R, 0, none⟩ = some a ∧ w.cell? ⟨R, 1, none⟩ = some b := ⟨(h 0 a rfl).1, (h 1 b rfl).1⟩
theorem AtX.new2 (w : World) (a b : Value) (t : TypeId) : AtX (w.alloc (.cells #[a, b] t)) w.heap.size [a, b] := fun j v hj => by
  match j, hj with
  | 0, h | 1, h => simp at h; subst h; exact ⟨by simp, by simp⟩
  | n + 2, h => simp at h
/-- relations known so far: at most so many -/
def RelsU (w : World) (f : Int → Int → Int) (b k : Nat) : Prop := ∃ D, OwnK w b k D ∧ Kn f D
theorem RelsU.rels {w : World} {f : Int → Int → Int} {b k : Nat} (h : RelsU w f b k) (hk : k ≤ 100) : Rels w f b := by
  obtain ⟨D, ho, hn⟩ := h
  exact ⟨k, D, hk, ho, hn⟩
theorem RelsU.mono {w : World} {f : Int → Int → Int} {b k k' : Nat} (h : RelsU w f b k) (hk : k ≤ k') : RelsU w f b k' := by
  obtain ⟨D, ho, hn⟩ := h
  exact ⟨D, ho.mono hk, hn⟩
theorem Rels.only {w w' : World} {f : Int → Int → Int} {b : Nat} {row : Option Nat} (h : Rels w f b) (hg : w.grownBy w' row) (hr : some b ≠ row) : Rels w' f b := by
  obtain ⟨n, D, hn, ho, hk⟩ := h.own
  exact ⟨n, D, hn, ho.kept hg hr, hk⟩
theorem wpList_put_R {ops : Array Oper} {rest : List Oper} {o : Oper} {a : Act} {w : World} {Q : Exit → Act → World → Prop} (hg : o.guard = none) (m x v : Operand) (hop : o.op = Op.mapUpdate 48 m x v)
    (f : Int → Int → Int) (b k : Nat) (hm : a.eval m = .map (some b)) (h : RelsU w f b k) (hk : k < 100) (p q r : Int) (hx : a.eval x = KV p q) (hv : a.eval v = .int .i64 r) (hp : Iw p) (hq : Iw q) (hw : Iw r) (hr : r ≠ 0)
    (hK : ∀ w', RelsU w' (upd f p q r) b (k + 1) → w.grownBy w' (some b) → wpList Try.prog ops Q rest (a.put o.dst undef) w') : wpList Try.prog ops Q (o :: rest) a w := by
  obtain ⟨D, ho, hn⟩ := h
  exact wpList_mapUpdate_own w hg m x v 48 hop 63 3 lawK Try.underlying48 (plainElem Try.prog 3) b k D hm ho (by unfold maxLen; omega) _ _ _ hx hv (keyP hp hq) _ [] (plainElem_int Try.underlying3 hw) (fun w' h1 h2 => hK w' ⟨_, h1, hn.put hp hq hr⟩ h2)
/-- what the loop keeps: the result's variable, and the one that is filled -/
structure Fl (w wr : World) (n : Nat) : Prop where
  bel : Below w.heap.size w wr
  res : AtX wr w.heap.size [.int .i64 0, .map none]
  kno : AtX wr (w.heap.size + 2) [.int .i64 (n : Int), .map (some (w.heap.size + 1))]
theorem Fl.put {w wr w' : World} {n : Nat} (h : Fl w wr n) (hg : wr.grownBy w' (some (w.heap.size + 1))) : Fl w w' n :=
  ⟨h.bel.grown hg h.bel.size (fun k hk => by cases hk; omega), h.res.only hg (by simp), h.kno.only hg (by simp)⟩
end Go.Proofs.Ytnljcppefnaapaa
