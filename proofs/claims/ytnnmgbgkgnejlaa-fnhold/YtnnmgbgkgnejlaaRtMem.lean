/-
  Routes in memory: a struct of five cells in a block; the program's isMark, marksOk, (Route).ok, RouteOk.
-/
import Derived.Test.YtnnmgbgkgnejlaaJ2
import Derived.Test.YtnnmgbgkgnejlaaJ1
namespace Go.Proofs.Ytnnmgbgkgnejlaa
open Go.RowKit
set_option linter.unusedSimpArgs false
set_option linter.unusedVariables false

/-- five values in a block -/
def At5 (w : World) (R : Nat) (x0 x1 x2 x3 x4 : Value) : Prop :=
  (w.cell? ⟨R, 0, none⟩ = some x0 ∧ w.cell? ⟨R, 1, none⟩ = some x1 ∧ w.cell? ⟨R, 2, none⟩ = some x2 ∧ w.cell? ⟨R, 3, none⟩ = some x3 ∧ w.cell? ⟨R, 4, none⟩ = some x4) ∧
  w.frozen? ⟨R, 0, none⟩ = false ∧ w.frozen? ⟨R, 1, none⟩ = false ∧ w.frozen? ⟨R, 2, none⟩ = false ∧ w.frozen? ⟨R, 3, none⟩ = false ∧ w.frozen? ⟨R, 4, none⟩ = false
section
variable {w w' : World} {R : Nat} {x0 x1 x2 x3 x4 : Value}
theorem At5.new (w : World) (x0 x1 x2 x3 x4 : Value) (t : TypeId) : At5 (w.alloc (.cells #[x0, x1, x2, x3, x4] t)) w.heap.size x0 x1 x2 x3 x4 := ⟨⟨by simp, by simp, by simp, by simp, by simp⟩, by simp, by simp, by simp, by simp, by simp⟩
theorem At5.lt (h : At5 w R x0 x1 x2 x3 x4) : R < w.heap.size := World.block_lt_of_cell? w _ h.1.1
theorem At5.below (h : At5 w R x0 x1 x2 x3 x4) (k : Below w.heap.size w w') : At5 w' R x0 x1 x2 x3 x4 :=
  ⟨⟨cell_later k h.1.1, cell_later k h.1.2.1, cell_later k h.1.2.2.1, cell_later k h.1.2.2.2.1, cell_later k h.1.2.2.2.2⟩,
   by rw [k.frozen (p := ⟨R, 0, none⟩) h.lt]; exact h.2.1, by rw [k.frozen (p := ⟨R, 1, none⟩) h.lt]; exact h.2.2.1, by rw [k.frozen (p := ⟨R, 2, none⟩) h.lt]; exact h.2.2.2.1, by rw [k.frozen (p := ⟨R, 3, none⟩) h.lt]; exact h.2.2.2.2.1, by rw [k.frozen (p := ⟨R, 4, none⟩) h.lt]; exact h.2.2.2.2.2⟩
theorem At5.alloc (h : At5 w R x0 x1 x2 x3 x4) (o : Obj) : At5 (w.alloc o) R x0 x1 x2 x3 x4 := h.below ((Below.refl _ _).alloc (Nat.le_refl _) o)
theorem At5.drew (h : At5 w R x0 x1 x2 x3 x4) : At5 w.drew R x0 x1 x2 x3 x4 := h
theorem At5.far (h : At5 w R x0 x1 x2 x3 x4) (q : Addr) (v : Value) (hne : q.block ≠ R) : At5 (w.setCell q v) R x0 x1 x2 x3 x4 := by
  obtain ⟨⟨h0, h1, h2, h3, h4⟩, k0, k1, k2, k3, k4⟩ := h
  refine ⟨⟨?_, ?_, ?_, ?_, ?_⟩, ?_, ?_, ?_, ?_, ?_⟩ <;> first | (rw [World.cell?_setCell_far _ _ _ _ hne]; assumption) | (rw [World.frozen?_setCell]; assumption)
theorem At5.only {row : Option Nat} (h : At5 w R x0 x1 x2 x3 x4) (hg : w.grownBy w' row) (hr : some R ≠ row) : At5 w' R x0 x1 x2 x3 x4 :=
  ⟨⟨hg.cell h.1.1 hr, hg.cell h.1.2.1 hr, hg.cell h.1.2.2.1 hr, hg.cell h.1.2.2.2.1 hr, hg.cell h.1.2.2.2.2 hr⟩,
   (World.frozen?_of_block (w := w) (a := ⟨R, 0, none⟩) (hg.block R h.lt hr)).trans h.2.1, (World.frozen?_of_block (w := w) (a := ⟨R, 1, none⟩) (hg.block R h.lt hr)).trans h.2.2.1, (World.frozen?_of_block (w := w) (a := ⟨R, 2, none⟩) (hg.block R h.lt hr)).trans h.2.2.2.1,
   (World.frozen?_of_block (w := w) (a := ⟨R, 3, none⟩) (hg.block R h.lt hr)).trans h.2.2.2.2.1, (World.frozen?_of_block (w := w) (a := ⟨R, 4, none⟩) (hg.block R h.lt hr)).trans h.2.2.2.2.2⟩
theorem At5.put2 (h : At5 w R x0 x1 x2 x3 x4) (v : Value) : At5 (w.setCell ⟨R, 2, none⟩ v) R x0 x1 v x3 x4 := by
  obtain ⟨⟨h0, h1, h2, h3, h4⟩, k0, k1, k2, k3, k4⟩ := h
  refine ⟨⟨?_, ?_, World.cell?_setCell_same' _ _ _ (by rw [h2]; rfl), ?_, ?_⟩, ?_, ?_, ?_, ?_, ?_⟩ <;> first | (rw [World.cell?_setCell_other _ _ _ _ (by simp)]; assumption) | (rw [World.frozen?_setCell]; assumption)
theorem At5.put4 (h : At5 w R x0 x1 x2 x3 x4) (v : Value) : At5 (w.setCell ⟨R, 4, none⟩ v) R x0 x1 x2 x3 v := by
  obtain ⟨⟨h0, h1, h2, h3, h4⟩, k0, k1, k2, k3, k4⟩ := h
  refine ⟨⟨?_, ?_, ?_, ?_, World.cell?_setCell_same' _ _ _ (by rw [h4]; rfl)⟩, ?_, ?_, ?_, ?_, ?_⟩ <;> first | (rw [World.cell?_setCell_other _ _ _ _ (by simp)]; assumption) | (rw [World.frozen?_setCell]; assumption)
theorem At5.put3 (h : At5 w R x0 x1 x2 x3 x4) (v : Value) : At5 (w.setCell ⟨R, 3, none⟩ v) R x0 x1 x2 v x4 := by
  obtain ⟨⟨h0, h1, h2, h3, h4⟩, k0, k1, k2, k3, k4⟩ := h
  refine ⟨⟨?_, ?_, ?_, World.cell?_setCell_same' _ _ _ (by rw [h3]; rfl), ?_⟩, ?_, ?_, ?_, ?_, ?_⟩ <;> first | (rw [World.cell?_setCell_other _ _ _ _ (by simp)]; assumption) | (rw [World.frozen?_setCell]; assumption)
theorem At5.put1 (h : At5 w R x0 x1 x2 x3 x4) (v : Value) : At5 (w.setCell ⟨R, 1, none⟩ v) R x0 v x2 x3 x4 := by
  obtain ⟨⟨h0, h1, h2, h3, h4⟩, k0, k1, k2, k3, k4⟩ := h
  refine ⟨⟨?_, World.cell?_setCell_same' _ _ _ (by rw [h1]; rfl), ?_, ?_, ?_⟩, ?_, ?_, ?_, ?_, ?_⟩ <;> first | (rw [World.cell?_setCell_other _ _ _ _ (by simp)]; assumption) | (rw [World.frozen?_setCell]; assumption)
theorem At5.put0 (h : At5 w R x0 x1 x2 x3 x4) (v : Value) : At5 (w.setCell ⟨R, 0, none⟩ v) R v x1 x2 x3 x4 := by
  obtain ⟨⟨h0, h1, h2, h3, h4⟩, k0, k1, k2, k3, k4⟩ := h
  refine ⟨⟨World.cell?_setCell_same' _ _ _ (by rw [h0]; rfl), ?_, ?_, ?_, ?_⟩, ?_, ?_, ?_, ?_, ?_⟩ <;> first | (rw [World.cell?_setCell_other _ _ _ _ (by simp)]; assumption) | (rw [World.frozen?_setCell]; assumption)
/-- a struct of five cells is stored -/
def set5 (w : World) (R : Nat) (y0 y1 y2 y3 y4 : Value) : World := ((((w.setCell ⟨R, 0, none⟩ y0).setCell ⟨R, 1, none⟩ y1).setCell ⟨R, 2, none⟩ y2).setCell ⟨R, 3, none⟩ y3).setCell ⟨R, 4, none⟩ y4
theorem At5.put (h : At5 w R x0 x1 x2 x3 x4) (y0 y1 y2 y3 y4 : Value) : At5 (set5 w R y0 y1 y2 y3 y4) R y0 y1 y2 y3 y4 := ((((h.put0 y0).put1 y1).put2 y2).put3 y3).put4 y4
theorem At5.far5 (h : At5 w R x0 x1 x2 x3 x4) {Q : Nat} (hne : Q ≠ R) (y0 y1 y2 y3 y4 : Value) : At5 (set5 w Q y0 y1 y2 y3 y4) R x0 x1 x2 x3 x4 :=
  ((((h.far ⟨Q, 0, none⟩ y0 hne).far ⟨Q, 1, none⟩ y1 hne).far ⟨Q, 2, none⟩ y2 hne).far ⟨Q, 3, none⟩ y3 hne).far ⟨Q, 4, none⟩ y4 hne
theorem below_set5 {n : Nat} {a : World} (h : Below n a w) (hR : n ≤ R) (y0 y1 y2 y3 y4 : Value) : Below n a (set5 w R y0 y1 y2 y3 y4) :=
  ((((h.setCell (p := ⟨R, 0, none⟩) hR y0).setCell (p := ⟨R, 1, none⟩) hR y1).setCell (p := ⟨R, 2, none⟩) hR y2).setCell (p := ⟨R, 3, none⟩) hR y3).setCell (p := ⟨R, 4, none⟩) hR y4
end

/-- the slices of a route, as they lie in memory -/
def RtM (w : World) (a : Option Addr) (c : Nat) (P : List Int) (d : Option Addr) (e : Nat) (M : List Int) : Prop :=
  (IntA w a P ∧ IntA w d M) ∧ P.length ≤ c ∧ M.length ≤ e ∧ P.length ≤ 2000000 ∧ M.length ≤ 2000000
theorem RtM.below {w w' : World} {a d : Option Addr} {c e : Nat} {P M : List Int} (h : RtM w a c P d e M) (k : Below w.heap.size w w') : RtM w' a c P d e M := ⟨⟨h.1.1.below k, h.1.2.below k⟩, h.2⟩
theorem RtM.alloc {w : World} {a d : Option Addr} {c e : Nat} {P M : List Int} (h : RtM w a c P d e M) (o : Obj) : RtM (w.alloc o) a c P d e M := ⟨⟨h.1.1.alloc o, h.1.2.alloc o⟩, h.2⟩
theorem RtM.drew {w : World} {a d : Option Addr} {c e : Nat} {P M : List Int} (h : RtM w a c P d e M) : RtM w.drew a c P d e M := h

theorem marks_bad {L : List Int} {k : Nat} {x : Int} (hx : L[k]? = some x) (h : isM x = false) : mkOk L = false := mkOk_no fun hp => isM_no h (hp.1 x (List.mem_of_getElem? hx))
theorem marks_bad2 {L : List Int} {k : Nat} {x y : Int} (hy : L[k]? = some y) (hx : L[k + 1]? = some x) (h : x ≤ y) : mkOk L = false := mkOk_no fun hp => by
  obtain ⟨h1, e1⟩ := List.getElem?_eq_some_iff.1 hy
  obtain ⟨h2, e2⟩ := List.getElem?_eq_some_iff.1 hx
  have := List.pairwise_iff_getElem.1 hp.2 k (k + 1) h1 h2 (by omega)
  omega
theorem marks_next {L : List Int} {k : Nat} {x : Int} (hx : L[k]? = some x) (hp : Marks (L.take k)) (h1 : isM x = true) (h2 : ∀ y, k ≠ 0 → L[k - 1]? = some y → y < x) : Marks (L.take (k + 1)) := by
  rw [List.take_add_one, hx]
  refine ⟨fun m hm => ?_, ?_⟩
  · rcases List.mem_append.1 hm with h | h
    · exact hp.1 m h
    · simp at h; subst h; exact (isM_iff m).1 h1
  · rw [List.pairwise_append]
    refine ⟨hp.2, by simp, fun a ha b hb => ?_⟩
    simp at hb; subst hb
    by_cases hk : k = 0
    · subst hk; simp at ha
    · obtain ⟨i, hi⟩ := List.mem_iff_getElem?.1 ha
      have hik : i < k := by
        have := (List.getElem?_eq_some_iff.1 hi).1
        rw [List.length_take] at this; omega
      have hkl := (List.getElem?_eq_some_iff.1 hx).1
      have ey : L[k - 1]? = some (L[k - 1]'(by omega)) := List.getElem?_eq_getElem (by omega)
      have hy := h2 _ hk ey
      by_cases e : i = k - 1
      · subst e
        rw [List.getElem?_take, if_pos hik, ey] at hi
        cases hi; exact hy
      · have hl : (L.take k).length = k := by rw [List.length_take]; omega
        have := List.pairwise_iff_getElem.1 hp.2 i (k - 1) (by omega) (by omega) (by omega)
        obtain ⟨_, e1⟩ := List.getElem?_eq_some_iff.1 hi
        rw [e1, List.getElem_take] at this
        omega

theorem rtOk_nil {f b l : Int} {M : List Int} : rtOk (f, b, [], l, M) = false := by simp [rtOk]
theorem rtOk_like {f b l : Int} {P M : List Int} (h : ¬ (0 ≤ l ∧ l ≤ 9)) : rtOk (f, b, P, l, M) = false := by simp [rtOk, h]
theorem rtOk_rest {f b l : Int} {P M : List Int} (hP : P ≠ []) (h : 0 ≤ l ∧ l ≤ 9) : rtOk (f, b, P, l, M) = (okB f b && pOk P && mkOk M) := by simp [rtOk, h, hP]

end Go.Proofs.Ytnnmgbgkgnejlaa
