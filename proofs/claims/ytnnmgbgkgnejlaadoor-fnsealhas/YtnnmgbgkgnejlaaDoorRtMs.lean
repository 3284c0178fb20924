/-
  The document's model: a route with a mark; without one.
-/
import Derived.Test.YtnnmgbgkgnejlaaDoorRtMk
namespace Go.Proofs.YtnnmgbgkgnejlaaDoor
open Go.RowKit
set_option linter.unusedSimpArgs false
set_option linter.unusedVariables false

/-- a route of the call's own, and whether there is one -/
def OwnRB (w : World) (r : Rt × Bool) (en : Ending) (w' : World) : Prop := ∃ pv mv, en = .returned (.tuple #[rtV r.1 pv mv, .bool r.2]) ∧ OwnRt w r.1 pv mv w'
theorem owni_setN {W : World} {R A B : Nat} {v : Value} {L : List Int} (h : OwnI W R v L) (hb : pBtw v A B) {Q o : Nat} (hq : Q < A ∨ B ≤ Q) (u : Value) : OwnI (W.setCell ⟨Q, o, none⟩ u) R v L :=
  h.kept (only_setCell W Q o u) (by
    cases e : v.ownBlock with
    | none => exact .inl rfl
    | some k => exact .inr (fun q => by have := hb k e; simp at q; omega))
theorem owni_set5 {W : World} {R A B : Nat} {v : Value} {L : List Int} (h : OwnI W R v L) (hb : pBtw v A B) {Q : Nat} (hq : Q < A ∨ B ≤ Q) (y0 y1 y2 y3 y4 : Value) : OwnI (set5 W Q y0 y1 y2 y3 y4) R v L :=
  owni_setN (owni_setN (owni_setN (owni_setN (owni_setN h hb hq y0) hb hq y1) hb hq y2) hb hq y3) hb hq y4
theorem pBtw.mono {v : Value} {A B A' B' : Nat} (h : pBtw v A B) (h1 : A' ≤ A) (h2 : B ≤ B') : pBtw v A' B' := fun k e => ⟨by have := (h k e).1; omega, by have := (h k e).2; omega⟩
theorem OwnRt.zero {w w' : World} (h : Below w.heap.size w w') : OwnRt w zRt (.slice none 0 0) (.slice none 0 0) w' := ⟨w.heap.size, owni_nil _ _, fun k e => by simp [Value.ownBlock] at e, owni_nil _ _, Nat.le_refl _, h⟩
abbrev z0 : Value := .int .i64 0
abbrev zS0 : Value := .slice none 0 0
theorem At5.two (w : World) (x0 x1 x2 x3 x4 y0 y1 y2 y3 y4 : Value) (t t' : TypeId) :
    At5 ((w.alloc (.cells #[x0, x1, x2, x3, x4] t)).alloc (.cells #[y0, y1, y2, y3, y4] t')) w.heap.size x0 x1 x2 x3 x4 ∧ At5 ((w.alloc (.cells #[x0, x1, x2, x3, x4] t)).alloc (.cells #[y0, y1, y2, y3, y4] t')) (w.heap.size + 1) y0 y1 y2 y3 y4 ∧
    Below w.heap.size w ((w.alloc (.cells #[x0, x1, x2, x3, x4] t)).alloc (.cells #[y0, y1, y2, y3, y4] t')) := by
  have h2 := At5.new (w.alloc (.cells #[x0, x1, x2, x3, x4] t)) y0 y1 y2 y3 y4 t'
  simp only [World.size_alloc] at h2
  exact ⟨(At5.new w x0 x1 x2 x3 x4 t).alloc _, h2, ((Below.refl w.heap.size w).alloc (Nat.le_refl _) _).alloc (by simp) _⟩
theorem rtMark_no1 {r : Rt} {m : Int} (h : rtOk r = false) : rtMark r m = (zRt, false) := by simp [rtMark, h]
theorem rtMark_no2 {r : Rt} {m : Int} (h : isM m = false) : rtMark r m = (zRt, false) := by simp [rtMark, h]
theorem rtMark_yes {r : Rt} {m : Int} (h : rtOk r = true) (k : isM m = true) : rtMark r m = ((r.1, r.2.1, r.2.2.1, r.2.2.2.1, mins r.2.2.2.2 m), true) := by simp [rtMark, h, k]
theorem rtClear_no1 {r : Rt} {m : Int} (h : rtOk r = false) : rtClear r m = (zRt, false) := by simp [rtClear, h]
theorem rtClear_no2 {r : Rt} {m : Int} (h : isM m = false) : rtClear r m = (zRt, false) := by simp [rtClear, h]
theorem rtClear_yes {r : Rt} {m : Int} (h : rtOk r = true) (k : isM m = true) : rtClear r m = ((r.1, r.2.1, r.2.2.1, r.2.2.2.1, mdel r.2.2.2.2 m), true) := by simp [rtClear, h, k]
/-- the answer's cells behind the last store -/
theorem ms_end {w W0 W1 W3 : World} {pv mv : Value} {P U : List Int} {x0 x1 x3 y0 y1 y2 y3 y4 z0' z1 z2 z3 z4 : Value} (hb0 : Below w.heap.size w W0) (hP : OwnI W3 W0.heap.size pv P) (bP : pBtw pv W0.heap.size W1.heap.size) (hU : OwnI W3 (W1.heap.size + 1) mv U)
    (hA : At5 W3 (w.heap.size + 1) z0' z1 z2 z3 z4) (hC : At5 W3 W1.heap.size y0 y1 y2 y3 y4) (hs1 : W0.heap.size ≤ W1.heap.size) (hs0 : w.heap.size + 2 ≤ W0.heap.size) (hB : Below w.heap.size w W3) :
    At5 (set5 (W3.setCell ⟨W1.heap.size, 4, none⟩ mv) (w.heap.size + 1) x0 x1 pv x3 mv) (w.heap.size + 1) x0 x1 pv x3 mv ∧
    OwnRt w (0, 0, P, 0, U) pv mv (set5 (W3.setCell ⟨W1.heap.size, 4, none⟩ mv) (w.heap.size + 1) x0 x1 pv x3 mv) := by
  have bU : pBtw mv (W1.heap.size + 1) W3.heap.size := OwnI.btw hU
  refine ⟨(hA.far ⟨W1.heap.size, 4, none⟩ mv (by show W1.heap.size ≠ w.heap.size + 1; omega)).put _ _ _ _ _, W1.heap.size + 1, ?_, bP.mono (by omega) (by omega), ?_, by omega, ?_⟩
  · exact owni_mono (owni_set5 (owni_setN hP bP (.inr (Nat.le_refl _)) mv) bP (.inl (by omega)) _ _ _ _ _) hb0.size
  · exact owni_set5 (owni_setN hU bU (.inl (by omega)) mv) bU (.inl (by omega)) _ _ _ _ _
  · exact below_set5 (hB.setCell (p := ⟨W1.heap.size, 4, none⟩) (by show w.heap.size ≤ W1.heap.size; omega) mv) (by omega) _ _ _ _ _

end Go.Proofs.YtnnmgbgkgnejlaaDoor
