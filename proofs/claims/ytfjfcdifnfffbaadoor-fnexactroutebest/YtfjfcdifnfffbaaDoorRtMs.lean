/-
  The document's model: a route with a mark; without one.
-/
import Derived.Test.YtfjfcdifnfffbaaDoorRtMk
namespace Go.Proofs.YtfjfcdifnfffbaaDoor
open Go.RowKit
set_option linter.unusedSimpArgs false
set_option linter.unusedVariables false

/-- a route of the call's own, and whether there is one -/
def OwnRB (w : World) (r : Rt × Bool) (en : Ending) (w' : World) : Prop := ∃ pv mv, en = .returned (.tuple #[rtV r.1 pv mv, .bool r.2]) ∧ OwnRt w r.1 pv mv w'
theorem owni_setN {W : World} {R A B : Nat} {v : Value} {L : List Int} (h : OwnI W R v L) (hb : pBtw v A B) {Q o : Nat} (hq : Q < A ∨ B ≤ Q) (u : Value) : OwnI (W.setCell ⟨Q, o, none⟩ u) R v L :=
  h.kept (only_setCell W Q o u) (by
    cases e : v.ownBlock with
    | none => exact .inl rfl
    | some k => exact .inr (fun q => by have := hb k e; simp at q; omega))
theorem owni_set5 {W : World} {R A B : Nat} {v : Value} {L : List Int} (h : OwnI W R v L) (hb : pBtw v A B) {Q : Nat} (hq : Q < A ∨ B ≤ Q) (y0 y1 y2 y3 y4 : Value) : OwnI (set5 W Q y0 y1 y2 y3 y4) R v L :=
  owni_setN (owni_setN (owni_setN (owni_setN (owni_setN h hb hq y0) hb hq y1) hb hq y2) hb hq y3) hb hq y4
theorem pBtw.mono {v : Value} {A B A' B' : Nat} (h : pBtw v A B) (h1 : A' ≤ A) (h2 : B ≤ B') : pBtw v A' B' := fun k e => ⟨by have := (h k e).1; omega, by have := (h k e).2; omega⟩
theorem OwnRt.zero {w w' : World} (h : Below w.heap.size w w') : OwnRt w zRt (.slice none 0 0) (.slice none 0 0) w' := ⟨w.heap.size, owni_nil _ _, fun k e => by simp [Value.ownBlock] at e, owni_nil _ _, Nat.le_refl _, h⟩
abbrev z0 : Value := .int .i64 0
abbrev zS0 : Value := .slice none 0 0
theorem At5.two (w : World) (x0 x1 x2 x3 x4 y0 y1 y2 y3 y4 : Value) (t t' : TypeId) :
    At5 ((w.alloc (.cells #[x0, x1, x2, x3, x4] t)).alloc (.cells #[y0, y1, y2, y3, y4] t')) w.heap.size x0 x1 x2 x3 x4 ∧ At5 ((w.alloc (.cells #[x0, x1, x2, x3, x4] t)).alloc (.cells #[y0, y1, y2, y3, y4] t')) (w.heap.size + 1) y0 y1 y2 y3 y4 ∧
    Below w.heap.size w ((w.alloc (.cells #[x0, x1, x2, x3, x4] t)).alloc (.cells #[y0, y1, y2, y3, y4] t')) := by
  have h2 := At5.new (w.alloc (.cells #[x0, x1, x2, x3, x4] t)) y0 y1 y2 y3 y4 t'
  simp only [World.size_alloc] at h2
  exact ⟨(At5.new w x0 x1 x2 x3 x4 t).alloc _, h2, ((Below.refl w.heap.size w).alloc (Nat.le_refl _) _).alloc (by simp) _⟩
theorem rtMark_no1 {r : Rt} {m : Int} (h : rtOk r = false) : rtMark r m = (zRt, false) := by simp [rtMark, h]
theorem rtMark_no2 {r : Rt} {m : Int} (h : isM m = false) : rtMark r m = (zRt, false) := by simp [rtMark, h]
theorem rtMark_yes {r : Rt} {m : Int} (h : rtOk r = true) (k : isM m = true) : rtMark r m = ((r.1, r.2.1, r.2.2.1, r.2.2.2.1, mins r.2.2.2.2 m), true) := by simp [rtMark, h, k]
theorem rtClear_no1 {r : Rt} {m : Int} (h : rtOk r = false) : rtClear r m = (zRt, false) := by simp [rtClear, h]
theorem rtClear_no2 {r : Rt} {m : Int} (h : isM m = false) : rtClear r m = (zRt, false) := by simp [rtClear, h]
theorem rtClear_yes {r : Rt} {m : Int} (h : rtOk r = true) (k : isM m = true) : rtClear r m = ((r.1, r.2.1, r.2.2.1, r.2.2.2.1, mdel r.2.2.2.2 m), true) := by simp [rtClear, h, k]
/-- the answer's cells behind the last store -/
theorem ms_end {w W0 W1 W3 : World} {pv mv : Value} {P U : List Int} {x0 x1 x3 y0 y1 y2 y3 y4 z0' z1 z2 z3 z4 : Value} (hb0 : Below w.heap.size w W0) (hP : OwnI W3 W0.heap.size pv P) (bP : pBtw pv W0.heap.size W1.heap.size) (hU : OwnI W3 (W1.heap.size + 1) mv U)
    (hA : At5 W3 (w.heap.size + 1) z0' z1 z2 z3 z4) (hC : At5 W3 W1.heap.size y0 y1 y2 y3 y4) (hs1 : W0.heap.size ≤ W1.heap.size) (hs0 : w.heap.size + 2 ≤ W0.heap.size) (hB : Below w.heap.size w W3) :
    At5 (set5 (W3.setCell ⟨W1.heap.size, 4, none⟩ mv) (w.heap.size + 1) x0 x1 pv x3 mv) (w.heap.size + 1) x0 x1 pv x3 mv ∧
    OwnRt w (0, 0, P, 0, U) pv mv (set5 (W3.setCell ⟨W1.heap.size, 4, none⟩ mv) (w.heap.size + 1) x0 x1 pv x3 mv) := by
  have bU : pBtw mv (W1.heap.size + 1) W3.heap.size := OwnI.btw hU
  refine ⟨(hA.far ⟨W1.heap.size, 4, none⟩ mv (by show W1.heap.size ≠ w.heap.size + 1; omega)).put _ _ _ _ _, W1.heap.size + 1, ?_, bP.mono (by omega) (by omega), ?_, by omega, ?_⟩
  · exact owni_mono (owni_set5 (owni_setN hP bP (.inr (Nat.le_refl _)) mv) bP (.inl (by omega)) _ _ _ _ _) hb0.size
  · exact owni_set5 (owni_setN hU bU (.inl (by omega)) mv) bU (.inl (by omega)) _ _ _ _ _
  · exact below_set5 (hB.setCell (p := ⟨W1.heap.size, 4, none⟩) (by show w.heap.size ≤ W1.heap.size; omega) mv) (by omega) _ _ _ _ _

set_option maxRecDepth 100000 in
set_option maxHeartbeats 2000000 in
theorem srtmark_is (f b : Int) (a : Option Addr) (c : Nat) (P : List Int) (l : Int) (d : Option Addr) (e : Nat) (M : List Int) {m : Int} {r : Rt × Bool} (k : rtMark (f, b, P, l, M) m = r) (w : World) (hm : RtM w a c P d e M) :
    Calls Tryd.prog 21 #[.agg #[.int .i64 f, .int .i64 b, .slice a P.length c, .int .i64 l, .slice d M.length e], .int .i64 m] w (OwnRB w r) := by
  have KX := Lib.hid k
  clear k
  obtain ⟨hA1, hA2, hB⟩ := At5.two w (.int .i64 f) (.int .i64 b) (.slice a P.length c) (.int .i64 l) (.slice d M.length e) (.int .i64 0) (.int .i64 0) (.slice none 0 0) (.int .i64 0) (.slice none 0 0) 27 27
  have HM := Lib.hid ((hm.alloc (.cells #[.int .i64 f, .int .i64 b, .slice a P.length c, .int .i64 l, .slice d M.length e] 27)).alloc (.cells #[.int .i64 0, .int .i64 0, .slice none 0 0, .int .i64 0, .slice none 0 0] 27))
  have H0 := Lib.hid (And.intro hA1 (And.intro hA2 hB))
  have hs0 : ((w.alloc (.cells #[.int .i64 f, .int .i64 b, .slice a P.length c, .int .i64 l, .slice d M.length e] 27)).alloc (.cells #[.int .i64 0, .int .i64 0, .slice none 0 0, .int .i64 0, .slice none 0 0] 27)).heap.size = w.heap.size + 2 := by simp
  clear hm hA1 hA2 hB
  go_enter Tryd.func21, Tryd.ntmps21
  go_wp2_with fail
  generalize (w.alloc (.cells #[.int .i64 f, .int .i64 b, .slice a P.length c, .int .i64 l, .slice d M.length e] 27)).alloc (.cells #[.int .i64 0, .int .i64 0, .slice none 0 0, .int .i64 0, .slice none 0 0] 27) = W at *
  cases ho : rtOk (f, b, P, l, M) with
  | false =>
    have hr := Lib.hid (show r = (zRt, false) by rw [← KX.out, rtMark_no1 ho])
    refine (srok_is f b a c P l d e M ho _ HM.out).mono ?_
    rintro en w1 ⟨rfl, b1⟩
    have H1 := Lib.hid (And.intro (H0.out.2.1.below b1) (next H0.out.2.2 b1))
    clear b1 HM H0
    obtain ⟨⟨q0, q1, q2, q3, q4⟩, k0, k1, k2, k3, k4⟩ := H1.out.1
    go_wp2_with fail
    have g := H1.out.1.put (.int .i64 0) (.int .i64 0) (.slice none 0 0) (.int .i64 0) (.slice none 0 0)
    have gB := below_set5 H1.out.2 (show w.heap.size ≤ w.heap.size + 1 by omega) (.int .i64 0) (.int .i64 0) (.slice none 0 0) (.int .i64 0) (.slice none 0 0)
    obtain ⟨⟨g0, g1, g2, g3, g4⟩, _⟩ := g
    unfold set5 at g0 g1 g2 g3 g4
    exact bodyPost_ret (v := .tuple #[rtV zRt (.slice none 0 0) (.slice none 0 0), .bool false]) (by simp [results, Tryd.results21, go_sem, g0, g1, g2, g3, g4, rtV, zRt]) rfl (by rw [hr.out]; exact ⟨_, _, rfl, OwnRt.zero gB⟩)
  | true =>
    refine (srok_is f b a c P l d e M ho _ HM.out).mono ?_
    rintro en w1 ⟨rfl, b1⟩
    have H1 := Lib.hid (And.intro (H0.out.1.below b1) (And.intro (H0.out.2.1.below b1) (And.intro (next H0.out.2.2 b1) (HM.out.below b1))))
    have hs1 : w.heap.size + 2 ≤ w1.heap.size := by have := b1.size; omega
    clear b1 HM H0
    go_wp2_with fail
    cases hi : isM m with
    | false =>
      have hi' : inR m 1 9 = false := hi
      have hr := Lib.hid (show r = (zRt, false) by rw [← KX.out, rtMark_no2 hi])
      refine (in_is hi' _).mono ?_
      rintro en w2 ⟨rfl, rfl⟩
      obtain ⟨⟨q0, q1, q2, q3, q4⟩, k0, k1, k2, k3, k4⟩ := H1.out.2.1
      go_wp2_with fail
      have g := H1.out.2.1.put (.int .i64 0) (.int .i64 0) (.slice none 0 0) (.int .i64 0) (.slice none 0 0)
      have gB := below_set5 H1.out.2.2.1 (show w.heap.size ≤ w.heap.size + 1 by omega) (.int .i64 0) (.int .i64 0) (.slice none 0 0) (.int .i64 0) (.slice none 0 0)
      obtain ⟨⟨g0, g1, g2, g3, g4⟩, _⟩ := g
      unfold set5 at g0 g1 g2 g3 g4
      exact bodyPost_ret (v := .tuple #[rtV zRt (.slice none 0 0) (.slice none 0 0), .bool false]) (by simp [results, Tryd.results21, go_sem, g0, g1, g2, g3, g4, rtV, zRt]) rfl (by rw [hr.out]; exact ⟨_, _, rfl, OwnRt.zero gB⟩)
    | true =>
      have hi' : inR m 1 9 = true := hi
      have hG := (rtOk_iff _).1 ho
      have hMM : Marks M := hG.marks
      have hl9 := hMM.len
      have HMM := Lib.hid hMM
      have hr := Lib.hid (show r = ((f, b, P, l, mins M m), true) by rw [← KX.out, rtMark_yes ho hi])
      refine (in_is hi' _).mono ?_
      rintro en w2 ⟨rfl, rfl⟩
      clear hG hMM
      obtain ⟨⟨q0, q1, q2, q3, q4⟩, k0, k1, k2, k3, k4⟩ := H1.out.1
      go_wp2_with fail
      clear q0 q1 q2 q3 q4 k0 k1 k2 k3 k4
      refine (l4copy_is f b a c P l d e M _ H1.out.2.2.2).mono ?_
      rintro en w3 ⟨pv, mv, rfl, S, oP, bP, oM, hS, b3⟩
      obtain ⟨a3, c3, rfl, _, _⟩ := OwnI.tab oP
      obtain ⟨d3, e3, rfl, _, _⟩ := OwnI.tab oM
      have hs3 := b3.size
      have H3 := Lib.hid (And.intro ((H1.out.1.below b3).alloc (.cells #[.int .i64 f, .int .i64 b, .slice a3 P.length c3, .int .i64 l, .slice d3 M.length e3] 27)) (And.intro ((H1.out.2.1.below b3).alloc (.cells #[.int .i64 f, .int .i64 b, .slice a3 P.length c3, .int .i64 l, .slice d3 M.length e3] 27)) (And.intro ((next H1.out.2.2.1 b3).alloc (next H1.out.2.2.1 b3).size (.cells #[.int .i64 f, .int .i64 b, .slice a3 P.length c3, .int .i64 l, .slice d3 M.length e3] 27)) ((H1.out.2.2.2.below b3).alloc (.cells #[.int .i64 f, .int .i64 b, .slice a3 P.length c3, .int .i64 l, .slice d3 M.length e3] 27)))))
      have HP3 := Lib.hid (And.intro (oP.alloc (.cells #[.int .i64 f, .int .i64 b, .slice a3 P.length c3, .int .i64 l, .slice d3 M.length e3] 27)) (OwnI.btw oP))
      have HC3 := Lib.hid (At5.new w3 (.int .i64 f) (.int .i64 b) (.slice a3 P.length c3) (.int .i64 l) (.slice d3 M.length e3) 27)
      clear oP bP oM hS b3
      have lt3 : w.heap.size < w3.heap.size := by omega
      have ne3 : ¬ w.heap.size = w3.heap.size := by omega
      obtain ⟨⟨q0, q1, q2, q3, q4⟩, k0, k1, k2, k3, k4⟩ := H3.out.1
      go_wp2_with fail
      clear q0 q1 q2 q3 q4 k0 k1 k2 k3 k4
      refine (l4mark_is HMM.out.2 hl9 d e _ _ rfl H3.out.2.2.2.1.2).mono ?_
      rintro en w4 ⟨v4, rfl, o4, b4⟩
      obtain ⟨a4, c4, rfl, _, _⟩ := OwnI.tab o4
      simp only [World.size_alloc] at o4
      have HF := Lib.hid (ms_end (w := w) (W0 := w1) (W1 := w3) (x0 := .int .i64 f) (x1 := .int .i64 b) (x3 := .int .i64 l) H1.out.2.2.1 (owni_later HP3.out.1 b4) HP3.out.2 o4 (H3.out.2.1.below b4) (HC3.out.below b4) hs3 hs1 (next H3.out.2.2.1 b4))
      have HC4 := Lib.hid (HC3.out.below b4)
      have HA4 := Lib.hid (H3.out.2.1.below b4)
      have ne4 : ¬ w3.heap.size = w.heap.size + 1 := by omega
      have ne5 : ¬ w.heap.size + 1 = w3.heap.size := by omega
      have lt4 : w.heap.size + 1 < w4.heap.size := HA4.out.lt
      clear o4 b4 HC3 H3 HP3
      obtain ⟨⟨q0, q1, q2, q3, q4⟩, k0, k1, k2, k3, k4⟩ := HC4.out
      obtain ⟨⟨s0, s1, s2, s3, s4⟩, r0, r1, r2, r3, r4⟩ := HA4.out
      go_wp2_with fail
      obtain ⟨⟨⟨g0, g1, g2, g3, g4⟩, _⟩, gO⟩ := HF.out
      unfold set5 at g0 g1 g2 g3 g4
      exact bodyPost_ret (v := .tuple #[.agg #[.int .i64 f, .int .i64 b, .slice a3 P.length c3, .int .i64 l, .slice a4 (mins M m).length c4], .bool true]) (by simp [results, Tryd.results21, go_sem, g0, g1, g2, g3, g4]) rfl (by rw [hr.out]; exact ⟨_, _, rfl, gO⟩)

set_option maxRecDepth 100000 in
set_option maxHeartbeats 2000000 in
theorem srtclear_is (f b : Int) (a : Option Addr) (c : Nat) (P : List Int) (l : Int) (d : Option Addr) (e : Nat) (M : List Int) {m : Int} {r : Rt × Bool} (k : rtClear (f, b, P, l, M) m = r) (w : World) (hm : RtM w a c P d e M) :
    Calls Tryd.prog 28 #[.agg #[.int .i64 f, .int .i64 b, .slice a P.length c, .int .i64 l, .slice d M.length e], .int .i64 m] w (OwnRB w r) := by
  have KX := Lib.hid k
  clear k
  obtain ⟨hA1, hA2, hB⟩ := At5.two w (.int .i64 f) (.int .i64 b) (.slice a P.length c) (.int .i64 l) (.slice d M.length e) (.int .i64 0) (.int .i64 0) (.slice none 0 0) (.int .i64 0) (.slice none 0 0) 27 27
  have HM := Lib.hid ((hm.alloc (.cells #[.int .i64 f, .int .i64 b, .slice a P.length c, .int .i64 l, .slice d M.length e] 27)).alloc (.cells #[.int .i64 0, .int .i64 0, .slice none 0 0, .int .i64 0, .slice none 0 0] 27))
  have H0 := Lib.hid (And.intro hA1 (And.intro hA2 hB))
  have hs0 : ((w.alloc (.cells #[.int .i64 f, .int .i64 b, .slice a P.length c, .int .i64 l, .slice d M.length e] 27)).alloc (.cells #[.int .i64 0, .int .i64 0, .slice none 0 0, .int .i64 0, .slice none 0 0] 27)).heap.size = w.heap.size + 2 := by simp
  clear hm hA1 hA2 hB
  go_enter Tryd.func28, Tryd.ntmps28
  go_wp2_with fail
  generalize (w.alloc (.cells #[.int .i64 f, .int .i64 b, .slice a P.length c, .int .i64 l, .slice d M.length e] 27)).alloc (.cells #[.int .i64 0, .int .i64 0, .slice none 0 0, .int .i64 0, .slice none 0 0] 27) = W at *
  cases ho : rtOk (f, b, P, l, M) with
  | false =>
    have hr := Lib.hid (show r = (zRt, false) by rw [← KX.out, rtClear_no1 ho])
    refine (srok_is f b a c P l d e M ho _ HM.out).mono ?_
    rintro en w1 ⟨rfl, b1⟩
    have H1 := Lib.hid (And.intro (H0.out.2.1.below b1) (next H0.out.2.2 b1))
    clear b1 HM H0
    obtain ⟨⟨q0, q1, q2, q3, q4⟩, k0, k1, k2, k3, k4⟩ := H1.out.1
    go_wp2_with fail
    have g := H1.out.1.put (.int .i64 0) (.int .i64 0) (.slice none 0 0) (.int .i64 0) (.slice none 0 0)
    have gB := below_set5 H1.out.2 (show w.heap.size ≤ w.heap.size + 1 by omega) (.int .i64 0) (.int .i64 0) (.slice none 0 0) (.int .i64 0) (.slice none 0 0)
    obtain ⟨⟨g0, g1, g2, g3, g4⟩, _⟩ := g
    unfold set5 at g0 g1 g2 g3 g4
    exact bodyPost_ret (v := .tuple #[rtV zRt (.slice none 0 0) (.slice none 0 0), .bool false]) (by simp [results, Tryd.results28, go_sem, g0, g1, g2, g3, g4, rtV, zRt]) rfl (by rw [hr.out]; exact ⟨_, _, rfl, OwnRt.zero gB⟩)
  | true =>
    refine (srok_is f b a c P l d e M ho _ HM.out).mono ?_
    rintro en w1 ⟨rfl, b1⟩
    have H1 := Lib.hid (And.intro (H0.out.1.below b1) (And.intro (H0.out.2.1.below b1) (And.intro (next H0.out.2.2 b1) (HM.out.below b1))))
    have hs1 : w.heap.size + 2 ≤ w1.heap.size := by have := b1.size; omega
    clear b1 HM H0
    go_wp2_with fail
    cases hi : isM m with
    | false =>
      have hi' : inR m 1 9 = false := hi
      have hr := Lib.hid (show r = (zRt, false) by rw [← KX.out, rtClear_no2 hi])
      refine (in_is hi' _).mono ?_
      rintro en w2 ⟨rfl, rfl⟩
      obtain ⟨⟨q0, q1, q2, q3, q4⟩, k0, k1, k2, k3, k4⟩ := H1.out.2.1
      go_wp2_with fail
      have g := H1.out.2.1.put (.int .i64 0) (.int .i64 0) (.slice none 0 0) (.int .i64 0) (.slice none 0 0)
      have gB := below_set5 H1.out.2.2.1 (show w.heap.size ≤ w.heap.size + 1 by omega) (.int .i64 0) (.int .i64 0) (.slice none 0 0) (.int .i64 0) (.slice none 0 0)
      obtain ⟨⟨g0, g1, g2, g3, g4⟩, _⟩ := g
      unfold set5 at g0 g1 g2 g3 g4
      exact bodyPost_ret (v := .tuple #[rtV zRt (.slice none 0 0) (.slice none 0 0), .bool false]) (by simp [results, Tryd.results28, go_sem, g0, g1, g2, g3, g4, rtV, zRt]) rfl (by rw [hr.out]; exact ⟨_, _, rfl, OwnRt.zero gB⟩)
    | true =>
      have hi' : inR m 1 9 = true := hi
      have hG := (rtOk_iff _).1 ho
      have hMM : Marks M := hG.marks
      have hl9 := hMM.len
      have HMM := Lib.hid hMM
      have hr := Lib.hid (show r = ((f, b, P, l, mdel M m), true) by rw [← KX.out, rtClear_yes ho hi])
      refine (in_is hi' _).mono ?_
      rintro en w2 ⟨rfl, rfl⟩
      clear hG hMM
      obtain ⟨⟨q0, q1, q2, q3, q4⟩, k0, k1, k2, k3, k4⟩ := H1.out.1
      go_wp2_with fail
      clear q0 q1 q2 q3 q4 k0 k1 k2 k3 k4
      refine (l4copy_is f b a c P l d e M _ H1.out.2.2.2).mono ?_
      rintro en w3 ⟨pv, mv, rfl, S, oP, bP, oM, hS, b3⟩
      obtain ⟨a3, c3, rfl, _, _⟩ := OwnI.tab oP
      obtain ⟨d3, e3, rfl, _, _⟩ := OwnI.tab oM
      have hs3 := b3.size
      have H3 := Lib.hid (And.intro ((H1.out.1.below b3).alloc (.cells #[.int .i64 f, .int .i64 b, .slice a3 P.length c3, .int .i64 l, .slice d3 M.length e3] 27)) (And.intro ((H1.out.2.1.below b3).alloc (.cells #[.int .i64 f, .int .i64 b, .slice a3 P.length c3, .int .i64 l, .slice d3 M.length e3] 27)) (And.intro ((next H1.out.2.2.1 b3).alloc (next H1.out.2.2.1 b3).size (.cells #[.int .i64 f, .int .i64 b, .slice a3 P.length c3, .int .i64 l, .slice d3 M.length e3] 27)) ((H1.out.2.2.2.below b3).alloc (.cells #[.int .i64 f, .int .i64 b, .slice a3 P.length c3, .int .i64 l, .slice d3 M.length e3] 27)))))
      have HP3 := Lib.hid (And.intro (oP.alloc (.cells #[.int .i64 f, .int .i64 b, .slice a3 P.length c3, .int .i64 l, .slice d3 M.length e3] 27)) (OwnI.btw oP))
      have HC3 := Lib.hid (At5.new w3 (.int .i64 f) (.int .i64 b) (.slice a3 P.length c3) (.int .i64 l) (.slice d3 M.length e3) 27)
      clear oP bP oM hS b3
      have lt3 : w.heap.size < w3.heap.size := by omega
      have ne3 : ¬ w.heap.size = w3.heap.size := by omega
      obtain ⟨⟨q0, q1, q2, q3, q4⟩, k0, k1, k2, k3, k4⟩ := H3.out.1
      go_wp2_with fail
      clear q0 q1 q2 q3 q4 k0 k1 k2 k3 k4
      refine (l4clear_is hl9 d e _ _ rfl H3.out.2.2.2.1.2).mono ?_
      rintro en w4 ⟨v4, rfl, o4, b4⟩
      obtain ⟨a4, c4, rfl, _, _⟩ := OwnI.tab o4
      simp only [World.size_alloc] at o4
      have HF := Lib.hid (ms_end (w := w) (W0 := w1) (W1 := w3) (x0 := .int .i64 f) (x1 := .int .i64 b) (x3 := .int .i64 l) H1.out.2.2.1 (owni_later HP3.out.1 b4) HP3.out.2 o4 (H3.out.2.1.below b4) (HC3.out.below b4) hs3 hs1 (next H3.out.2.2.1 b4))
      have HC4 := Lib.hid (HC3.out.below b4)
      have HA4 := Lib.hid (H3.out.2.1.below b4)
      have ne4 : ¬ w3.heap.size = w.heap.size + 1 := by omega
      have ne5 : ¬ w.heap.size + 1 = w3.heap.size := by omega
      have lt4 : w.heap.size + 1 < w4.heap.size := HA4.out.lt
      clear o4 b4 HC3 H3 HP3
      obtain ⟨⟨q0, q1, q2, q3, q4⟩, k0, k1, k2, k3, k4⟩ := HC4.out
      obtain ⟨⟨s0, s1, s2, s3, s4⟩, r0, r1, r2, r3, r4⟩ := HA4.out
      go_wp2_with fail
      obtain ⟨⟨⟨g0, g1, g2, g3, g4⟩, _⟩, gO⟩ := HF.out
      unfold set5 at g0 g1 g2 g3 g4
      exact bodyPost_ret (v := .tuple #[.agg #[.int .i64 f, .int .i64 b, .slice a3 P.length c3, .int .i64 l, .slice a4 (mdel M m).length c4], .bool true]) (by simp [results, Tryd.results28, go_sem, g0, g1, g2, g3, g4]) rfl (by rw [hr.out]; exact ⟨_, _, rfl, gO⟩)

end Go.Proofs.YtfjfcdifnfffbaaDoor
