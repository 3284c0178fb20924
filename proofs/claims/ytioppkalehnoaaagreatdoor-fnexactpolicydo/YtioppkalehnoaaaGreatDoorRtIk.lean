/-
  The program: a route with a mark; without one.
-/
import Derived.Test.YtioppkalehnoaaaGreatDoorRtIm
namespace Go.Proofs.YtioppkalehnoaaaGreatDoor
open Go.RowKit
set_option linter.unusedSimpArgs false
set_option linter.unusedVariables false

theorem owni_setNe {W : World} {R : Nat} {v : Value} {L : List Int} (h : OwnI W R v L) {Q o : Nat} (hq : v.ownBlock ≠ some Q) (u : Value) : OwnI (W.setCell ⟨Q, o, none⟩ u) R v L :=
  h.kept (only_setCell W Q o u) (.inr hq)
/-- the answer's cells behind the last store -/
theorem ik_end {w W : World} {pv mv : Value} {P U : List Int} {A S : Nat} {z0' z1 z2 z3 z4 : Value} (x0 x1 x3 : Value) (hP : OwnI W A pv P) (bP : pBtw pv A S) (hU : OwnI W S mv U) (hA : At5 W (w.heap.size + 1) z0' z1 z2 z3 z4) (hs0 : w.heap.size + 2 ≤ A) (hS : A ≤ S) (hB : Below w.heap.size w W) :
    At5 (set5 W (w.heap.size + 1) x0 x1 pv x3 mv) (w.heap.size + 1) x0 x1 pv x3 mv ∧ OwnRt w (0, 0, P, 0, U) pv mv (set5 W (w.heap.size + 1) x0 x1 pv x3 mv) := by
  have bU := OwnI.btw hU
  exact ⟨hA.put _ _ _ _ _, S, owni_mono (owni_set5 hP bP (.inl (by omega)) _ _ _ _ _) (by omega), bP.mono (by omega) (Nat.le_refl _), owni_set5 hU bU (.inl (by omega)) _ _ _ _ _, by omega, below_set5 hB (by omega) _ _ _ _ _⟩
/-- a row of marks was written: what lies apart from it is kept -/
structure IkI (w W : World) (pv mv : Value) (P U : List Int) (A S R6 : Nat) (f b pv' l mv' : Value) : Prop where
  box : At5 W R6 f b pv' l mv'
  ans : At5 W (w.heap.size + 1) (.int .i64 0) (.int .i64 0) (.slice none 0 0) (.int .i64 0) (.slice none 0 0)
  oP : OwnI W A pv P
  bP : pBtw pv A S
  oU : OwnI W S mv U
  lo : w.heap.size + 2 ≤ A
  mid : A ≤ S
  hi : S ≤ R6
  off : mv.ownBlock ≠ some R6
  bel : Below w.heap.size w W
theorem IkI.later {w W W' : World} {pv mv : Value} {P U : List Int} {A S R6 : Nat} {f b pv' l mv' : Value} (h : IkI w W pv mv P U A S R6 f b pv' l mv') (k : Below W.heap.size W W') : IkI w W' pv mv P U A S R6 f b pv' l mv' :=
  ⟨h.box.below k, h.ans.below k, owni_later h.oP k, h.bP, owni_later h.oU k, h.lo, h.mid, h.hi, h.off, next h.bel k⟩
theorem IkI.put {w W W' : World} {pv mv mv2 : Value} {P U U2 : List Int} {A S R6 : Nat} {f b pv' l mv' : Value} (h : IkI w W pv mv P U A S R6 f b pv' l mv') (o2 : OwnI W' S mv2 U2) (g : W.grownBy W' mv.ownBlock) (hne : mv2.ownBlock ≠ some R6) : IkI w W' pv mv2 P U2 A S R6 f b pv' l mv' := by
  have hlo := h.lo
  have hmid := h.mid
  refine ⟨h.box.only g (fun e => h.off e.symm), h.ans.only g (fun e => by have := (h.oU.lt _ e.symm).1; omega), h.oP.kept g ?_, h.bP, o2, h.lo, h.mid, h.hi, hne, h.bel.grown g h.bel.size (fun k e => by have := (h.oU.lt k e).1; omega)⟩
  cases e : pv.ownBlock with
  | none => exact .inl rfl
  | some k => exact .inr (fun q => by have := (h.bP k e).2; have := (h.oU.lt k q.symm).1; omega)
theorem IkI.store {w W : World} {pv mv : Value} {P U : List Int} {A S R6 : Nat} {f b pv' l mv' : Value} (h : IkI w W pv mv P U A S R6 f b pv' l mv') : IkI w (W.setCell ⟨R6, 4, none⟩ mv) pv mv P U A S R6 f b pv' l mv := by
  have hlo := h.lo
  have hmid := h.mid
  have hhi := h.hi
  exact ⟨h.box.put4 mv, h.ans.far ⟨R6, 4, none⟩ mv (by show R6 ≠ w.heap.size + 1; omega), owni_setN h.oP h.bP (.inr hhi) mv, h.bP, owni_setNe h.oU h.off mv, h.lo, h.mid, h.hi, h.off, h.bel.setCell (p := ⟨R6, 4, none⟩) (by show w.heap.size ≤ R6; omega) mv⟩

set_option maxRecDepth 100000 in
set_option maxHeartbeats 4000000 in
theorem irtmark_is (f b : Int) (a : Option Addr) (c : Nat) (P : List Int) (l : Int) (d : Option Addr) (e : Nat) (M : List Int) {m : Int} {r : Rt × Bool} (k : rtMark (f, b, P, l, M) m = r) (w : World) (p : Addr) (hm : RtM w a c P d e M) (hE : EV w p) :
    Calls Tryz.prog 82 #[.agg #[.int .i64 f, .int .i64 b, .slice a P.length c, .int .i64 l, .slice d M.length e], .int .i64 m] w (OwnRB w r) := by
  have KX := Lib.hid k
  clear k
  obtain ⟨hA1, hA2, hB⟩ := At5.two w (.int .i64 f) (.int .i64 b) (.slice a P.length c) (.int .i64 l) (.slice d M.length e) (.int .i64 0) (.int .i64 0) (.slice none 0 0) (.int .i64 0) (.slice none 0 0) 32 32
  have HM := Lib.hid ((hm.alloc (.cells #[.int .i64 f, .int .i64 b, .slice a P.length c, .int .i64 l, .slice d M.length e] 32)).alloc (.cells #[.int .i64 0, .int .i64 0, .slice none 0 0, .int .i64 0, .slice none 0 0] 32))
  have HE := Lib.hid ((hE.alloc (.cells #[.int .i64 f, .int .i64 b, .slice a P.length c, .int .i64 l, .slice d M.length e] 32)).alloc (.cells #[.int .i64 0, .int .i64 0, .slice none 0 0, .int .i64 0, .slice none 0 0] 32))
  have H0 := Lib.hid (And.intro hA1 (And.intro hA2 hB))
  have hs0 : ((w.alloc (.cells #[.int .i64 f, .int .i64 b, .slice a P.length c, .int .i64 l, .slice d M.length e] 32)).alloc (.cells #[.int .i64 0, .int .i64 0, .slice none 0 0, .int .i64 0, .slice none 0 0] 32)).heap.size = w.heap.size + 2 := by simp
  clear hm hE hA1 hA2 hB
  go_enter Tryz.func82, Tryz.ntmps82
  go_wp2_with fail
  generalize (w.alloc (.cells #[.int .i64 f, .int .i64 b, .slice a P.length c, .int .i64 l, .slice d M.length e] 32)).alloc (.cells #[.int .i64 0, .int .i64 0, .slice none 0 0, .int .i64 0, .slice none 0 0] 32) = W at *
  cases ho : rtOk (f, b, P, l, M) with
  | false =>
    have hr := Lib.hid (show r = (zRt, false) by rw [← KX.out, rtMark_no1 ho])
    refine (riok_is f b a c P l d e M ho _ p HM.out HE.out).mono ?_
    rintro en w1 ⟨rfl, b1⟩
    have H1 := Lib.hid (And.intro (H0.out.1.below b1) (And.intro (H0.out.2.1.below b1) (And.intro (next H0.out.2.2 b1) (HM.out.below b1))))
    clear b1 HM H0
    obtain ⟨⟨q0, q1, q2, q3, q4⟩, k0, k1, k2, k3, k4⟩ := H1.out.2.1
    go_wp2_with fail
    have g := H1.out.2.1.put (.int .i64 0) (.int .i64 0) (.slice none 0 0) (.int .i64 0) (.slice none 0 0)
    have gB := below_set5 H1.out.2.2.1 (show w.heap.size ≤ w.heap.size + 1 by omega) (.int .i64 0) (.int .i64 0) (.slice none 0 0) (.int .i64 0) (.slice none 0 0)
    obtain ⟨⟨g0, g1, g2, g3, g4⟩, _⟩ := g
    unfold set5 at g0 g1 g2 g3 g4
    exact bodyPost_ret (v := .tuple #[rtV zRt (.slice none 0 0) (.slice none 0 0), .bool false]) (by simp [results, Tryz.results82, go_sem, g0, g1, g2, g3, g4, rtV, zRt]) rfl (by rw [hr.out]; exact ⟨_, _, rfl, OwnRt.zero gB⟩)
  | true =>
    refine (riok_is f b a c P l d e M ho _ p HM.out HE.out).mono ?_
    rintro en w1 ⟨rfl, b1⟩
    have H1 := Lib.hid (And.intro (H0.out.1.below b1) (And.intro (H0.out.2.1.below b1) (And.intro (next H0.out.2.2 b1) (HM.out.below b1))))
    have hs1 : w.heap.size + 2 ≤ w1.heap.size := by have := b1.size; omega
    clear b1 HM H0 HE
    go_wp2_with fail
    cases hi : isM m with
    | false =>
      have hr := Lib.hid (show r = (zRt, false) by rw [← KX.out, rtMark_no2 hi])
      refine (imark_is hi _).mono ?_
      rintro en w2 ⟨rfl, rfl⟩
      obtain ⟨⟨q0, q1, q2, q3, q4⟩, k0, k1, k2, k3, k4⟩ := H1.out.2.1
      go_wp2_with fail
      have g := H1.out.2.1.put (.int .i64 0) (.int .i64 0) (.slice none 0 0) (.int .i64 0) (.slice none 0 0)
      have gB := below_set5 H1.out.2.2.1 (show w.heap.size ≤ w.heap.size + 1 by omega) (.int .i64 0) (.int .i64 0) (.slice none 0 0) (.int .i64 0) (.slice none 0 0)
      obtain ⟨⟨g0, g1, g2, g3, g4⟩, _⟩ := g
      unfold set5 at g0 g1 g2 g3 g4
      exact bodyPost_ret (v := .tuple #[rtV zRt (.slice none 0 0) (.slice none 0 0), .bool false]) (by simp [results, Tryz.results82, go_sem, g0, g1, g2, g3, g4, rtV, zRt]) rfl (by rw [hr.out]; exact ⟨_, _, rfl, OwnRt.zero gB⟩)
    | true =>
      have hG := (rtOk_iff _).1 ho
      have hMM : Marks M := hG.marks
      have hl9 := hMM.len
      have HMM := Lib.hid hMM
      have hr := Lib.hid (show r = ((f, b, P, l, mins M m), true) by rw [← KX.out, rtMark_yes ho hi])
      refine (imark_is hi _).mono ?_
      rintro en w2 ⟨rfl, rfl⟩
      clear hG hMM
      obtain ⟨⟨q0, q1, q2, q3, q4⟩, k0, k1, k2, k3, k4⟩ := H1.out.1
      go_wp2_with fail
      clear q0 q1 q2 q3 q4 k0 k1 k2 k3 k4
      refine (copied_is f b a c P l d e M _ H1.out.2.2.2).mono ?_
      rintro en w3 ⟨pv, mv, rfl, S, oP, bP, oM, hS, b3⟩
      obtain ⟨a3, c3, rfl, _, _⟩ := OwnI.tab oP
      obtain ⟨d3, e3, rfl, _, _⟩ := OwnI.tab oM
      have hs3 := b3.size
      have hI3 : IkI w (w3.alloc (.cells #[.int .i64 f, .int .i64 b, .slice a3 P.length c3, .int .i64 l, .slice d3 M.length e3] 32)) (.slice a3 P.length c3) (.slice d3 M.length e3) P M w1.heap.size (min S w3.heap.size) w3.heap.size (.int .i64 f) (.int .i64 b) (.slice a3 P.length c3) (.int .i64 l) (.slice d3 M.length e3) :=
        ⟨At5.new w3 _ _ _ _ _ _, (H1.out.2.1.below b3).alloc _, oP.alloc _, fun k e => ⟨(bP k e).1, by have := (bP k e).2; have := (oP.lt k e).2; omega⟩, owni_mono (oM.alloc _) (Nat.min_le_left _ _), by omega, by omega, Nat.min_le_right _ _, fun e => by have := (oM.lt _ e).2; omega, (next H1.out.2.2.1 b3).alloc (next H1.out.2.2.1 b3).size _⟩
      have I3 := Lib.hid hI3
      clear oP bP oM hS b3 hI3
      generalize min S w3.heap.size = S' at *
      have lt3 : w.heap.size + 1 < w3.heap.size := by omega
      go_wp2_with fail
      refine (bsearch_is HMM.out.2 d3 e3 _ _ rfl (OwnI.intA I3.out.oU).2.2 (by omega)).mono ?_
      rintro en w5 ⟨rfl, b5⟩
      have I5 := Lib.hid (I3.out.later b5)
      have lt5 : w3.heap.size < w5.heap.size := I5.out.box.lt
      clear b5 I3
      by_cases hmem : m ∈ M
      · have hd : decide (m ∈ M) = true := decide_eq_true hmem
        have hins := mins_there HMM.out.2 hmem
        rw [hins] at hr
        rw [hd]
        clear hmem
        obtain ⟨⟨q0, q1, q2, q3, q4⟩, k0, k1, k2, k3, k4⟩ := I5.out.box
        obtain ⟨⟨s0, s1, s2, s3, s4⟩, r0, r1, r2, r3, r4⟩ := I5.out.ans
        go_wp2_with fail
        have HF := Lib.hid (ik_end (w := w) (.int .i64 f) (.int .i64 b) (.int .i64 l) I5.out.oP I5.out.bP I5.out.oU I5.out.ans I5.out.lo I5.out.mid I5.out.bel)
        obtain ⟨⟨⟨g0, g1, g2, g3, g4⟩, _⟩, gO⟩ := HF.out
        unfold set5 at g0 g1 g2 g3 g4
        exact bodyPost_ret (v := .tuple #[.agg #[.int .i64 f, .int .i64 b, .slice a3 P.length c3, .int .i64 l, .slice d3 M.length e3], .bool true]) (by simp [results, Tryz.results82, go_sem, g0, g1, g2, g3, g4]) rfl (by rw [hr.out]; exact ⟨_, _, rfl, gO⟩)
      · have hd : decide (m ∈ M) = false := decide_eq_false hmem
        have hins := mins_new HMM.out.2 hmem
        rw [hd]
        have hcnt := List.countP_le_length (p := fun x => decide (x < m)) (l := M)
        generalize M.countP (fun x => decide (x < m)) = i at *
        have HIns := Lib.hid hins
        clear hins hmem
        obtain ⟨⟨q0, q1, q2, q3, q4⟩, k0, k1, k2, k3, k4⟩ := I5.out.box
        go_wp2_with fail
        refine (insert_is (.slice d3 M.length e3) S' w5 I5.out.oU hcnt (by omega) (by have := I5.out.hi; omega)).mono ?_
        rintro en w6 ⟨v6, rfl, o6, g6, n6⟩
        rw [HIns.out] at o6
        obtain ⟨a6, c6, rfl, _, _⟩ := OwnI.tab o6
        have I6 := Lib.hid ((I5.out.later ((Below.refl _ _).alloc (Nat.le_refl _) (.cells #[.int .i64 m] 3))).put o6 g6 (fun e => by rcases n6 _ e with q | q; exact I5.out.off q; simp at q; omega))
        clear o6 g6 n6 q0 q1 q2 q3 q4 k0 k1 k2 k3 k4 I5
        have I7 := Lib.hid I6.out.store
        have ne7 : ¬ w3.heap.size = w.heap.size + 1 := by omega
        have ne8 : ¬ w.heap.size + 1 = w3.heap.size := by omega
        obtain ⟨⟨q0, q1, q2, q3, q4⟩, k0, k1, k2, k3, k4⟩ := I6.out.box
        obtain ⟨⟨s0, s1, s2, s3, s4⟩, r0, r1, r2, r3, r4⟩ := I6.out.ans
        go_wp2_with fail
        have HF := Lib.hid (ik_end (w := w) (.int .i64 f) (.int .i64 b) (.int .i64 l) I7.out.oP I7.out.bP I7.out.oU I7.out.ans I7.out.lo I7.out.mid I7.out.bel)
        obtain ⟨⟨⟨g0, g1, g2, g3, g4⟩, _⟩, gO⟩ := HF.out
        unfold set5 at g0 g1 g2 g3 g4
        exact bodyPost_ret (v := .tuple #[.agg #[.int .i64 f, .int .i64 b, .slice a3 P.length c3, .int .i64 l, .slice a6 (mins M m).length c6], .bool true]) (by simp [results, Tryz.results82, go_sem, g0, g1, g2, g3, g4]) rfl (by rw [hr.out]; exact ⟨_, _, rfl, gO⟩)

set_option maxRecDepth 100000 in
set_option maxHeartbeats 4000000 in
theorem irtclear_is (f b : Int) (a : Option Addr) (c : Nat) (P : List Int) (l : Int) (d : Option Addr) (e : Nat) (M : List Int) {m : Int} {r : Rt × Bool} (k : rtClear (f, b, P, l, M) m = r) (w : World) (p : Addr) (hm : RtM w a c P d e M) (hE : EV w p) :
    Calls Tryz.prog 83 #[.agg #[.int .i64 f, .int .i64 b, .slice a P.length c, .int .i64 l, .slice d M.length e], .int .i64 m] w (OwnRB w r) := by
  have KX := Lib.hid k
  clear k
  obtain ⟨hA1, hA2, hB⟩ := At5.two w (.int .i64 f) (.int .i64 b) (.slice a P.length c) (.int .i64 l) (.slice d M.length e) (.int .i64 0) (.int .i64 0) (.slice none 0 0) (.int .i64 0) (.slice none 0 0) 32 32
  have HM := Lib.hid ((hm.alloc (.cells #[.int .i64 f, .int .i64 b, .slice a P.length c, .int .i64 l, .slice d M.length e] 32)).alloc (.cells #[.int .i64 0, .int .i64 0, .slice none 0 0, .int .i64 0, .slice none 0 0] 32))
  have HE := Lib.hid ((hE.alloc (.cells #[.int .i64 f, .int .i64 b, .slice a P.length c, .int .i64 l, .slice d M.length e] 32)).alloc (.cells #[.int .i64 0, .int .i64 0, .slice none 0 0, .int .i64 0, .slice none 0 0] 32))
  have H0 := Lib.hid (And.intro hA1 (And.intro hA2 hB))
  have hs0 : ((w.alloc (.cells #[.int .i64 f, .int .i64 b, .slice a P.length c, .int .i64 l, .slice d M.length e] 32)).alloc (.cells #[.int .i64 0, .int .i64 0, .slice none 0 0, .int .i64 0, .slice none 0 0] 32)).heap.size = w.heap.size + 2 := by simp
  clear hm hE hA1 hA2 hB
  go_enter Tryz.func83, Tryz.ntmps83
  go_wp2_with fail
  generalize (w.alloc (.cells #[.int .i64 f, .int .i64 b, .slice a P.length c, .int .i64 l, .slice d M.length e] 32)).alloc (.cells #[.int .i64 0, .int .i64 0, .slice none 0 0, .int .i64 0, .slice none 0 0] 32) = W at *
  cases ho : rtOk (f, b, P, l, M) with
  | false =>
    have hr := Lib.hid (show r = (zRt, false) by rw [← KX.out, rtClear_no1 ho])
    refine (riok_is f b a c P l d e M ho _ p HM.out HE.out).mono ?_
    rintro en w1 ⟨rfl, b1⟩
    have H1 := Lib.hid (And.intro (H0.out.1.below b1) (And.intro (H0.out.2.1.below b1) (And.intro (next H0.out.2.2 b1) (HM.out.below b1))))
    clear b1 HM H0
    obtain ⟨⟨q0, q1, q2, q3, q4⟩, k0, k1, k2, k3, k4⟩ := H1.out.2.1
    go_wp2_with fail
    have g := H1.out.2.1.put (.int .i64 0) (.int .i64 0) (.slice none 0 0) (.int .i64 0) (.slice none 0 0)
    have gB := below_set5 H1.out.2.2.1 (show w.heap.size ≤ w.heap.size + 1 by omega) (.int .i64 0) (.int .i64 0) (.slice none 0 0) (.int .i64 0) (.slice none 0 0)
    obtain ⟨⟨g0, g1, g2, g3, g4⟩, _⟩ := g
    unfold set5 at g0 g1 g2 g3 g4
    exact bodyPost_ret (v := .tuple #[rtV zRt (.slice none 0 0) (.slice none 0 0), .bool false]) (by simp [results, Tryz.results83, go_sem, g0, g1, g2, g3, g4, rtV, zRt]) rfl (by rw [hr.out]; exact ⟨_, _, rfl, OwnRt.zero gB⟩)
  | true =>
    refine (riok_is f b a c P l d e M ho _ p HM.out HE.out).mono ?_
    rintro en w1 ⟨rfl, b1⟩
    have H1 := Lib.hid (And.intro (H0.out.1.below b1) (And.intro (H0.out.2.1.below b1) (And.intro (next H0.out.2.2 b1) (HM.out.below b1))))
    have hs1 : w.heap.size + 2 ≤ w1.heap.size := by have := b1.size; omega
    clear b1 HM H0 HE
    go_wp2_with fail
    cases hi : isM m with
    | false =>
      have hr := Lib.hid (show r = (zRt, false) by rw [← KX.out, rtClear_no2 hi])
      refine (imark_is hi _).mono ?_
      rintro en w2 ⟨rfl, rfl⟩
      obtain ⟨⟨q0, q1, q2, q3, q4⟩, k0, k1, k2, k3, k4⟩ := H1.out.2.1
      go_wp2_with fail
      have g := H1.out.2.1.put (.int .i64 0) (.int .i64 0) (.slice none 0 0) (.int .i64 0) (.slice none 0 0)
      have gB := below_set5 H1.out.2.2.1 (show w.heap.size ≤ w.heap.size + 1 by omega) (.int .i64 0) (.int .i64 0) (.slice none 0 0) (.int .i64 0) (.slice none 0 0)
      obtain ⟨⟨g0, g1, g2, g3, g4⟩, _⟩ := g
      unfold set5 at g0 g1 g2 g3 g4
      exact bodyPost_ret (v := .tuple #[rtV zRt (.slice none 0 0) (.slice none 0 0), .bool false]) (by simp [results, Tryz.results83, go_sem, g0, g1, g2, g3, g4, rtV, zRt]) rfl (by rw [hr.out]; exact ⟨_, _, rfl, OwnRt.zero gB⟩)
    | true =>
      have hG := (rtOk_iff _).1 ho
      have hMM : Marks M := hG.marks
      have hl9 := hMM.len
      have HMM := Lib.hid hMM
      have hr := Lib.hid (show r = ((f, b, P, l, mdel M m), true) by rw [← KX.out, rtClear_yes ho hi])
      refine (imark_is hi _).mono ?_
      rintro en w2 ⟨rfl, rfl⟩
      clear hG hMM
      obtain ⟨⟨q0, q1, q2, q3, q4⟩, k0, k1, k2, k3, k4⟩ := H1.out.1
      go_wp2_with fail
      clear q0 q1 q2 q3 q4 k0 k1 k2 k3 k4
      refine (copied_is f b a c P l d e M _ H1.out.2.2.2).mono ?_
      rintro en w3 ⟨pv, mv, rfl, S, oP, bP, oM, hS, b3⟩
      obtain ⟨a3, c3, rfl, _, _⟩ := OwnI.tab oP
      obtain ⟨d3, e3, rfl, _, _⟩ := OwnI.tab oM
      have hs3 := b3.size
      have hI3 : IkI w (w3.alloc (.cells #[.int .i64 f, .int .i64 b, .slice a3 P.length c3, .int .i64 l, .slice d3 M.length e3] 32)) (.slice a3 P.length c3) (.slice d3 M.length e3) P M w1.heap.size (min S w3.heap.size) w3.heap.size (.int .i64 f) (.int .i64 b) (.slice a3 P.length c3) (.int .i64 l) (.slice d3 M.length e3) :=
        ⟨At5.new w3 _ _ _ _ _ _, (H1.out.2.1.below b3).alloc _, oP.alloc _, fun k e => ⟨(bP k e).1, by have := (bP k e).2; have := (oP.lt k e).2; omega⟩, owni_mono (oM.alloc _) (Nat.min_le_left _ _), by omega, by omega, Nat.min_le_right _ _, fun e => by have := (oM.lt _ e).2; omega, (next H1.out.2.2.1 b3).alloc (next H1.out.2.2.1 b3).size _⟩
      have I3 := Lib.hid hI3
      clear oP bP oM hS b3 hI3
      generalize min S w3.heap.size = S' at *
      have lt3 : w.heap.size + 1 < w3.heap.size := by omega
      go_wp2_with fail
      refine (bsearch_is HMM.out.2 d3 e3 _ _ rfl (OwnI.intA I3.out.oU).2.2 (by omega)).mono ?_
      rintro en w5 ⟨rfl, b5⟩
      have I5 := Lib.hid (I3.out.later b5)
      have lt5 : w3.heap.size < w5.heap.size := I5.out.box.lt
      clear b5 I3
      by_cases hmem : m ∈ M
      · have hd : decide (m ∈ M) = true := decide_eq_true hmem
        have hins := mdel_there HMM.out.2 hmem
        rw [hd]
        have hcnt : M.countP (fun x => decide (x < m)) < M.length := by
          have h1 := mdel_there HMM.out.2 hmem
          by_cases q : M.countP (fun x => decide (x < m)) < M.length
          · exact q
          · have h2 := List.countP_le_length (p := fun x => decide (x < m)) (l := M)
            have h3 : M.countP (fun x => decide (x < m)) = M.length := by omega
            have h4 := List.countP_eq_length.1 h3 m hmem
            simp at h4
        generalize M.countP (fun x => decide (x < m)) = i at *
        have HIns := Lib.hid hins
        have i6 : IntKind.i64.wrap ((i : Int) + 1) = (i : Int) + 1 := by rw [IntKind.wrap_i64]; omega
        clear hins hmem
        obtain ⟨⟨q0, q1, q2, q3, q4⟩, k0, k1, k2, k3, k4⟩ := I5.out.box
        go_wp2_with fail
        refine (delete_is (i := i) (.slice d3 M.length e3) S' w5 I5.out.oU hcnt (by omega)).mono ?_
        rintro en w6 ⟨v6, rfl, o6, g6, n6⟩
        rw [HIns.out] at o6
        have n7 : v6.ownBlock ≠ some w3.heap.size := by rw [n6]; exact I5.out.off
        obtain ⟨a6, c6, rfl, _, _⟩ := OwnI.tab o6
        have I6 := Lib.hid (I5.out.put o6 g6 n7)
        clear o6 g6 n6 n7 q0 q1 q2 q3 q4 k0 k1 k2 k3 k4 I5
        have I7 := Lib.hid I6.out.store
        have ne7 : ¬ w3.heap.size = w.heap.size + 1 := by omega
        have ne8 : ¬ w.heap.size + 1 = w3.heap.size := by omega
        obtain ⟨⟨q0, q1, q2, q3, q4⟩, k0, k1, k2, k3, k4⟩ := I6.out.box
        obtain ⟨⟨s0, s1, s2, s3, s4⟩, r0, r1, r2, r3, r4⟩ := I6.out.ans
        go_wp2_with fail
        have HF := Lib.hid (ik_end (w := w) (.int .i64 f) (.int .i64 b) (.int .i64 l) I7.out.oP I7.out.bP I7.out.oU I7.out.ans I7.out.lo I7.out.mid I7.out.bel)
        obtain ⟨⟨⟨g0, g1, g2, g3, g4⟩, _⟩, gO⟩ := HF.out
        unfold set5 at g0 g1 g2 g3 g4
        exact bodyPost_ret (v := .tuple #[.agg #[.int .i64 f, .int .i64 b, .slice a3 P.length c3, .int .i64 l, .slice a6 (mdel M m).length c6], .bool true]) (by simp [results, Tryz.results83, go_sem, g0, g1, g2, g3, g4]) rfl (by rw [hr.out]; exact ⟨_, _, rfl, gO⟩)
      · have hd : decide (m ∈ M) = false := decide_eq_false hmem
        have hins := mdel_none hmem
        rw [hins] at hr
        rw [hd]
        clear hmem
        obtain ⟨⟨q0, q1, q2, q3, q4⟩, k0, k1, k2, k3, k4⟩ := I5.out.box
        obtain ⟨⟨s0, s1, s2, s3, s4⟩, r0, r1, r2, r3, r4⟩ := I5.out.ans
        go_wp2_with fail
        have HF := Lib.hid (ik_end (w := w) (.int .i64 f) (.int .i64 b) (.int .i64 l) I5.out.oP I5.out.bP I5.out.oU I5.out.ans I5.out.lo I5.out.mid I5.out.bel)
        obtain ⟨⟨⟨g0, g1, g2, g3, g4⟩, _⟩, gO⟩ := HF.out
        unfold set5 at g0 g1 g2 g3 g4
        exact bodyPost_ret (v := .tuple #[.agg #[.int .i64 f, .int .i64 b, .slice a3 P.length c3, .int .i64 l, .slice d3 M.length e3], .bool true]) (by simp [results, Tryz.results83, go_sem, g0, g1, g2, g3, g4]) rfl (by rw [hr.out]; exact ⟨_, _, rfl, gO⟩)

end Go.Proofs.YtioppkalehnoaaaGreatDoor
