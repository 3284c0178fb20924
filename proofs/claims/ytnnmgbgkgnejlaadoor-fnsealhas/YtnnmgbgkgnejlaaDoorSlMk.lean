/-
  The seals of a route, by the document's model: SealMake.
-/
import Derived.Test.YtnnmgbgkgnejlaaDoorSlOf
namespace Go.Proofs.YtnnmgbgkgnejlaaDoor
open Go.RowKit
set_option linter.unusedSimpArgs false
set_option linter.unusedVariables false

/-- can the route be told to that house -/
def tellB (f b : Int) (P : List Int) (l : Int) (M : List Int) (t : Int) : Bool := rtOk (f, b, P, l, M) && isH t && !decide (t ∈ P)
def makeS (f b : Int) (P : List Int) (l : Int) (M : List Int) (t : Int) : List SP := if tellB f b P l M t then sealsOf f b t P else []
theorem seals_take {f b t : Int} {P : List Int} {i : Nat} (hi : i < P.length) : (sealsOf f b t P).take (i + 1) = (sealsOf f b t P).take i ++ [sealAt f b t P i] := by
  rw [List.take_add_one, sealsOf_at f b t P i hi]; rfl
/-- numbers that fit -/
def Iv (p : Int) : Prop := -9223372036854775808 ≤ p ∧ p ≤ 9223372036854775807
structure SpW (p : SP) : Prop where
  y : Iv p.y
  t : Iv p.t
  f : Iv p.f
  b : Iv p.b
  P : ∀ x ∈ p.P, Iv x
theorem tellB_rt {f b l t : Int} {P M : List Int} (h : tellB f b P l M t = true) : rtOk (f, b, P, l, M) = true ∧ (1 ≤ t ∧ t ≤ 5) ∧ t ∉ P := by
  unfold tellB at h
  simp only [Bool.and_eq_true, Bool.not_eq_true', decide_eq_false_iff_not] at h
  exact ⟨h.1.1, (isH_iff t).1 h.1.2, h.2⟩
theorem sealAt_w {f b l t : Int} {P M : List Int} (h : tellB f b P l M t = true) (i : Nat) : SpW (sealAt f b t P i) := by
  obtain ⟨hr, ht, _⟩ := tellB_rt h
  have g := (rtOk_iff _).1 hr
  have hran := g.ran
  unfold okB at hran
  have hran' := of_decide_eq_true hran
  have hP : ∀ x ∈ P, Iv x := fun x hx => by have := g.path.1 x hx; unfold Iv; omega
  have hD : ∀ i, Iv (P.getD i 0) := fun i => by
    by_cases hi : i < P.length
    · rw [List.getD_eq_getElem?_getD, List.getElem?_eq_getElem hi]; exact hP _ (List.getElem_mem hi)
    · rw [List.getD_eq_getElem?_getD, List.getElem?_eq_none (by omega)]; unfold Iv; simp
  refine ⟨hD i, ?_, ?_, ?_, fun x hx => hP x (List.mem_of_mem_drop hx)⟩
  · show Iv (whomAt t P i)
    unfold whomAt
    split
    · unfold Iv; omega
    · exact hD _
  · show Iv f; unfold Iv; simp only at hran'; omega
  · show Iv b; unfold Iv; simp only at hran'; omega
theorem makeS_mem {f b l t : Int} {P M : List Int} {p : SP} (h : p ∈ makeS f b P l M t) : SpW p := by
  unfold makeS at h
  split at h
  · rename_i hk
    obtain ⟨i, hi⟩ := List.mem_iff_getElem?.1 h
    have hl : i < P.length := by have := (List.getElem?_eq_some_iff.1 hi).1; rw [sealsOf_len] at this; exact this
    rw [sealsOf_at f b t P i hl] at hi
    cases hi
    exact sealAt_w hk i
  · cases h
theorem makeS_w {f b l t : Int} {P M : List Int} {L : List SV} (h : sealsP L = makeS f b P l M t) : ∀ x ∈ L, SpW x.p := fun x hx => makeS_mem (M := M) (l := l) (f := f) (b := b) (t := t) (P := P) (by rw [← h]; exact List.mem_map_of_mem hx)
/-- a drawn seal is small -/
def Sx (x : SV) : Prop := x.P.length ≤ 6 ∧ SpW x.p
/-- what comes back -/
def MkEnd (w : World) (Q : List SP) (n : Nat) (e : Ending) (w' : World) : Prop := ∃ (v : Value) (L : List SV), e = .returned v ∧ SlR w' w.heap.size v L ∧ sealsP L = Q ∧ (∀ x ∈ L, x.P.length ≤ n) ∧ Below w.heap.size w w'
set_option maxRecDepth 100000 in
set_option maxHeartbeats 4000000 in
theorem ssealmake_is (f b : Int) (a : Option Addr) (c : Nat) (P : List Int) (l : Int) (d : Option Addr) (e : Nat) (M : List Int) (tt : Int) {Q : List SP} (hQ : makeS f b P l M tt = Q) (w : World) (hm : RtM w a c P d e M) :
    Calls Tryd.prog 19 #[.agg #[.int .i64 f, .int .i64 b, .slice a P.length c, .int .i64 l, .slice d M.length e], .int .i64 tt] w (MkEnd w Q P.length) := by
  have HX := Lib.hid hQ
  have hPl := hm.2.2.2.1
  obtain ⟨W, hW⟩ : ∃ W, (w.alloc (.cells #[.int .i64 f, .int .i64 b, .slice a P.length c, .int .i64 l, .slice d M.length e] 27)).alloc (.cells #[] 34) = W := ⟨_, rfl⟩
  have hb : Below w.heap.size w W := by rw [← hW]; exact ((Below.refl _ _).alloc (Nat.le_refl _) _).alloc (by simp) _
  have BX := Lib.hid (show AtY W w.heap.size [.int .i64 f, .int .i64 b, .slice a P.length c, .int .i64 l, .slice d M.length e] by rw [← hW]; exact (AtY.new5 w _ _ _ _ _ _).below ((Below.refl _ _).alloc (Nat.le_refl _) _))
  have S0 := Lib.hid (show SlR W (w.heap.size + 1) (.slice (some ⟨w.heap.size + 1, 0, none⟩) 0 0) [] by
    rw [← hW]
    have h1 := slr_empty (w.alloc (.cells #[.int .i64 f, .int .i64 b, .slice a P.length c, .int .i64 l, .slice d M.length e] 27)) (w.heap.size + 1) (by simp)
    simp only [World.size_alloc] at h1
    exact h1)
  have hWs : w.heap.size + 1 ≤ W.heap.size := by rw [← hW]; simp
  have HB := Lib.hid hb
  have HM := Lib.hid (hm.below hb)
  obtain ⟨q0, q1, q2, q3, q4⟩ := BX.out.five
  clear hQ hb
  go_enter Tryd.func19, Tryd.ntmps19
  go_wp2_with fail
  cases ho : rtOk (f, b, P, l, M) with
  | false =>
    have HZ := Lib.hid (show [] = Q by rw [← HX.out, makeS, tellB, ho]; rfl)
    refine (srok_is f b a c P l d e M ho _ HM.out).mono ?_
    rintro en w1 ⟨rfl, b1⟩
    have HB1 := Lib.hid (next HB.out b1)
    have S1 := Lib.hid ((S0.out.later b1).mono (show w.heap.size ≤ w.heap.size + 1 by omega))
    clear b1
    go_wp2_with fail
    go_ret
    exact ⟨_, [], rfl, S1.out, HZ.out, fun x hx => (by cases hx), HB1.out⟩
  | true =>
    refine (srok_is f b a c P l d e M ho _ HM.out).mono ?_
    rintro en w1 ⟨rfl, b1⟩
    have HB1 := Lib.hid (next HB.out b1)
    have S1 := Lib.hid (S0.out.later b1)
    have BX1 := Lib.hid (BX.out.below b1)
    have HM1 := Lib.hid (HM.out.below b1)
    have hs1 := b1.size
    clear b1 q0 q1 q2 q3 q4 BX S0 HM hW
    obtain ⟨q0, q1, q2, q3, q4⟩ := BX1.out.five
    go_wp2_with fail
    cases hh : isH tt with
    | false =>
      have HZ := Lib.hid (show [] = Q by rw [← HX.out, makeS, tellB, ho, hh]; rfl)
      refine (shouse_is hh _).mono ?_
      rintro en wq ⟨rfl, rfl⟩
      have S2 := Lib.hid (S1.out.mono (show w.heap.size ≤ w.heap.size + 1 by omega))
      go_wp2_with fail
      go_ret
      exact ⟨_, [], rfl, S2.out, HZ.out, fun x hx => (by cases hx), HB1.out⟩
    | true =>
      refine (shouse_is hh _).mono ?_
      rintro en wq ⟨rfl, rfl⟩
      go_wp2_with fail
      cases hp : decide (tt ∈ P) with
      | true =>
        have HZ := Lib.hid (show [] = Q by rw [← HX.out, makeS, tellB, ho, hh, hp]; rfl)
        refine (pshas_is hp a c _ _ rfl HM1.out.1.1 (by omega)).mono ?_
        rintro en wq ⟨rfl, rfl⟩
        have S2 := Lib.hid (S1.out.mono (show w.heap.size ≤ w.heap.size + 1 by omega))
        go_wp2_with fail
        go_ret
        exact ⟨_, [], rfl, S2.out, HZ.out, fun x hx => (by cases hx), HB1.out⟩
      | false =>
        have HZ := Lib.hid (show sealsOf f b tt P = Q by rw [← HX.out, makeS, tellB, ho, hh, hp]; rfl)
        refine (pshas_is hp a c _ _ rfl HM1.out.1.1 (by omega)).mono ?_
        rintro en wq ⟨rfl, rfl⟩
        clear ho hh hp
        go_wp2_with fail
        go_loopw [5, 6] (fun s i wr => ∃ I : Nat, I ≤ P.length ∧ i = .int .i64 I ∧ (∃ L : List SV, L.length ≤ I ∧ Hid (SlR wr (w.heap.size + 1) s L) ∧ Hid (sealsP L = (sealsOf f b tt P).take I) ∧ Hid (∀ x ∈ L, x.P.length ≤ P.length)) ∧ Hid (Below w1.heap.size w1 wr ∨ True) ∧ Hid (AtY wr w.heap.size [.int .i64 f, .int .i64 b, .slice a P.length c, .int .i64 l, .slice d M.length e] ∧ RtM wr a c P d e M ∧ Below w.heap.size w wr)) (fun _ i _ => P.length - (intOf i).toNat)
        case atStart => exact ⟨0, Nat.zero_le _, rfl, ⟨[], Nat.le_refl _, S1, Lib.hid rfl, Lib.hid (fun x hx => by cases hx)⟩, Lib.hid (.inr trivial), Lib.hid ⟨BX1.out, HM1.out, HB1.out⟩⟩
        case round =>
          clear S1 BX1 HM1 HB1 q0 q1 q2 q3 q4
          obtain ⟨I, hI, rfl, ⟨L, lL, HS, HQ, HLN⟩, _, HW⟩ := hrel
          obtain ⟨ta, tc, rfl, _⟩ := OwnSl.tab HS.out.row
          obtain ⟨q0, q1, q2, q3, q4⟩ := HW.out.1.five
          by_cases hlt : I < P.length
          · have i1 : (I : Int) < (P.length : Int) := by omega
            have HTK := Lib.hid (seals_take (f := f) (b := b) (t := tt) hlt)
            have hwB := HW.out.2.2.size
            have hwL := HW.out.1.lt (by simp)
            go_wp2_with fail
            refine (sof13_is f b a c P l d e M tt I hlt _ ⟨HW.out.2.1.1.1, HW.out.2.1.2.1, hPl⟩).mono ?_
            rintro en w5 ⟨a5, c5, rfl, o5, b5⟩
            obtain ⟨y, hy⟩ : ∃ y : SV, (⟨P.getD I 0, whomAt tt P I, f, b, a5, c5, P.drop I⟩ : SV) = y := ⟨_, rfl⟩
            have hyp : y.p = sealAt f b tt P I := by rw [← hy]; rfl
            have hyl : y.P.length ≤ P.length := by rw [← hy]; simp
            have Y5 := Lib.hid (show OwnI w5 wr.heap.size y.s y.P by rw [← hy]; exact o5)
            have S5 := Lib.hid (HS.out.later b5)
            have W5 := Lib.hid (And.intro (HW.out.1.below b5) (And.intro (HW.out.2.1.below b5) (next HW.out.2.2 b5)))
            have LT := Lib.hid (SlR.lt HS.out)
            have hs5 := b5.size
            have HYP := Lib.hid (And.intro hyp hyl)
            rw [hy]
            clear b5 o5 hy hyp hyl q0 q1 q2 q3 q4 HS HW
            obtain ⟨yy, yt, yf, yb, ya, yc, yP⟩ := y
            go_wp2_with (at_builtin; refine wpList_appSl rfl (.tmp 30) (.tmp 35) rfl (w.heap.size + 1) (.slice ta L.length tc) L ?s1 ?o1 w5.heap.size 1 1 [⟨yy, yt, yf, yb, ya, yc, yP⟩] rfl ?x1 ?m1 (by simp; omega) ?r1 ?h1)
            try case s1 => rfl
            try case o1 => exact (S5.out.alloc _).row
            try case x1 => rfl
            try case m1 =>
              intro j u hj
              have h5 := AtY.new5 w5 (.int .i64 yy) (.int .i64 yt) (.int .i64 yf) (.int .i64 yb) (.slice ya yP.length yc) 34
              exact (h5 j u (by simpa [cellsSl, SV.cells] using hj)).1
            try case r1 => (have := W5.out.2.2.size; simp; omega)
            intro v6 w6 own6 grow6
            have S6 := Lib.hid (SlR.app (S5.out.alloc _) (by have := hwL; omega) LT.out (World.ownsRow.alloc Y5.out _) own6 grow6)
            have hR6 : ∀ k, (Value.slice ta L.length tc).ownBlock = some k → w.heap.size + 1 ≤ k := fun k hk => (World.ownsRow.lt S5.out.row k hk).1
            have W6 := Lib.hid (show AtY w6 w.heap.size [.int .i64 f, .int .i64 b, .slice a P.length c, .int .i64 l, .slice d M.length e] ∧ RtM w6 a c P d e M ∧ Below w.heap.size w w6 from by
              have bb : Below w.heap.size w w6 := (W5.out.2.2.alloc W5.out.2.2.size _).grown grow6 (by have := W5.out.2.2.size; simp; omega) (fun k hk => by have := hR6 k hk; omega)
              exact ⟨(W5.out.1.below ((Below.refl _ _).alloc (Nat.le_refl _) _)).only grow6 (fun e => by have := hR6 _ e.symm; omega), hm.below bb, bb⟩)
            have L6 := Lib.hid (show L.length + 1 ≤ I + 1 ∧ sealsP (L ++ [⟨yy, yt, yf, yb, ya, yc, yP⟩]) = (sealsOf f b tt P).take (I + 1) ∧ ∀ x ∈ L ++ [(⟨yy, yt, yf, yb, ya, yc, yP⟩ : SV)], x.P.length ≤ P.length from by
              refine ⟨by omega, ?_, fun x hx => ?_⟩
              · rw [HTK.out, sealsP, List.map_append, List.map_cons, List.map_nil, HYP.out.1]; exact congrArg (· ++ _) HQ.out
              · rcases List.mem_append.1 hx with k | k
                · exact HLN.out x k
                · obtain rfl := List.mem_singleton.1 k
                  exact HYP.out.2)
            obtain ⟨a6, c6, rfl, _⟩ := OwnSl.tab S6.out.row
            clear hR6 own6 grow6 S5 W5 Y5 LT HTK HYP HQ HLN hs5 hwB hwL
            go_wp2_with fail
            go_roundw
            case rel => exact ⟨I + 1, by omega, by go_num, ⟨_, by have := L6.out.1; simp; omega, S6, Lib.hid L6.out.2.1, Lib.hid L6.out.2.2⟩, Lib.hid (.inr trivial), W6⟩
            case measure => simp [intOf]; omega
          · obtain rfl : I = P.length := by omega
            have HE := Lib.hid (show sealsP L = Q by have h := HQ.out; rw [show (sealsOf f b tt P).take P.length = sealsOf f b tt P from List.take_of_length_le (by rw [sealsOf_len]; omega)] at h; rw [h, HZ.out])
            go_wp2_with fail
            go_ret
            exact ⟨_, L, rfl, HS.out.mono (by omega), HE.out, HLN.out, HW.out.2.2⟩
end Go.Proofs.YtnnmgbgkgnejlaaDoor
