/-
  Routes are taken one by one: PolicyAll, by the program and by the document's model.
-/
import Derived.Test.YtioppkalehnoaaaGreatDoorClPa
namespace Go.Proofs.YtioppkalehnoaaaGreatDoor
open Go.RowKit
set_option linter.unusedSimpArgs false
set_option linter.unusedVariables false

theorem takeC_step {Lp : List CL} {l : List Rt} {k : Nat} {r : Rt} (h : l[k]? = some r) : takeC Lp (l.take (k + 1)) = takeC Lp (l.take k) ++ (if (firstC Lp r).2 then [(firstC Lp r).1] else []) := by
  rw [List.take_add_one, h]; exact takeC_snoc Lp _ r
theorem rmap_at {L : List RV} {k : Nat} {v : RV} (h : L[k]? = some v) : (L.map RV.rt)[k]? = some v.rt := by rw [List.getElem?_map, h]; rfl
theorem PaI.zip0 {w W : World} (h : Below w.heap.size w W) : PaI w [] (.slice none 0 0) W := ⟨ownv_nil _ _, fun x hx => (by cases hx), List.Pairwise.nil, fun x hx => (by cases hx), h⟩
theorem PaI.emp0 {w W : World} (h : Below w.heap.size w W) : PaI w [] (.slice (some ⟨W.heap.size, 0, none⟩) 0 0) (W.alloc (.cells #[] 32)) := ⟨ownv_empty W _ h.size, fun x hx => (by cases hx), List.Pairwise.nil, fun x hx => (by cases hx), h.alloc h.size _⟩
/-- routes come back, of the call's own -/
def OwnRs (w : World) (R : List Rt) (e : Ending) (w' : World) : Prop := ∃ (v : Value) (LB : List RV), e = .returned v ∧ PaI w LB v w' ∧ LB.map RV.rt = R

set_option maxRecDepth 100000 in
set_option maxHeartbeats 4000000 in
theorem ipolall_is (Lp : List CL) (ap : Option Addr) (np cp : Nat) (L : List RV) (al : Option Addr) (nl cl : Nat) {R : List Rt} (k : polAll Lp (L.map RV.rt) = R) (w : World) (p : Addr) (hnp : np = Lp.length) (hA : CsA w ap Lp) (hlp : Lp.length ≤ 2000000) (hn : nl = L.length) (hR : RsA w al L) (hl : L.length ≤ 1100000) (hE : EV w p) :
    Calls Tryz.prog 20 #[.slice ap np cp, .slice al nl cl] w (OwnRs w R) := by
  subst hnp hn
  have KX := Lib.hid k
  have HA := Lib.hid hA
  have HR := Lib.hid hR
  have HE := Lib.hid hE
  clear k hA hR hE
  go_enter Tryz.func20, Tryz.ntmps20
  go_wp2_with fail
  cases ho : polOk Lp with
  | false =>
    have HX := Lib.hid (show [] = R by rw [← KX.out, polAll_no1 ho])
    refine (ipolok_is Lp ho ap cp _ _ rfl HA.out hlp).mono ?_
    rintro en w1 ⟨rfl, b1⟩
    have HB := Lib.hid b1
    clear b1
    go_wp2_with fail
    go_ret
    exact ⟨_, [], rfl, PaI.zip0 HB.out, HX.out⟩
  | true =>
    refine (ipolok_is Lp ho ap cp _ _ rfl HA.out hlp).mono ?_
    rintro en w1 ⟨rfl, b1⟩
    have HB1 := Lib.hid b1
    clear b1
    go_wp2_with fail
    cases hz : (L.map RV.rt).all rtOk with
    | false =>
      have HX := Lib.hid (show [] = R by rw [← KX.out]; simp [polAll, hz])
      refine (hasR_is L hz al cl _ _ p rfl (HR.out.below HB1.out) (HE.out.below HB1.out) (by omega)).mono ?_
      rintro en w2 ⟨rfl, b2⟩
      have HB2 := Lib.hid (next HB1.out b2)
      clear b2
      go_wp2_with fail
      go_ret
      exact ⟨_, [], rfl, PaI.zip0 HB2.out, HX.out⟩
    | true =>
      have HAll := Lib.hid (List.all_eq_true.1 hz)
      have HX := Lib.hid (show takeC Lp (L.map RV.rt) = R by rw [← KX.out, polAll_yes ho (List.all_eq_true.1 hz)])
      refine (hasR_is L hz al cl _ _ p rfl (HR.out.below HB1.out) (HE.out.below HB1.out) (by omega)).mono ?_
      rintro en w2 ⟨rfl, b2⟩
      have I2 := Lib.hid (PaI.zip0 (next HB1.out b2))
      clear b2 hz HB1
      go_wp2_with fail
      go_loopw [5, 7, 8, 9, 19] (fun t _ _ _ i wr => ∃ (k : Nat) (LB : List RV), k ≤ L.length ∧ i = .int .i64 (k : Int) ∧ LB.length ≤ k ∧ Hid (LB.map RV.rt = takeC Lp ((L.map RV.rt).take k)) ∧ PaI w LB t wr) (fun _ _ _ _ i _ => L.length - (intOf i).toNat)
      case atStart => exact ⟨0, [], Nat.zero_le _, rfl, Nat.le_refl _, Lib.hid (by simp [takeC]), I2.out⟩
      case round =>
        clear I2
        obtain ⟨k, LB, hk, rfl, hlB, HT, hI⟩ := hrel
        obtain ⟨ta, tc, rfl, _⟩ := OwnV.tab hI.row
        have HI := Lib.hid hI
        clear hI
        by_cases hlt : k < L.length
        · obtain ⟨v, hv⟩ : ∃ v, L[k]? = some v := ⟨_, List.getElem?_eq_getElem hlt⟩
          have HV := Lib.hid hv
          obtain ⟨b', off', rfl, ⟨q0, q1, q2, q3, q4⟩, hm⟩ := (HR.out.below HI.out.bel).at hv
          have HM : Hid (RtM _ v.a v.c v.P v.d v.e v.M) := Lib.hid hm
          have i0 : (0 : Int) ≤ (k : Int) := by omega
          have i1 : (k : Int) < (L.length : Int) := by omega
          clear hv hm
          have hr : rtOk v.rt = true := HAll.out _ (List.mem_map.2 ⟨v, List.mem_of_getElem? HV.out, rfl⟩)
          have HI1 := Lib.hid (HI.out.alloc (.cells #[.int .i64 v.f, .int .i64 v.b, .slice v.a v.P.length v.c, .int .i64 v.l, .slice v.d v.M.length v.e] 32))
          have HM1 : Hid (RtM (wr.alloc (.cells #[.int .i64 v.f, .int .i64 v.b, .slice v.a v.P.length v.c, .int .i64 v.l, .slice v.d v.M.length v.e] 32)) v.a v.c v.P v.d v.e v.M) := Lib.hid (RtM.alloc HM.out _)
          clear HI HM
          obtain ⟨⟨⟨fU, bU, PU, lU, MU⟩, x⟩, hU⟩ : ∃ s, firstC Lp v.rt = s := ⟨_, rfl⟩
          have HU := Lib.hid hU
          have HT2 : Hid (takeC Lp ((L.map RV.rt).take (k + 1)) = takeC Lp ((L.map RV.rt).take k) ++ (if x then [(fU, bU, PU, lU, MU)] else [])) := Lib.hid (by rw [takeC_step (rmap_at HV.out), hU])
          clear hU
          go_wp2_with fail
          clear q0 q1 q2 q3 q4
          generalize wr.alloc (.cells #[.int .i64 v.f, .int .i64 v.b, .slice v.a v.P.length v.c, .int .i64 v.l, .slice v.d v.M.length v.e] 32) = w4 at *
          refine (ifirst_is Lp ap _ cp v.f v.b v.a v.c v.P v.l v.d v.e v.M HU.out ((polOk_iff Lp).1 ho).2 hr _ p rfl (HA.out.below HI1.out.bel) hlp HM1.out (HE.out.below HI1.out.bel)).mono ?_
          rintro en w5 ⟨pv, mv, rfl, hO⟩
          have HO := Lib.hid hO
          obtain ⟨T5, o1, _, o2, _, b5⟩ := hO
          replace o1 : OwnI w5 w4.heap.size pv PU := o1
          replace o2 : OwnI w5 T5 mv MU := o2
          obtain ⟨pa, pc, rfl, _, _⟩ := OwnI.tab o1
          obtain ⟨ma, mc, rfl, _, _⟩ := OwnI.tab o2
          have HI2 := Lib.hid (HI1.out.later b5)
          have hNw := HI1.out.bel.size
          have HLt := Lib.hid HI1.out.lt
          have HY : Hid ((⟨fU, bU, pa, pc, PU, lU, ma, mc, MU⟩ : RV).own w5 w4.heap.size ∧ (⟨fU, bU, pa, pc, PU, lU, ma, mc, MU⟩ : RV).self) := Lib.hid HO.out.rv
          have hs5 : w4.heap.size ≤ w5.heap.size := b5.size
          clear o1 o2 b5 HI1 HO
          cases x with
          | false =>
            have HI3 := Lib.hid (HI2.out.alloc (.cells #[.int .i64 fU, .int .i64 bU, .slice pa PU.length pc, .int .i64 lU, .slice ma MU.length mc] 32))
            go_wp2_with fail
            generalize w5.alloc (.cells #[.int .i64 fU, .int .i64 bU, .slice pa PU.length pc, .int .i64 lU, .slice ma MU.length mc] 32) = w6 at *
            go_roundw
            case rel => exact ⟨k + 1, LB, by omega, by go_num, by omega, Lib.hid (by rw [HT2.out, HT.out]; simp), HI3.out⟩
            case measure => simp [intOf]; omega
          | true =>
            have HI3 := Lib.hid ((HI2.out.alloc (.cells #[.int .i64 fU, .int .i64 bU, .slice pa PU.length pc, .int .i64 lU, .slice ma MU.length mc] 32)).alloc (.cells #[.int .i64 fU, .int .i64 bU, .slice pa PU.length pc, .int .i64 lU, .slice ma MU.length mc] 32))
            have HY3 : Hid ((⟨fU, bU, pa, pc, PU, lU, ma, mc, MU⟩ : RV).own ((w5.alloc (.cells #[.int .i64 fU, .int .i64 bU, .slice pa PU.length pc, .int .i64 lU, .slice ma MU.length mc] 32)).alloc (.cells #[.int .i64 fU, .int .i64 bU, .slice pa PU.length pc, .int .i64 lU, .slice ma MU.length mc] 32)) w4.heap.size) := Lib.hid ((HY.out.1.later ((Below.refl _ w5).alloc (Nat.le_refl _) _)).later ((Below.refl _ _).alloc (Nat.le_refl _) _))
            have hn5 := new5 (w5.alloc (.cells #[.int .i64 fU, .int .i64 bU, .slice pa PU.length pc, .int .i64 lU, .slice ma MU.length mc] 32)) ⟨fU, bU, pa, pc, PU, lU, ma, mc, MU⟩
            simp only [World.size_alloc] at hn5
            have HN5 := Lib.hid hn5
            clear hn5
            go_wp2_with (at_builtin; refine wpList_appG rfl (.tmp 30) (.tmp 32) rfl w.heap.size (.slice ta LB.length tc) LB ?s1 ?o1 (w5.heap.size + 1) ⟨fU, bU, pa, pc, PU, lU, ma, mc, MU⟩ ?x1 ?m1 ?l1 ?r1 ?h1)
            try case s1 => rfl
            try case o1 => exact HI3.out.row
            try case x1 => rfl
            try case m1 => exact HN5.out
            try case l1 => omega
            try case r1 => (have := HI2.out.bel.size; simp; omega)
            intro v6 w6 own6 grow6
            have HI6 := Lib.hid (HI3.out.app HLt.out HY3.out HY.out.2 hNw own6 grow6)
            obtain ⟨LC, hLC⟩ : ∃ LC, LC = LB ++ [(⟨fU, bU, pa, pc, PU, lU, ma, mc, MU⟩ : RV)] := ⟨_, rfl⟩
            have HLC : Hid (LC.map RV.rt = LB.map RV.rt ++ [(fU, bU, PU, lU, MU)] ∧ LC.length = LB.length + 1) := Lib.hid (by rw [hLC]; simp [RV.rt])
            rw [← hLC] at HI6
            clear own6 grow6 HI3 HI2 hLC
            go_wp2_with fail
            go_roundw
            case rel => exact ⟨k + 1, LC, by omega, by go_num, by have := HLC.out.2; omega, Lib.hid (by rw [HT2.out, HLC.out.1, HT.out]; simp), HI6.out⟩
            case measure => simp [intOf]; omega
        · obtain rfl : k = L.length := by omega
          have HF := Lib.hid (show LB.map RV.rt = R by rw [HT.out, ← HX.out, show L.length = (L.map RV.rt).length by simp, List.take_length])
          go_wp2_with fail
          go_ret
          exact ⟨_, LB, rfl, HI.out, HF.out⟩
set_option maxRecDepth 100000 in
set_option maxHeartbeats 4000000 in
theorem spolall_is (Lp : List CL) (ap : Option Addr) (np cp : Nat) (L : List RV) (al : Option Addr) (nl cl : Nat) {R : List Rt} (k : polAll Lp (L.map RV.rt) = R) (w : World) (hnp : np = Lp.length) (hA : CsA w ap Lp) (hlp : Lp.length ≤ 2000000) (hn : nl = L.length) (hR : RsA w al L) (hl : L.length ≤ 1100000) :
    Calls Tryz.prog 18 #[.slice ap np cp, .slice al nl cl] w (OwnRs w R) := by
  subst hnp hn
  have KX := Lib.hid k
  have HA := Lib.hid hA
  have HR := Lib.hid hR
  clear k hA hR
  have I0 := Lib.hid (PaI.emp0 (Below.refl w.heap.size w))
  go_enter Tryz.func18, Tryz.ntmps18
  go_wp2_with fail
  generalize hW0 : w.alloc (.cells #[] 32) = W0 at *
  have hb0 : Below w.heap.size w W0 := I0.out.bel
  have HB0 := Lib.hid hb0
  clear hb0 hW0
  cases ho : polOk Lp with
  | false =>
    have HX := Lib.hid (show [] = R by rw [← KX.out, polAll_no1 ho])
    refine (spolok_is Lp ho ap cp _ _ rfl (HA.out.below HB0.out) hlp).mono ?_
    rintro en w1 ⟨rfl, b1⟩
    have I1 := Lib.hid (I0.out.later b1)
    clear b1
    go_wp2_with fail
    go_ret
    exact ⟨_, [], rfl, I1.out, HX.out⟩
  | true =>
    refine (spolok_is Lp ho ap cp _ _ rfl (HA.out.below HB0.out) hlp).mono ?_
    rintro en w1 ⟨rfl, b1⟩
    have I2 := Lib.hid (I0.out.later b1)
    clear b1 I0 HB0
    go_wp2_with fail
    go_loopw [5, 6, 7, 8] (fun t i _ _ wr => ∃ (k : Nat) (LB : List RV), k ≤ L.length ∧ i = .int .i64 (k : Int) ∧ LB.length ≤ k ∧ Hid (∀ (j : Nat) x, j < k → L[j]? = some x → rtOk x.rt = true) ∧ Hid (LB.map RV.rt = takeC Lp ((L.map RV.rt).take k)) ∧ PaI w LB t wr) (fun _ i _ _ _ => L.length - (intOf i).toNat)
    case atStart => exact ⟨0, [], Nat.zero_le _, rfl, Nat.le_refl _, Lib.hid (fun j x hj => by omega), Lib.hid (by simp [takeC]), I2.out⟩
    case round =>
      clear I2
      obtain ⟨k, LB, hk, rfl, hlB, HN, HT, hI⟩ := hrel
      obtain ⟨ta, tc, rfl, _⟩ := OwnV.tab hI.row
      have HI := Lib.hid hI
      clear hI
      by_cases hlt : k < L.length
      · obtain ⟨v, hv⟩ : ∃ v, L[k]? = some v := ⟨_, List.getElem?_eq_getElem hlt⟩
        have HV := Lib.hid hv
        obtain ⟨b', off', rfl, ⟨q0, q1, q2, q3, q4⟩, hm⟩ := (HR.out.below HI.out.bel).at hv
        have HM : Hid (RtM _ v.a v.c v.P v.d v.e v.M) := Lib.hid hm
        have i0 : (0 : Int) ≤ (k : Int) := by omega
        have i1 : (k : Int) < (L.length : Int) := by omega
        clear hv hm
        cases hr : rtOk v.rt with
        | false =>
          have HX := Lib.hid (show [] = R by rw [← KX.out, polAll_no2 (List.mem_map.2 ⟨v, List.mem_of_getElem? HV.out, rfl⟩) hr])
          go_wp2_with fail
          refine (srok_is v.f v.b v.a v.c v.P v.l v.d v.e v.M hr _ HM.out).mono ?_
          rintro en w4 ⟨rfl, b4⟩
          have I4 := Lib.hid (PaI.emp0 (next HI.out.bel b4))
          clear b4
          go_wp2_with fail
          go_ret
          exact ⟨_, [], rfl, I4.out, HX.out⟩
        | true =>
          have HN2 : Hid (∀ (j : Nat) x, j < k + 1 → L[j]? = some x → rtOk x.rt = true) := Lib.hid (fun j x hj hx => by
            by_cases e : j = k
            · subst e; rw [HV.out] at hx; cases hx; exact hr
            · exact HN.out j x (by omega) hx)
          go_wp2_with fail
          refine (srok_is v.f v.b v.a v.c v.P v.l v.d v.e v.M hr _ HM.out).mono ?_
          rintro en w4 ⟨rfl, b4⟩
          have HI1 := Lib.hid (HI.out.later b4)
          have HM1 : Hid (RtM w4 v.a v.c v.P v.d v.e v.M) := Lib.hid (RtM.below HM.out b4)
          have c0 := cell_later b4 q0
          have c1 := cell_later b4 q1
          have c2 := cell_later b4 q2
          have c3 := cell_later b4 q3
          have c4 := cell_later b4 q4
          clear b4 HI HM q0 q1 q2 q3 q4 HN
          obtain ⟨⟨⟨fU, bU, PU, lU, MU⟩, x⟩, hU⟩ : ∃ s, firstC Lp v.rt = s := ⟨_, rfl⟩
          have HU := Lib.hid hU
          have HT2 : Hid (takeC Lp ((L.map RV.rt).take (k + 1)) = takeC Lp ((L.map RV.rt).take k) ++ (if x then [(fU, bU, PU, lU, MU)] else [])) := Lib.hid (by rw [takeC_step (rmap_at HV.out), hU])
          clear hU
          go_wp2_with fail
          clear c0 c1 c2 c3 c4
          refine (sfirst_is Lp ap _ cp v.f v.b v.a v.c v.P v.l v.d v.e v.M HU.out ((polOk_iff Lp).1 ho).2 hr _ rfl (HA.out.below HI1.out.bel) hlp HM1.out).mono ?_
          rintro en w5 ⟨pv, mv, rfl, hO⟩
          have HO := Lib.hid hO
          obtain ⟨T5, o1, _, o2, _, b5⟩ := hO
          replace o1 : OwnI w5 w4.heap.size pv PU := o1
          replace o2 : OwnI w5 T5 mv MU := o2
          obtain ⟨pa, pc, rfl, _, _⟩ := OwnI.tab o1
          obtain ⟨ma, mc, rfl, _, _⟩ := OwnI.tab o2
          have HI2 := Lib.hid (HI1.out.later b5)
          have hNw := HI1.out.bel.size
          have HLt := Lib.hid HI1.out.lt
          have HY : Hid ((⟨fU, bU, pa, pc, PU, lU, ma, mc, MU⟩ : RV).own w5 w4.heap.size ∧ (⟨fU, bU, pa, pc, PU, lU, ma, mc, MU⟩ : RV).self) := Lib.hid HO.out.rv
          have hs5 : w4.heap.size ≤ w5.heap.size := b5.size
          clear o1 o2 b5 HI1 HO
          cases x with
          | false =>
            have HI3 := Lib.hid (HI2.out.alloc (.cells #[.int .i64 fU, .int .i64 bU, .slice pa PU.length pc, .int .i64 lU, .slice ma MU.length mc] 32))
            go_wp2_with fail
            generalize w5.alloc (.cells #[.int .i64 fU, .int .i64 bU, .slice pa PU.length pc, .int .i64 lU, .slice ma MU.length mc] 32) = w6 at *
            go_roundw
            case rel => exact ⟨k + 1, LB, by omega, by go_num, by omega, HN2, Lib.hid (by rw [HT2.out, HT.out]; simp), HI3.out⟩
            case measure => simp [intOf]; omega
          | true =>
            have HI3 := Lib.hid ((HI2.out.alloc (.cells #[.int .i64 fU, .int .i64 bU, .slice pa PU.length pc, .int .i64 lU, .slice ma MU.length mc] 32)).alloc (.cells #[.int .i64 fU, .int .i64 bU, .slice pa PU.length pc, .int .i64 lU, .slice ma MU.length mc] 32))
            have HY3 : Hid ((⟨fU, bU, pa, pc, PU, lU, ma, mc, MU⟩ : RV).own ((w5.alloc (.cells #[.int .i64 fU, .int .i64 bU, .slice pa PU.length pc, .int .i64 lU, .slice ma MU.length mc] 32)).alloc (.cells #[.int .i64 fU, .int .i64 bU, .slice pa PU.length pc, .int .i64 lU, .slice ma MU.length mc] 32)) w4.heap.size) := Lib.hid ((HY.out.1.later ((Below.refl _ w5).alloc (Nat.le_refl _) _)).later ((Below.refl _ _).alloc (Nat.le_refl _) _))
            have hn5 := new5 (w5.alloc (.cells #[.int .i64 fU, .int .i64 bU, .slice pa PU.length pc, .int .i64 lU, .slice ma MU.length mc] 32)) ⟨fU, bU, pa, pc, PU, lU, ma, mc, MU⟩
            simp only [World.size_alloc] at hn5
            have HN5 := Lib.hid hn5
            clear hn5
            go_wp2_with (at_builtin; refine wpList_appG rfl (.tmp 37) (.tmp 39) rfl w.heap.size (.slice ta LB.length tc) LB ?s1 ?o1 (w5.heap.size + 1) ⟨fU, bU, pa, pc, PU, lU, ma, mc, MU⟩ ?x1 ?m1 ?l1 ?r1 ?h1)
            try case s1 => rfl
            try case o1 => exact HI3.out.row
            try case x1 => rfl
            try case m1 => exact HN5.out
            try case l1 => omega
            try case r1 => (have := HI2.out.bel.size; simp; omega)
            intro v6 w6 own6 grow6
            have HI6 := Lib.hid (HI3.out.app HLt.out HY3.out HY.out.2 hNw own6 grow6)
            obtain ⟨LC, hLC⟩ : ∃ LC, LC = LB ++ [(⟨fU, bU, pa, pc, PU, lU, ma, mc, MU⟩ : RV)] := ⟨_, rfl⟩
            have HLC : Hid (LC.map RV.rt = LB.map RV.rt ++ [(fU, bU, PU, lU, MU)] ∧ LC.length = LB.length + 1) := Lib.hid (by rw [hLC]; simp [RV.rt])
            rw [← hLC] at HI6
            clear own6 grow6 HI3 HI2 hLC
            go_wp2_with fail
            go_roundw
            case rel => exact ⟨k + 1, LC, by omega, by go_num, by have := HLC.out.2; omega, HN2, Lib.hid (by rw [HT2.out, HLC.out.1, HT.out]; simp), HI6.out⟩
            case measure => simp [intOf]; omega
      · obtain rfl : k = L.length := by omega
        have HF := Lib.hid (show LB.map RV.rt = R by
          rw [HT.out, ← KX.out, show L.length = (L.map RV.rt).length by simp, List.take_length]
          exact (polAll_yes ho (fun r hr => by
            obtain ⟨c, hc, rfl⟩ := List.mem_map.1 hr
            obtain ⟨j, hj⟩ := List.mem_iff_getElem?.1 hc
            exact HN.out j c (List.getElem?_eq_some_iff.1 hj).1 hj)).symm)
        go_wp2_with fail
        go_ret
        exact ⟨_, LB, rfl, HI.out, HF.out⟩
end Go.Proofs.YtioppkalehnoaaaGreatDoor
