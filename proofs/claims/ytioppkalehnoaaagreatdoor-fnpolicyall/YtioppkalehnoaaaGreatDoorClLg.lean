/-
  The law that routes are taken one by one: the walk.
-/
import Derived.Test.YtioppkalehnoaaaGreatDoorClPc
import Derived.Test.YtioppkalehnoaaaGreatDoorClLl
namespace Go.Proofs.YtioppkalehnoaaaGreatDoor
open Go.RowKit
set_option linter.unusedSimpArgs false
set_option linter.unusedVariables false

theorem ownrs_rsa {Lp : List CL} {l : List Rt} {w w' : World} {LA : List RV} {a : Option Addr} {n c : Nat} (h : PaI w LA (.slice a n c) w') (hk : LA.map RV.rt = polAll Lp l) : RsA w' a LA :=
  OwnV.rsa h.row (fun x hx => by
    have g := polAll_good Lp l x.rt (by rw [← hk]; exact List.mem_map_of_mem hx)
    have h1 : x.P.length ≤ 5 := g.path.len
    have h2 : x.M.length ≤ 9 := g.marks.len
    exact (h.own x hx).m (by omega) (by omega))
def DnPB (w : World) (en : Ending) (w' : World) : Prop := ∃ (ap : Option Addr) (cp : Nat) (Lp : List CL) (LR : List RV) (al : Option Addr) (cap : Nat), en = .returned (.tuple #[.slice ap Lp.length cp, .slice al LR.length cap]) ∧ Lp.length ≤ 4 ∧ LR.length ≤ 4 ∧ CsA w' ap Lp ∧ RsA w' al LR ∧ Below w.heap.size w w'
theorem dPA_any (a0 : Option Addr) (len0 cap0 : Nat) (zs0 : List Int) (w : World) (h : IsRow w a0 len0 cap0 zs0) :
    Calls Tryz.prog 24 #[.slice a0 len0 cap0] w (DnPB w) :=
  (dPolicyAll_any a0 len0 cap0 zs0 w h).mono fun en w' ⟨v, Lp, LR, g, cap, e, h1, h2, oc, oR, b⟩ => by
    obtain ⟨ap, cp, rfl, _, _⟩ := OwnC.tab oc
    exact ⟨ap, cp, Lp, LR, _, cap, e, h1, h2, OwnC.cs oc, oR.rsa, b⟩

set_option maxRecDepth 100000 in
set_option maxHeartbeats 4000000 in
theorem lawPolicyAll (a0 : Option Addr) (len0 cap0 : Nat) (zs0 : List Int) (w : World) (h0 : IsRow w a0 len0 cap0 zs0) (p : Addr) (hE : EV w p) (_ : True) :
    Calls Tryz.prog 5 #[.slice a0 len0 cap0] w fun e w' => e = .returned (.bool true) ∧ Below w.heap.size w w' := by
  have H0 := Lib.hid h0
  have HE := Lib.hid hE
  clear h0 hE
  by_cases hl0 : (1048576 : Int) < (len0 : Int)
  · go_enter Tryz.func5, Tryz.ntmps5
    go_wp2_with fail
    go_ret
    exact ⟨rfl, Below.refl _ _⟩
  go_enter Tryz.func5, Tryz.ntmps5
  go_wp2_with fail
  refine (dPA_any a0 len0 cap0 zs0 _ H0.out).mono ?_
  rintro en w1 ⟨ap, cp, Lp, LR, al, cap, rfl, hlp, hlr, hC, hR, b1⟩
  have HB1 := Lib.hid b1
  have HC1 := Lib.hid hC
  have HR1 := Lib.hid hR
  clear hC hR b1
  obtain ⟨U, hU⟩ : ∃ U, polAll Lp (LR.map RV.rt) = U := ⟨_, rfl⟩
  have hUl : U.length ≤ LR.length := by rw [← hU]; have := polAll_len Lp (LR.map RV.rt); simpa using this
  have HU := Lib.hid hU
  clear hU
  go_wp2_with fail
  refine (ipolall_is Lp ap _ cp LR al _ cap HU.out _ p rfl HC1.out (by omega) rfl HR1.out (by omega) (HE.out.below HB1.out)).mono ?_
  rintro en w2 ⟨v2, LA, rfl, hA, hAU⟩
  obtain ⟨aa, ca, rfl, _⟩ := hA.row.tab
  have HB2 := Lib.hid (next HB1.out hA.bel)
  have HC2 := Lib.hid (HC1.out.below hA.bel)
  have HR2 := Lib.hid (HR1.out.below hA.bel)
  have HA2 := Lib.hid (ownrs_rsa hA (hAU.trans HU.out.symm))
  have HAU := Lib.hid hAU
  have HlA := Lib.hid (show LA.length = U.length by rw [← hAU]; simp)
  clear hA hAU HC1 HR1 HB1
  go_wp2_with fail
  refine (spolall_is Lp ap _ cp LR al _ cap HU.out _ rfl HC2.out (by omega) rfl HR2.out (by omega)).mono ?_
  rintro en w3 ⟨v3, LB, rfl, hA, hBU⟩
  obtain ⟨ab, cb, rfl, _⟩ := hA.row.tab
  have HB3 := Lib.hid (next HB2.out hA.bel)
  have HC3 := Lib.hid (HC2.out.below hA.bel)
  have HR3 := Lib.hid (HR2.out.below hA.bel)
  have HA3 := Lib.hid (HA2.out.below hA.bel)
  have HX3 := Lib.hid (ownrs_rsa hA (hBU.trans HU.out.symm))
  have HBU := Lib.hid hBU
  clear hA hBU HC2 HR2 HB2 HA2
  go_wp2_with fail
  refine (lyRs_is LA LB aa ab ca cb LA.length LB.length _ rfl rfl HA3.out HX3.out (HAU.out.trans HBU.out.symm) (by have := HlA.out; omega)).mono ?_
  rintro en w4 ⟨rfl, b⟩
  have HB4 := Lib.hid (next HB3.out b)
  have HC4 := Lib.hid (HC3.out.below b)
  have HR4 := Lib.hid (HR3.out.below b)
  have HA4 := Lib.hid (HA3.out.below b)
  clear b HC3 HR3 HB3 HA3 HX3 HBU
  go_wp2_with fail
  cases hp : polOk Lp with
  | false =>
    refine (spolok_is Lp hp ap cp _ _ rfl HC4.out (by omega)).mono ?_
    rintro en w5 ⟨rfl, b⟩
    have HB5 := Lib.hid (next HB4.out b)
    have HC5 := Lib.hid (HC4.out.below b)
    have HR5 := Lib.hid (HR4.out.below b)
    have HA5 := Lib.hid (HA4.out.below b)
    clear b HC4 HR4 HB4 HA4
    go_wp2_with fail
    refine (spolall_is Lp ap _ cp LR al _ cap HU.out _ rfl HC5.out (by omega) rfl HR5.out (by omega)).mono ?_
    rintro en w6 ⟨v3, LB, rfl, hA, hBU⟩
    obtain ⟨ab, cb, rfl, _⟩ := hA.row.tab
    have HB6 := Lib.hid (next HB5.out hA.bel)
    have HA6 := Lib.hid (HA5.out.below hA.bel)
    have HX6 := Lib.hid (ownrs_rsa hA (hBU.trans HU.out.symm))
    have HBU := Lib.hid hBU
    clear hA hBU HC5 HR5 HB5 HA5
    go_wp2_with fail
    refine (lyRs_is LA LB aa ab ca cb LA.length LB.length _ rfl rfl HA6.out HX6.out (HAU.out.trans HBU.out.symm) (by have := HlA.out; omega)).mono ?_
    rintro en w7 ⟨rfl, b⟩
    have HB7 := Lib.hid (next HB6.out b)
    clear b
    go_wp2_with fail
    go_ret
    exact ⟨rfl, HB7.out⟩
  | true =>
    refine (spolok_is Lp hp ap cp _ _ rfl HC4.out (by omega)).mono ?_
    rintro en w5 ⟨rfl, b⟩
    have HB5 := Lib.hid (next HB4.out b)
    have HC5 := Lib.hid (HC4.out.below b)
    have HR5 := Lib.hid (HR4.out.below b)
    have HA5 := Lib.hid (HA4.out.below b)
    clear b HC4 HR4 HB4 HA4
    have I0 := Lib.hid (PaI.emp0 (Below.refl w5.heap.size w5))
    go_wp2_with fail
    generalize w5.alloc (.cells #[] 32) = W0 at *
    go_loopw [6, 7, 8, 9] (fun t i _ _ wr => ∃ (k : Nat) (LB : List RV), k ≤ LR.length ∧ i = .int .i64 (k : Int) ∧ LB.length ≤ k ∧ Hid (∀ (j : Nat) x, j < k → LR[j]? = some x → rtOk x.rt = true) ∧ Hid (LB.map RV.rt = takeC Lp ((LR.map RV.rt).take k)) ∧ PaI w5 LB t wr) (fun _ i _ _ _ => LR.length - (intOf i).toNat)
    case atStart => exact ⟨0, [], Nat.zero_le _, rfl, Nat.le_refl _, Lib.hid (fun j x hj => by omega), Lib.hid (by simp [takeC]), I0.out⟩
    case round =>
      clear I0
      obtain ⟨k, LB, hk, rfl, hlB, HN, HT, hI⟩ := hrel
      obtain ⟨ta, tc, rfl, _⟩ := OwnV.tab hI.row
      have HI := Lib.hid hI
      have HBr := Lib.hid (next HB5.out hI.bel)
      clear hI
      by_cases hlt : k < LR.length
      · obtain ⟨v, hv⟩ : ∃ v, LR[k]? = some v := ⟨_, List.getElem?_eq_getElem hlt⟩
        have HV := Lib.hid hv
        obtain ⟨b', off', rfl, ⟨q0, q1, q2, q3, q4⟩, hm⟩ := (HR5.out.below HI.out.bel).at hv
        have HM : Hid (RtM _ v.a v.c v.P v.d v.e v.M) := Lib.hid hm
        have i0 : (0 : Int) ≤ (k : Int) := by omega
        have i1 : (k : Int) < (LR.length : Int) := by omega
        clear hv hm
        cases hr : rtOk v.rt with
        | false =>
          have hz : U = [] := by rw [← HU.out]; exact polAll_no2 (List.mem_map_of_mem (List.mem_of_getElem? HV.out)) hr
          have e0 : ((LA.length : Int) == 0) = true := by rw [HlA.out, hz]; rfl
          go_wp2_with fail
          refine (irok_is v.f v.b v.a v.c v.P v.l v.d v.e v.M hr _ p HM.out (HE.out.below HBr.out)).mono ?_
          rintro en w6 ⟨rfl, b⟩
          have HB6 := Lib.hid (next HBr.out b)
          clear b
          go_wp2_with fail
          go_ret
          exact ⟨rfl, HB6.out⟩
        | true =>
          have HN2 : Hid (∀ (j : Nat) x, j < k + 1 → LR[j]? = some x → rtOk x.rt = true) := Lib.hid (fun j x hj hx => by
            by_cases e : j = k
            · subst e; rw [HV.out] at hx; cases hx; exact hr
            · exact HN.out j x (by omega) hx)
          go_wp2_with fail
          refine (irok_is v.f v.b v.a v.c v.P v.l v.d v.e v.M hr _ p HM.out (HE.out.below HBr.out)).mono ?_
          rintro en w6 ⟨rfl, b4⟩
          have HI1 := Lib.hid (HI.out.later b4)
          have HB6 := Lib.hid (next HBr.out b4)
          have HM1 : Hid (RtM w6 v.a v.c v.P v.d v.e v.M) := Lib.hid (RtM.below HM.out b4)
          have c0 := cell_later b4 q0
          have c1 := cell_later b4 q1
          have c2 := cell_later b4 q2
          have c3 := cell_later b4 q3
          have c4 := cell_later b4 q4
          clear b4 HI HM q0 q1 q2 q3 q4 HN HBr
          obtain ⟨⟨⟨fU, bU, PU, lU, MU⟩, x⟩, hF⟩ : ∃ s, polDo Lp v.rt = s := ⟨_, rfl⟩
          have HF := Lib.hid (show polDo Lp (v.f, v.b, v.P, v.l, v.M) = ((fU, bU, PU, lU, MU), x) from hF)
          have HT2 : Hid (takeC Lp ((LR.map RV.rt).take (k + 1)) = takeC Lp ((LR.map RV.rt).take k) ++ (if x then [(fU, bU, PU, lU, MU)] else [])) := Lib.hid (by rw [takeC_step (rmap_at HV.out), ← polDo_yes hp hr, hF])
          clear hF
          go_wp2_with fail
          clear c0 c1 c2 c3 c4
          refine (ipoldo_is Lp ap _ cp v.f v.b v.a v.c v.P v.l v.d v.e v.M HF.out _ p rfl (HC5.out.below HI1.out.bel) (by omega) HM1.out (HE.out.below HB6.out)).mono ?_
          rintro en w7 ⟨pv, mv, rfl, hO⟩
          have HO := Lib.hid hO
          obtain ⟨T5, o1, _, o2, _, b5⟩ := hO
          replace o1 : OwnI w7 w6.heap.size pv PU := o1
          replace o2 : OwnI w7 T5 mv MU := o2
          obtain ⟨pa, pc, rfl, _, _⟩ := OwnI.tab o1
          obtain ⟨ma, mc, rfl, _, _⟩ := OwnI.tab o2
          have HI2 := Lib.hid (HI1.out.later b5)
          have hNw := HI1.out.bel.size
          have HLt := Lib.hid HI1.out.lt
          have HY : Hid ((⟨fU, bU, pa, pc, PU, lU, ma, mc, MU⟩ : RV).own w7 w6.heap.size ∧ (⟨fU, bU, pa, pc, PU, lU, ma, mc, MU⟩ : RV).self) := Lib.hid HO.out.rv
          have hs5 : w6.heap.size ≤ w7.heap.size := b5.size
          clear o1 o2 b5 HI1 HO HB6
          cases x with
          | false =>
            have HI3 := Lib.hid (HI2.out.alloc (.cells #[.int .i64 fU, .int .i64 bU, .slice pa PU.length pc, .int .i64 lU, .slice ma MU.length mc] 32))
            go_wp2_with fail
            generalize w7.alloc (.cells #[.int .i64 fU, .int .i64 bU, .slice pa PU.length pc, .int .i64 lU, .slice ma MU.length mc] 32) = w8 at *
            go_roundw
            case rel => exact ⟨k + 1, LB, by omega, by go_num, by omega, HN2, Lib.hid (by rw [HT2.out, HT.out]; simp), HI3.out⟩
            case measure => simp [intOf]; omega
          | true =>
            have HI3 := Lib.hid ((HI2.out.alloc (.cells #[.int .i64 fU, .int .i64 bU, .slice pa PU.length pc, .int .i64 lU, .slice ma MU.length mc] 32)).alloc (.cells #[.int .i64 fU, .int .i64 bU, .slice pa PU.length pc, .int .i64 lU, .slice ma MU.length mc] 32))
            have HY3 : Hid ((⟨fU, bU, pa, pc, PU, lU, ma, mc, MU⟩ : RV).own ((w7.alloc (.cells #[.int .i64 fU, .int .i64 bU, .slice pa PU.length pc, .int .i64 lU, .slice ma MU.length mc] 32)).alloc (.cells #[.int .i64 fU, .int .i64 bU, .slice pa PU.length pc, .int .i64 lU, .slice ma MU.length mc] 32)) w6.heap.size) := Lib.hid ((HY.out.1.later ((Below.refl _ w7).alloc (Nat.le_refl _) _)).later ((Below.refl _ _).alloc (Nat.le_refl _) _))
            have hn5 := new5 (w7.alloc (.cells #[.int .i64 fU, .int .i64 bU, .slice pa PU.length pc, .int .i64 lU, .slice ma MU.length mc] 32)) ⟨fU, bU, pa, pc, PU, lU, ma, mc, MU⟩
            simp only [World.size_alloc] at hn5
            have HN5 := Lib.hid hn5
            clear hn5
            go_wp2_with (at_builtin; refine wpList_appG rfl (.tmp 63) (.tmp 65) rfl w5.heap.size (.slice ta LB.length tc) LB ?s1 ?o1 (w7.heap.size + 1) ⟨fU, bU, pa, pc, PU, lU, ma, mc, MU⟩ ?x1 ?m1 ?l1 ?r1 ?h1)
            try case s1 => rfl
            try case o1 => exact HI3.out.row
            try case x1 => rfl
            try case m1 => exact HN5.out
            try case l1 => omega
            try case r1 => (have := HI2.out.bel.size; simp; omega)
            intro v6 w8 own6 grow6
            have HI6 := Lib.hid (HI3.out.app HLt.out HY3.out HY.out.2 hNw own6 grow6)
            obtain ⟨LC, hLC⟩ : ∃ LC, LC = LB ++ [(⟨fU, bU, pa, pc, PU, lU, ma, mc, MU⟩ : RV)] := ⟨_, rfl⟩
            have HLC : Hid (LC.map RV.rt = LB.map RV.rt ++ [(fU, bU, PU, lU, MU)] ∧ LC.length = LB.length + 1) := Lib.hid (by rw [hLC]; simp [RV.rt])
            rw [← hLC] at HI6
            clear own6 grow6 HI3 HI2 hLC
            go_wp2_with fail
            go_roundw
            case rel => exact ⟨k + 1, LC, by omega, by go_num, by have := HLC.out.2; omega, HN2, Lib.hid (by rw [HT2.out, HLC.out.1, HT.out]; simp), HI6.out⟩
            case measure => simp [intOf]; omega
      · obtain rfl : k = LR.length := by omega
        have HF := Lib.hid (show LB.map RV.rt = polAll Lp (LR.map RV.rt) by
          rw [HT.out, show LR.length = (LR.map RV.rt).length by simp, List.take_length]
          exact (polAll_yes hp (fun r hr => by
            obtain ⟨c, hc, rfl⟩ := List.mem_map.1 hr
            obtain ⟨j, hj⟩ := List.mem_iff_getElem?.1 hc
            exact HN.out j c (List.getElem?_eq_some_iff.1 hj).1 hj)).symm)
        have HAr := Lib.hid (HA5.out.below HI.out.bel)
        have HXr := Lib.hid (ownrs_rsa HI.out HF.out)
        clear HI HN HT
        go_wp2_with fail
        refine (lyRs_is LA LB aa ta ca tc LA.length LB.length _ rfl rfl HAr.out HXr.out (HAU.out.trans (HU.out.symm.trans HF.out.symm)) (by have := HlA.out; omega)).mono ?_
        rintro en w6 ⟨rfl, b⟩
        have HB6 := Lib.hid (next HBr.out b)
        clear b
        go_wp2_with fail
        go_ret
        exact ⟨rfl, HB6.out⟩

end Go.Proofs.YtioppkalehnoaaaGreatDoor
