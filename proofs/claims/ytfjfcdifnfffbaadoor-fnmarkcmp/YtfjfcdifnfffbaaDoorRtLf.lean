/-
  The law that marks do not turn what else decides: the walk.
-/
import Derived.Test.YtfjfcdifnfffbaaDoorRtLd
namespace Go.Proofs.YtfjfcdifnfffbaaDoor
open Go.RowKit
set_option linter.unusedSimpArgs false
set_option linter.unusedVariables false

set_option maxRecDepth 100000 in
set_option maxHeartbeats 4000000 in
theorem lawMarkCmp (a0 : Option Addr) (len0 cap0 : Nat) (zs0 : List Int) (a1 : Option Addr) (len1 cap1 : Nat) (zs1 : List Int) (w : World) (h0 : IsRow w a0 len0 cap0 zs0) (h1 : IsRow w a1 len1 cap1 zs1) (p : Addr) (hE : EV w p) (_ : True) :
    Calls Tryd.prog 13 #[.slice a0 len0 cap0, .slice a1 len1 cap1] w fun e w' => e = .returned (.bool true) ∧ Below w.heap.size w w' := by
  have H0 := Lib.hid h0
  have H1 := Lib.hid h1
  have HE := Lib.hid hE
  clear h0 hE h1
  by_cases hl0 : (1048576 : Int) < (len0 : Int)
  · go_enter Tryd.func13, Tryd.ntmps13
    go_wp2_with fail
    go_ret
    exact ⟨rfl, Below.refl _ _⟩
  by_cases hl1 : (1048576 : Int) < (len1 : Int)
  · go_enter Tryd.func13, Tryd.ntmps13
    go_wp2_with fail
    go_ret
    exact ⟨rfl, Below.refl _ _⟩
  have HB0 := Lib.hid (Below.refl w.heap.size w)
  go_enter Tryd.func13, Tryd.ntmps13
  go_wp2_with fail
  refine (dRouteCmp_any a0 len0 cap0 zs0 _ (isrow_later H0.out HB0.out)).mono ?_
  rintro en w1 ⟨fa, ba, la, Pa, Ma, pv, mv, fb, bb, lb, Pb, Mb, pv2, mv2, rfl, ⟨⟨hlPa, hlMa⟩, hlPb, hlMb⟩, ⟨⟨o, o2⟩, o3, o4⟩, b⟩
  have HB1 := Lib.hid (HB0.out.trans (b.mono HB0.out.size))
  have hs1 := Lib.hid b.size
  obtain ⟨aap, cap, rfl, _, _⟩ := OwnI.tab o
  obtain ⟨aam, cam, rfl, _, _⟩ := OwnI.tab o2
  have Bap := Lib.hid (OwnI.btw o)
  have Bam := Lib.hid (OwnI.btw o2)
  have Oap_1 := Lib.hid (owni_mono o HB0.out.size)
  have Oam_1 := Lib.hid (owni_mono o2 HB0.out.size)
  clear o o2
  obtain ⟨abp, cbp, rfl, _, _⟩ := OwnI.tab o3
  obtain ⟨abm, cbm, rfl, _, _⟩ := OwnI.tab o4
  have Bbp := Lib.hid (OwnI.btw o3)
  have Bbm := Lib.hid (OwnI.btw o4)
  have Obp_1 := Lib.hid (owni_mono o3 HB0.out.size)
  have Obm_1 := Lib.hid (owni_mono o4 HB0.out.size)
  clear o3 o4
  clear b
  obtain ⟨t1, t2, t3⟩ := At5.two w1 (.int .i64 fa) (.int .i64 ba) (.slice aap (Pa).length cap) (.int .i64 la) (.slice aam (Ma).length cam) (.int .i64 fb) (.int .i64 bb) (.slice abp (Pb).length cbp) (.int .i64 lb) (.slice abm (Mb).length cbm) 27 27
  have HB2 := Lib.hid (HB1.out.trans (t3.mono HB1.out.size))
  have hs2 := Lib.hid (show w1.heap.size + 2 = ((w1.alloc (.cells #[.int .i64 fa, .int .i64 ba, .slice aap (Pa).length cap, .int .i64 la, .slice aam (Ma).length cam] 27)).alloc (.cells #[.int .i64 fb, .int .i64 bb, .slice abp (Pb).length cbp, .int .i64 lb, .slice abm (Mb).length cbm] 27)).heap.size by simp)
  have Oap_2 := Lib.hid (owni_later Oap_1.out t3)
  have Oam_2 := Lib.hid (owni_later Oam_1.out t3)
  have Obp_2 := Lib.hid (owni_later Obp_1.out t3)
  have Obm_2 := Lib.hid (owni_later Obm_1.out t3)
  have Xa_2 := Lib.hid t1
  have Xb_2 := Lib.hid t2
  clear t1 t2 t3
  go_wp2_with fail
  generalize ((w1.alloc (.cells #[.int .i64 fa, .int .i64 ba, .slice aap (Pa).length cap, .int .i64 la, .slice aam (Ma).length cam] 27)).alloc (.cells #[.int .i64 fb, .int .i64 bb, .slice abp (Pb).length cbp, .int .i64 lb, .slice abm (Mb).length cbm] 27)) = w2 at *
  obtain ⟨n, hn⟩ : ∃ n, rtCmp (fa, ba, Pa, la, Ma) (fb, bb, Pb, lb, Mb) = n := ⟨_, rfl⟩
  have HN := Lib.hid hn
  clear hn
  have hnn : (n != n) = false := by simp
  have hne : (n == n) = true := by simp
  refine (ircmp_is fa ba aap cap (Pa) la aam cam (Ma) fb bb abp cbp (Pb) lb abm cbm (Mb) HN.out _ p ⟨⟨(OwnI.intA Oap_2.out).2.2, (OwnI.intA Oam_2.out).2.2⟩, (OwnI.intA Oap_2.out).2.1, (OwnI.intA Oam_2.out).2.1, by omega, by omega⟩ ⟨⟨(OwnI.intA Obp_2.out).2.2, (OwnI.intA Obm_2.out).2.2⟩, (OwnI.intA Obp_2.out).2.1, (OwnI.intA Obm_2.out).2.1, by omega, by omega⟩ (HE.out.below HB2.out)).mono ?_
  rintro en w3 ⟨rfl, b⟩
  have HB3 := Lib.hid (HB2.out.trans (b.mono HB2.out.size))
  have hs3 := Lib.hid b.size
  have Oap_3 := Lib.hid (owni_later Oap_2.out b)
  have Oam_3 := Lib.hid (owni_later Oam_2.out b)
  have Obp_3 := Lib.hid (owni_later Obp_2.out b)
  have Obm_3 := Lib.hid (owni_later Obm_2.out b)
  have Xa_3 := Lib.hid (At5.below Xa_2.out b)
  have Xb_3 := Lib.hid (At5.below Xb_2.out b)
  clear b
  obtain ⟨⟨qa0, qa1, qa2, qa3, qa4⟩, _⟩ := Xa_3.out
  obtain ⟨⟨qb0, qb1, qb2, qb3, qb4⟩, _⟩ := Xb_3.out
  go_wp2_with fail
  clear qa0 qa1 qa2 qa3 qa4
  clear qb0 qb1 qb2 qb3 qb4
  refine (srcmp_is fa ba aap cap (Pa) la aam cam (Ma) fb bb abp cbp (Pb) lb abm cbm (Mb) HN.out _ ⟨⟨(OwnI.intA Oap_3.out).2.2, (OwnI.intA Oam_3.out).2.2⟩, (OwnI.intA Oap_3.out).2.1, (OwnI.intA Oam_3.out).2.1, by omega, by omega⟩ ⟨⟨(OwnI.intA Obp_3.out).2.2, (OwnI.intA Obm_3.out).2.2⟩, (OwnI.intA Obp_3.out).2.1, (OwnI.intA Obm_3.out).2.1, by omega, by omega⟩).mono ?_
  rintro en w4 ⟨rfl, b⟩
  have HB4 := Lib.hid (HB3.out.trans (b.mono HB3.out.size))
  have hs4 := Lib.hid b.size
  have Oap_4 := Lib.hid (owni_later Oap_3.out b)
  have Oam_4 := Lib.hid (owni_later Oam_3.out b)
  have Obp_4 := Lib.hid (owni_later Obp_3.out b)
  have Obm_4 := Lib.hid (owni_later Obm_3.out b)
  have Xa_4 := Lib.hid (At5.below Xa_3.out b)
  have Xb_4 := Lib.hid (At5.below Xb_3.out b)
  clear b
  obtain ⟨xa, hra⟩ : ∃ x, rtOk (fa, ba, Pa, la, Ma) = x := ⟨_, rfl⟩
  obtain ⟨xb, hrb⟩ : ∃ x, rtOk (fb, bb, Pb, lb, Mb) = x := ⟨_, rfl⟩
  have HRA := Lib.hid hra
  have HRB := Lib.hid hrb
  clear hra hrb
  obtain ⟨⟨qa0, qa1, qa2, qa3, qa4⟩, _⟩ := Xa_4.out
  obtain ⟨⟨qb0, qb1, qb2, qb3, qb4⟩, _⟩ := Xb_4.out
  go_wp2_with fail
  clear qa0 qa1 qa2 qa3 qa4
  clear qb0 qb1 qb2 qb3 qb4
  refine (srok_is fa ba aap cap (Pa) la aam cam (Ma) HRA.out _ ⟨⟨(OwnI.intA Oap_4.out).2.2, (OwnI.intA Oam_4.out).2.2⟩, (OwnI.intA Oap_4.out).2.1, (OwnI.intA Oam_4.out).2.1, by omega, by omega⟩).mono ?_
  rintro en w5 ⟨rfl, b⟩
  have HB5 := Lib.hid (HB4.out.trans (b.mono HB4.out.size))
  have hs5 := Lib.hid b.size
  have Oap_5 := Lib.hid (owni_later Oap_4.out b)
  have Oam_5 := Lib.hid (owni_later Oam_4.out b)
  have Obp_5 := Lib.hid (owni_later Obp_4.out b)
  have Obm_5 := Lib.hid (owni_later Obm_4.out b)
  have Xa_5 := Lib.hid (At5.below Xa_4.out b)
  have Xb_5 := Lib.hid (At5.below Xb_4.out b)
  clear b
  cases xa with
  | false =>
    obtain ⟨⟨qa0, qa1, qa2, qa3, qa4⟩, _⟩ := Xa_5.out
    obtain ⟨⟨qb0, qb1, qb2, qb3, qb4⟩, _⟩ := Xb_5.out
    go_wp2_with fail
    clear qa0 qa1 qa2 qa3 qa4
    clear qb0 qb1 qb2 qb3 qb4
    refine (srcmp_is fa ba aap cap (Pa) la aam cam (Ma) fb bb abp cbp (Pb) lb abm cbm (Mb) HN.out _ ⟨⟨(OwnI.intA Oap_5.out).2.2, (OwnI.intA Oam_5.out).2.2⟩, (OwnI.intA Oap_5.out).2.1, (OwnI.intA Oam_5.out).2.1, by omega, by omega⟩ ⟨⟨(OwnI.intA Obp_5.out).2.2, (OwnI.intA Obm_5.out).2.2⟩, (OwnI.intA Obp_5.out).2.1, (OwnI.intA Obm_5.out).2.1, by omega, by omega⟩).mono ?_
    rintro en w6 ⟨rfl, b⟩
    have HB6 := Lib.hid (HB5.out.trans (b.mono HB5.out.size))
    have hs6 := Lib.hid b.size
    have Oap_6 := Lib.hid (owni_later Oap_5.out b)
    have Oam_6 := Lib.hid (owni_later Oam_5.out b)
    have Obp_6 := Lib.hid (owni_later Obp_5.out b)
    have Obm_6 := Lib.hid (owni_later Obm_5.out b)
    have Xa_6 := Lib.hid (At5.below Xa_5.out b)
    have Xb_6 := Lib.hid (At5.below Xb_5.out b)
    clear b
    obtain ⟨⟨qa0, qa1, qa2, qa3, qa4⟩, _⟩ := Xa_6.out
    obtain ⟨⟨qb0, qb1, qb2, qb3, qb4⟩, _⟩ := Xb_6.out
    go_wp2_with fail
    clear qa0 qa1 qa2 qa3 qa4
    clear qb0 qb1 qb2 qb3 qb4
    go_ret
    exact ⟨rfl, HB6.out⟩
  | true =>
    obtain ⟨⟨qa0, qa1, qa2, qa3, qa4⟩, _⟩ := Xa_5.out
    obtain ⟨⟨qb0, qb1, qb2, qb3, qb4⟩, _⟩ := Xb_5.out
    go_wp2_with fail
    clear qa0 qa1 qa2 qa3 qa4
    clear qb0 qb1 qb2 qb3 qb4
    refine (srok_is fb bb abp cbp (Pb) lb abm cbm (Mb) HRB.out _ ⟨⟨(OwnI.intA Obp_5.out).2.2, (OwnI.intA Obm_5.out).2.2⟩, (OwnI.intA Obp_5.out).2.1, (OwnI.intA Obm_5.out).2.1, by omega, by omega⟩).mono ?_
    rintro en w6 ⟨rfl, b⟩
    have HB6 := Lib.hid (HB5.out.trans (b.mono HB5.out.size))
    have hs6 := Lib.hid b.size
    have Oap_6 := Lib.hid (owni_later Oap_5.out b)
    have Oam_6 := Lib.hid (owni_later Oam_5.out b)
    have Obp_6 := Lib.hid (owni_later Obp_5.out b)
    have Obm_6 := Lib.hid (owni_later Obm_5.out b)
    have Xa_6 := Lib.hid (At5.below Xa_5.out b)
    have Xb_6 := Lib.hid (At5.below Xb_5.out b)
    clear b
    cases xb with
    | false =>
      obtain ⟨⟨qa0, qa1, qa2, qa3, qa4⟩, _⟩ := Xa_6.out
      obtain ⟨⟨qb0, qb1, qb2, qb3, qb4⟩, _⟩ := Xb_6.out
      go_wp2_with fail
      clear qa0 qa1 qa2 qa3 qa4
      clear qb0 qb1 qb2 qb3 qb4
      refine (srcmp_is fa ba aap cap (Pa) la aam cam (Ma) fb bb abp cbp (Pb) lb abm cbm (Mb) HN.out _ ⟨⟨(OwnI.intA Oap_6.out).2.2, (OwnI.intA Oam_6.out).2.2⟩, (OwnI.intA Oap_6.out).2.1, (OwnI.intA Oam_6.out).2.1, by omega, by omega⟩ ⟨⟨(OwnI.intA Obp_6.out).2.2, (OwnI.intA Obm_6.out).2.2⟩, (OwnI.intA Obp_6.out).2.1, (OwnI.intA Obm_6.out).2.1, by omega, by omega⟩).mono ?_
      rintro en w7 ⟨rfl, b⟩
      have HB7 := Lib.hid (HB6.out.trans (b.mono HB6.out.size))
      have hs7 := Lib.hid b.size
      have Oap_7 := Lib.hid (owni_later Oap_6.out b)
      have Oam_7 := Lib.hid (owni_later Oam_6.out b)
      have Obp_7 := Lib.hid (owni_later Obp_6.out b)
      have Obm_7 := Lib.hid (owni_later Obm_6.out b)
      have Xa_7 := Lib.hid (At5.below Xa_6.out b)
      have Xb_7 := Lib.hid (At5.below Xb_6.out b)
      clear b
      obtain ⟨⟨qa0, qa1, qa2, qa3, qa4⟩, _⟩ := Xa_7.out
      obtain ⟨⟨qb0, qb1, qb2, qb3, qb4⟩, _⟩ := Xb_7.out
      go_wp2_with fail
      clear qa0 qa1 qa2 qa3 qa4
      clear qb0 qb1 qb2 qb3 qb4
      go_ret
      exact ⟨rfl, HB7.out⟩
    | true =>
      have t1 : (len1 : Int).tmod 9 = ((len1 % 9 : Nat) : Int) := by rw [Int.tmod_eq_emod_of_nonneg (by omega)]; omega
      have hr9 : len1 % 9 < 9 := by omega
      generalize len1 % 9 = s at *
      have hw : IntKind.i64.wrap (1 + (s : Int)) = 1 + (s : Int) := by rw [IntKind.wrap_i64]; omega
      have hn9 : 1 ≤ (1 + (s : Int)) ∧ (1 + (s : Int)) ≤ 9 := by omega
      have HGA := Lib.hid ((rtOk_iff _).1 HRA.out)
      have HGB := Lib.hid ((rtOk_iff _).1 HRB.out)
      obtain ⟨⟨fV, bV, PV, lV, MV⟩, hV⟩ : ∃ r : Rt, rtMark (fa, ba, Pa, la, Ma) (1 + (s : Int)) = (r, true) := ⟨_, mark_of HGA.out hn9⟩
      have hVl : PV.length ≤ 5 ∧ MV.length ≤ 10 := by have := rtMark_len (fa, ba, Pa, la, Ma) (1 + (s : Int)); rw [hV] at this; exact this
      have HV := Lib.hid hV
      have HFV := Lib.hid (mkF hV)
      clear hV
      obtain ⟨⟨fY, bY, PY, lY, MY⟩, hY⟩ : ∃ r : Rt, rtClear (fb, bb, Pb, lb, Mb) (1 + (s : Int)) = (r, true) := ⟨_, clear_of HGB.out hn9⟩
      have hYl : PY.length ≤ 5 ∧ MY.length ≤ 10 := by have := rtClear_len (fb, bb, Pb, lb, Mb) (1 + (s : Int)); rw [hY] at this; exact this
      have HY := Lib.hid hY
      have HFY := Lib.hid (clF hY)
      clear hY
      by_cases h1 : la = lb
      · have d1 : (la == lb) = true := by simp [h1]
        by_cases h2 : Pa = Pb
        · have d2 : decide (Pa = Pb) = true := decide_eq_true h2
          by_cases h3 : fa = fb ∧ ba = bb
          · have d3 : decide (fa = fb ∧ ba = bb) = true := decide_eq_true h3
            clear h1 h2 h3
            obtain ⟨⟨qa0, qa1, qa2, qa3, qa4⟩, _⟩ := Xa_6.out
            obtain ⟨⟨qb0, qb1, qb2, qb3, qb4⟩, _⟩ := Xb_6.out
            go_wp2_with fail
            clear qa0 qa1 qa2 qa3 qa4
            clear qb0 qb1 qb2 qb3 qb4
            refine (lyI_is d2 aap abp _ _ _ _ _ rfl rfl (OwnI.intA Oap_6.out).2.2 (OwnI.intA Obp_6.out).2.2 (by omega) (by omega)).mono ?_
            rintro en w7 ⟨rfl, b⟩
            have HB7 := Lib.hid (HB6.out.trans (b.mono HB6.out.size))
            have hs7 := Lib.hid b.size
            have Oap_7 := Lib.hid (owni_later Oap_6.out b)
            have Oam_7 := Lib.hid (owni_later Oam_6.out b)
            have Obp_7 := Lib.hid (owni_later Obp_6.out b)
            have Obm_7 := Lib.hid (owni_later Obm_6.out b)
            have Xa_7 := Lib.hid (At5.below Xa_6.out b)
            have Xb_7 := Lib.hid (At5.below Xb_6.out b)
            clear b
            have HQ := eqlRg fa ba fb bb
            obtain ⟨⟨qa0, qa1, qa2, qa3, qa4⟩, _⟩ := Xa_7.out
            obtain ⟨⟨qb0, qb1, qb2, qb3, qb4⟩, _⟩ := Xb_7.out
            go_wp2_with fail
            clear qa0 qa1 qa2 qa3 qa4
            clear qb0 qb1 qb2 qb3 qb4
            refine (srcmp_is fa ba aap cap (Pa) la aam cam (Ma) fb bb abp cbp (Pb) lb abm cbm (Mb) HN.out _ ⟨⟨(OwnI.intA Oap_7.out).2.2, (OwnI.intA Oam_7.out).2.2⟩, (OwnI.intA Oap_7.out).2.1, (OwnI.intA Oam_7.out).2.1, by omega, by omega⟩ ⟨⟨(OwnI.intA Obp_7.out).2.2, (OwnI.intA Obm_7.out).2.2⟩, (OwnI.intA Obp_7.out).2.1, (OwnI.intA Obm_7.out).2.1, by omega, by omega⟩).mono ?_
            rintro en w8 ⟨rfl, b⟩
            have HB8 := Lib.hid (HB7.out.trans (b.mono HB7.out.size))
            have hs8 := Lib.hid b.size
            have Oap_8 := Lib.hid (owni_later Oap_7.out b)
            have Oam_8 := Lib.hid (owni_later Oam_7.out b)
            have Obp_8 := Lib.hid (owni_later Obp_7.out b)
            have Obm_8 := Lib.hid (owni_later Obm_7.out b)
            have Xa_8 := Lib.hid (At5.below Xa_7.out b)
            have Xb_8 := Lib.hid (At5.below Xb_7.out b)
            clear b
            obtain ⟨⟨qa0, qa1, qa2, qa3, qa4⟩, _⟩ := Xa_8.out
            obtain ⟨⟨qb0, qb1, qb2, qb3, qb4⟩, _⟩ := Xb_8.out
            go_wp2_with fail
            clear qa0 qa1 qa2 qa3 qa4
            clear qb0 qb1 qb2 qb3 qb4
            go_ret
            exact ⟨rfl, HB8.out⟩
          · have d3 : decide (fa = fb ∧ ba = bb) = false := decide_eq_false h3
            have HD := Lib.hid (show ¬ (la = lb ∧ Pa = Pb ∧ fa = fb ∧ ba = bb) from fun h => h3 h.2.2)
            clear h1 h2 h3
            obtain ⟨⟨qa0, qa1, qa2, qa3, qa4⟩, _⟩ := Xa_6.out
            obtain ⟨⟨qb0, qb1, qb2, qb3, qb4⟩, _⟩ := Xb_6.out
            go_wp2_with fail
            clear qa0 qa1 qa2 qa3 qa4
            clear qb0 qb1 qb2 qb3 qb4
            refine (lyI_is d2 aap abp _ _ _ _ _ rfl rfl (OwnI.intA Oap_6.out).2.2 (OwnI.intA Obp_6.out).2.2 (by omega) (by omega)).mono ?_
            rintro en w7 ⟨rfl, b⟩
            have HB7 := Lib.hid (HB6.out.trans (b.mono HB6.out.size))
            have hs7 := Lib.hid b.size
            have Oap_7 := Lib.hid (owni_later Oap_6.out b)
            have Oam_7 := Lib.hid (owni_later Oam_6.out b)
            have Obp_7 := Lib.hid (owni_later Obp_6.out b)
            have Obm_7 := Lib.hid (owni_later Obm_6.out b)
            have Xa_7 := Lib.hid (At5.below Xa_6.out b)
            have Xb_7 := Lib.hid (At5.below Xb_6.out b)
            clear b
            have HQ := eqlRg fa ba fb bb
            have HW : Hid (rtCmp (fV, bV, PV, lV, MV) (fY, bY, PY, lY, MY) = n) := Lib.hid (by rw [rtCmp_yes ((rtOk_iff _).2 HFV.out.goodU) ((rtOk_iff _).2 HFY.out.goodU)]; have e1 := HFV.out.is; have e2 := HFY.out.is; rw [e1, e2]; have := rtCmp0_marks (a := (fa, ba, Pa, la, Ma)) (b := (fb, bb, Pb, lb, Mb)) HD.out; dsimp only at this ⊢; rw [this, ← rtCmp_yes HRA.out HRB.out]; exact HN.out)
            obtain ⟨⟨qa0, qa1, qa2, qa3, qa4⟩, _⟩ := Xa_7.out
            obtain ⟨⟨qb0, qb1, qb2, qb3, qb4⟩, _⟩ := Xb_7.out
            go_wp2_with fail
            clear qa0 qa1 qa2 qa3 qa4
            clear qb0 qb1 qb2 qb3 qb4
            refine (irtmark_is fa ba aap cap (Pa) la aam cam (Ma) HV.out _ p ⟨⟨(OwnI.intA Oap_7.out).2.2, (OwnI.intA Oam_7.out).2.2⟩, (OwnI.intA Oap_7.out).2.1, (OwnI.intA Oam_7.out).2.1, by omega, by omega⟩ (HE.out.below HB7.out)).mono ?_
            rintro en w8 ⟨pv, mv, rfl, S, o, bP, o2, hS, b⟩
            have HB8 := Lib.hid (HB7.out.trans (b.mono HB7.out.size))
            have hs8 := Lib.hid b.size
            have Oap_8 := Lib.hid (owni_later Oap_7.out b)
            have Oam_8 := Lib.hid (owni_later Oam_7.out b)
            have Obp_8 := Lib.hid (owni_later Obp_7.out b)
            have Obm_8 := Lib.hid (owni_later Obm_7.out b)
            have Xa_8 := Lib.hid (At5.below Xa_7.out b)
            have Xb_8 := Lib.hid (At5.below Xb_7.out b)
            replace o : OwnI w8 w7.heap.size pv PV := o
            replace o2 : OwnI w8 S mv MV := o2
            obtain ⟨axp, cxp, rfl, _, _⟩ := OwnI.tab o
            obtain ⟨axm, cxm, rfl, _, _⟩ := OwnI.tab o2
            have Ax := Lib.hid (apart2 bP o2)
            have Bxp := Lib.hid (OwnI.btw o)
            have Bxm := Lib.hid ((OwnI.btw o2).mono hS (Nat.le_refl _))
            have Oxp_8 := Lib.hid (owni_mono o HB7.out.size)
            have Oxm_8 := Lib.hid (owni_mono o2 (Nat.le_trans HB7.out.size hS))
            clear o o2 bP hS b
            have HB9 := Lib.hid (HB8.out.alloc HB8.out.size (.cells #[.int .i64 fV, .int .i64 bV, .slice axp (PV).length cxp, .int .i64 lV, .slice axm (MV).length cxm] 27))
            have hs9 := Lib.hid (show w8.heap.size + 1 = (w8.alloc (.cells #[.int .i64 fV, .int .i64 bV, .slice axp (PV).length cxp, .int .i64 lV, .slice axm (MV).length cxm] 27)).heap.size by simp)
            have Oap_9 := Lib.hid (World.ownsRow.alloc Oap_8.out (.cells #[.int .i64 fV, .int .i64 bV, .slice axp (PV).length cxp, .int .i64 lV, .slice axm (MV).length cxm] 27))
            have Oam_9 := Lib.hid (World.ownsRow.alloc Oam_8.out (.cells #[.int .i64 fV, .int .i64 bV, .slice axp (PV).length cxp, .int .i64 lV, .slice axm (MV).length cxm] 27))
            have Obp_9 := Lib.hid (World.ownsRow.alloc Obp_8.out (.cells #[.int .i64 fV, .int .i64 bV, .slice axp (PV).length cxp, .int .i64 lV, .slice axm (MV).length cxm] 27))
            have Obm_9 := Lib.hid (World.ownsRow.alloc Obm_8.out (.cells #[.int .i64 fV, .int .i64 bV, .slice axp (PV).length cxp, .int .i64 lV, .slice axm (MV).length cxm] 27))
            have Oxp_9 := Lib.hid (World.ownsRow.alloc Oxp_8.out (.cells #[.int .i64 fV, .int .i64 bV, .slice axp (PV).length cxp, .int .i64 lV, .slice axm (MV).length cxm] 27))
            have Oxm_9 := Lib.hid (World.ownsRow.alloc Oxm_8.out (.cells #[.int .i64 fV, .int .i64 bV, .slice axp (PV).length cxp, .int .i64 lV, .slice axm (MV).length cxm] 27))
            have Xa_9 := Lib.hid (At5.alloc Xa_8.out (.cells #[.int .i64 fV, .int .i64 bV, .slice axp (PV).length cxp, .int .i64 lV, .slice axm (MV).length cxm] 27))
            have Xb_9 := Lib.hid (At5.alloc Xb_8.out (.cells #[.int .i64 fV, .int .i64 bV, .slice axp (PV).length cxp, .int .i64 lV, .slice axm (MV).length cxm] 27))
            have Xx_9 := Lib.hid (At5.new w8 (.int .i64 fV) (.int .i64 bV) (.slice axp (PV).length cxp) (.int .i64 lV) (.slice axm (MV).length cxm) 27)
            obtain ⟨⟨qa0, qa1, qa2, qa3, qa4⟩, _⟩ := Xa_9.out
            obtain ⟨⟨qb0, qb1, qb2, qb3, qb4⟩, _⟩ := Xb_9.out
            go_wp2_with fail
            clear qa0 qa1 qa2 qa3 qa4
            clear qb0 qb1 qb2 qb3 qb4
            generalize w8.alloc (.cells #[.int .i64 fV, .int .i64 bV, .slice axp (PV).length cxp, .int .i64 lV, .slice axm (MV).length cxm] 27) = w9 at *
            refine (irtclear_is fb bb abp cbp (Pb) lb abm cbm (Mb) HY.out _ p ⟨⟨(OwnI.intA Obp_9.out).2.2, (OwnI.intA Obm_9.out).2.2⟩, (OwnI.intA Obp_9.out).2.1, (OwnI.intA Obm_9.out).2.1, by omega, by omega⟩ (HE.out.below HB9.out)).mono ?_
            rintro en w10 ⟨pv, mv, rfl, S, o, bP, o2, hS, b⟩
            have HB10 := Lib.hid (HB9.out.trans (b.mono HB9.out.size))
            have hs10 := Lib.hid b.size
            have Oap_10 := Lib.hid (owni_later Oap_9.out b)
            have Oam_10 := Lib.hid (owni_later Oam_9.out b)
            have Obp_10 := Lib.hid (owni_later Obp_9.out b)
            have Obm_10 := Lib.hid (owni_later Obm_9.out b)
            have Oxp_10 := Lib.hid (owni_later Oxp_9.out b)
            have Oxm_10 := Lib.hid (owni_later Oxm_9.out b)
            have Xa_10 := Lib.hid (At5.below Xa_9.out b)
            have Xb_10 := Lib.hid (At5.below Xb_9.out b)
            have Xx_10 := Lib.hid (At5.below Xx_9.out b)
            replace o : OwnI w10 w9.heap.size pv PY := o
            replace o2 : OwnI w10 S mv MY := o2
            obtain ⟨ayp, cyp, rfl, _, _⟩ := OwnI.tab o
            obtain ⟨aym, cym, rfl, _, _⟩ := OwnI.tab o2
            have Ay := Lib.hid (apart2 bP o2)
            have Byp := Lib.hid (OwnI.btw o)
            have Bym := Lib.hid ((OwnI.btw o2).mono hS (Nat.le_refl _))
            have Oyp_10 := Lib.hid (owni_mono o HB9.out.size)
            have Oym_10 := Lib.hid (owni_mono o2 (Nat.le_trans HB9.out.size hS))
            clear o o2 bP hS b
            have HB11 := Lib.hid (HB10.out.alloc HB10.out.size (.cells #[.int .i64 fY, .int .i64 bY, .slice ayp (PY).length cyp, .int .i64 lY, .slice aym (MY).length cym] 27))
            have hs11 := Lib.hid (show w10.heap.size + 1 = (w10.alloc (.cells #[.int .i64 fY, .int .i64 bY, .slice ayp (PY).length cyp, .int .i64 lY, .slice aym (MY).length cym] 27)).heap.size by simp)
            have Oap_11 := Lib.hid (World.ownsRow.alloc Oap_10.out (.cells #[.int .i64 fY, .int .i64 bY, .slice ayp (PY).length cyp, .int .i64 lY, .slice aym (MY).length cym] 27))
            have Oam_11 := Lib.hid (World.ownsRow.alloc Oam_10.out (.cells #[.int .i64 fY, .int .i64 bY, .slice ayp (PY).length cyp, .int .i64 lY, .slice aym (MY).length cym] 27))
            have Obp_11 := Lib.hid (World.ownsRow.alloc Obp_10.out (.cells #[.int .i64 fY, .int .i64 bY, .slice ayp (PY).length cyp, .int .i64 lY, .slice aym (MY).length cym] 27))
            have Obm_11 := Lib.hid (World.ownsRow.alloc Obm_10.out (.cells #[.int .i64 fY, .int .i64 bY, .slice ayp (PY).length cyp, .int .i64 lY, .slice aym (MY).length cym] 27))
            have Oxp_11 := Lib.hid (World.ownsRow.alloc Oxp_10.out (.cells #[.int .i64 fY, .int .i64 bY, .slice ayp (PY).length cyp, .int .i64 lY, .slice aym (MY).length cym] 27))
            have Oxm_11 := Lib.hid (World.ownsRow.alloc Oxm_10.out (.cells #[.int .i64 fY, .int .i64 bY, .slice ayp (PY).length cyp, .int .i64 lY, .slice aym (MY).length cym] 27))
            have Oyp_11 := Lib.hid (World.ownsRow.alloc Oyp_10.out (.cells #[.int .i64 fY, .int .i64 bY, .slice ayp (PY).length cyp, .int .i64 lY, .slice aym (MY).length cym] 27))
            have Oym_11 := Lib.hid (World.ownsRow.alloc Oym_10.out (.cells #[.int .i64 fY, .int .i64 bY, .slice ayp (PY).length cyp, .int .i64 lY, .slice aym (MY).length cym] 27))
            have Xa_11 := Lib.hid (At5.alloc Xa_10.out (.cells #[.int .i64 fY, .int .i64 bY, .slice ayp (PY).length cyp, .int .i64 lY, .slice aym (MY).length cym] 27))
            have Xb_11 := Lib.hid (At5.alloc Xb_10.out (.cells #[.int .i64 fY, .int .i64 bY, .slice ayp (PY).length cyp, .int .i64 lY, .slice aym (MY).length cym] 27))
            have Xx_11 := Lib.hid (At5.alloc Xx_10.out (.cells #[.int .i64 fY, .int .i64 bY, .slice ayp (PY).length cyp, .int .i64 lY, .slice aym (MY).length cym] 27))
            have Xy_11 := Lib.hid (At5.new w10 (.int .i64 fY) (.int .i64 bY) (.slice ayp (PY).length cyp) (.int .i64 lY) (.slice aym (MY).length cym) 27)
            obtain ⟨⟨qa0, qa1, qa2, qa3, qa4⟩, _⟩ := Xa_11.out
            obtain ⟨⟨qb0, qb1, qb2, qb3, qb4⟩, _⟩ := Xb_11.out
            obtain ⟨⟨qx0, qx1, qx2, qx3, qx4⟩, _⟩ := Xx_11.out
            go_wp2_with fail
            clear qa0 qa1 qa2 qa3 qa4
            clear qb0 qb1 qb2 qb3 qb4
            clear qx0 qx1 qx2 qx3 qx4
            generalize w10.alloc (.cells #[.int .i64 fY, .int .i64 bY, .slice ayp (PY).length cyp, .int .i64 lY, .slice aym (MY).length cym] 27) = w11 at *
            refine (ircmp_is fV bV axp cxp (PV) lV axm cxm (MV) fY bY ayp cyp (PY) lY aym cym (MY) HW.out _ p ⟨⟨(OwnI.intA Oxp_11.out).2.2, (OwnI.intA Oxm_11.out).2.2⟩, (OwnI.intA Oxp_11.out).2.1, (OwnI.intA Oxm_11.out).2.1, by omega, by omega⟩ ⟨⟨(OwnI.intA Oyp_11.out).2.2, (OwnI.intA Oym_11.out).2.2⟩, (OwnI.intA Oyp_11.out).2.1, (OwnI.intA Oym_11.out).2.1, by omega, by omega⟩ (HE.out.below HB11.out)).mono ?_
            rintro en w12 ⟨rfl, b⟩
            have HB12 := Lib.hid (HB11.out.trans (b.mono HB11.out.size))
            have hs12 := Lib.hid b.size
            have Oap_12 := Lib.hid (owni_later Oap_11.out b)
            have Oam_12 := Lib.hid (owni_later Oam_11.out b)
            have Obp_12 := Lib.hid (owni_later Obp_11.out b)
            have Obm_12 := Lib.hid (owni_later Obm_11.out b)
            have Oxp_12 := Lib.hid (owni_later Oxp_11.out b)
            have Oxm_12 := Lib.hid (owni_later Oxm_11.out b)
            have Oyp_12 := Lib.hid (owni_later Oyp_11.out b)
            have Oym_12 := Lib.hid (owni_later Oym_11.out b)
            have Xa_12 := Lib.hid (At5.below Xa_11.out b)
            have Xb_12 := Lib.hid (At5.below Xb_11.out b)
            have Xx_12 := Lib.hid (At5.below Xx_11.out b)
            have Xy_12 := Lib.hid (At5.below Xy_11.out b)
            clear b
            obtain ⟨⟨qa0, qa1, qa2, qa3, qa4⟩, _⟩ := Xa_12.out
            obtain ⟨⟨qb0, qb1, qb2, qb3, qb4⟩, _⟩ := Xb_12.out
            obtain ⟨⟨qx0, qx1, qx2, qx3, qx4⟩, _⟩ := Xx_12.out
            obtain ⟨⟨qy0, qy1, qy2, qy3, qy4⟩, _⟩ := Xy_12.out
            go_wp2_with fail
            clear qa0 qa1 qa2 qa3 qa4
            clear qb0 qb1 qb2 qb3 qb4
            clear qx0 qx1 qx2 qx3 qx4
            clear qy0 qy1 qy2 qy3 qy4
            go_ret
            exact ⟨rfl, HB12.out⟩
        · have d2 : decide (Pa = Pb) = false := decide_eq_false h2
          have HD := Lib.hid (show ¬ (la = lb ∧ Pa = Pb ∧ fa = fb ∧ ba = bb) from fun h => h2 h.2.1)
          clear h1 h2
          obtain ⟨⟨qa0, qa1, qa2, qa3, qa4⟩, _⟩ := Xa_6.out
          obtain ⟨⟨qb0, qb1, qb2, qb3, qb4⟩, _⟩ := Xb_6.out
          go_wp2_with fail
          clear qa0 qa1 qa2 qa3 qa4
          clear qb0 qb1 qb2 qb3 qb4
          refine (lyI_is d2 aap abp _ _ _ _ _ rfl rfl (OwnI.intA Oap_6.out).2.2 (OwnI.intA Obp_6.out).2.2 (by omega) (by omega)).mono ?_
          rintro en w7 ⟨rfl, b⟩
          have HB7 := Lib.hid (HB6.out.trans (b.mono HB6.out.size))
          have hs7 := Lib.hid b.size
          have Oap_7 := Lib.hid (owni_later Oap_6.out b)
          have Oam_7 := Lib.hid (owni_later Oam_6.out b)
          have Obp_7 := Lib.hid (owni_later Obp_6.out b)
          have Obm_7 := Lib.hid (owni_later Obm_6.out b)
          have Xa_7 := Lib.hid (At5.below Xa_6.out b)
          have Xb_7 := Lib.hid (At5.below Xb_6.out b)
          clear b
          have HW : Hid (rtCmp (fV, bV, PV, lV, MV) (fY, bY, PY, lY, MY) = n) := Lib.hid (by rw [rtCmp_yes ((rtOk_iff _).2 HFV.out.goodU) ((rtOk_iff _).2 HFY.out.goodU)]; have e1 := HFV.out.is; have e2 := HFY.out.is; rw [e1, e2]; have := rtCmp0_marks (a := (fa, ba, Pa, la, Ma)) (b := (fb, bb, Pb, lb, Mb)) HD.out; dsimp only at this ⊢; rw [this, ← rtCmp_yes HRA.out HRB.out]; exact HN.out)
          obtain ⟨⟨qa0, qa1, qa2, qa3, qa4⟩, _⟩ := Xa_7.out
          obtain ⟨⟨qb0, qb1, qb2, qb3, qb4⟩, _⟩ := Xb_7.out
          go_wp2_with fail
          clear qa0 qa1 qa2 qa3 qa4
          clear qb0 qb1 qb2 qb3 qb4
          refine (irtmark_is fa ba aap cap (Pa) la aam cam (Ma) HV.out _ p ⟨⟨(OwnI.intA Oap_7.out).2.2, (OwnI.intA Oam_7.out).2.2⟩, (OwnI.intA Oap_7.out).2.1, (OwnI.intA Oam_7.out).2.1, by omega, by omega⟩ (HE.out.below HB7.out)).mono ?_
          rintro en w8 ⟨pv, mv, rfl, S, o, bP, o2, hS, b⟩
          have HB8 := Lib.hid (HB7.out.trans (b.mono HB7.out.size))
          have hs8 := Lib.hid b.size
          have Oap_8 := Lib.hid (owni_later Oap_7.out b)
          have Oam_8 := Lib.hid (owni_later Oam_7.out b)
          have Obp_8 := Lib.hid (owni_later Obp_7.out b)
          have Obm_8 := Lib.hid (owni_later Obm_7.out b)
          have Xa_8 := Lib.hid (At5.below Xa_7.out b)
          have Xb_8 := Lib.hid (At5.below Xb_7.out b)
          replace o : OwnI w8 w7.heap.size pv PV := o
          replace o2 : OwnI w8 S mv MV := o2
          obtain ⟨axp, cxp, rfl, _, _⟩ := OwnI.tab o
          obtain ⟨axm, cxm, rfl, _, _⟩ := OwnI.tab o2
          have Ax := Lib.hid (apart2 bP o2)
          have Bxp := Lib.hid (OwnI.btw o)
          have Bxm := Lib.hid ((OwnI.btw o2).mono hS (Nat.le_refl _))
          have Oxp_8 := Lib.hid (owni_mono o HB7.out.size)
          have Oxm_8 := Lib.hid (owni_mono o2 (Nat.le_trans HB7.out.size hS))
          clear o o2 bP hS b
          have HB9 := Lib.hid (HB8.out.alloc HB8.out.size (.cells #[.int .i64 fV, .int .i64 bV, .slice axp (PV).length cxp, .int .i64 lV, .slice axm (MV).length cxm] 27))
          have hs9 := Lib.hid (show w8.heap.size + 1 = (w8.alloc (.cells #[.int .i64 fV, .int .i64 bV, .slice axp (PV).length cxp, .int .i64 lV, .slice axm (MV).length cxm] 27)).heap.size by simp)
          have Oap_9 := Lib.hid (World.ownsRow.alloc Oap_8.out (.cells #[.int .i64 fV, .int .i64 bV, .slice axp (PV).length cxp, .int .i64 lV, .slice axm (MV).length cxm] 27))
          have Oam_9 := Lib.hid (World.ownsRow.alloc Oam_8.out (.cells #[.int .i64 fV, .int .i64 bV, .slice axp (PV).length cxp, .int .i64 lV, .slice axm (MV).length cxm] 27))
          have Obp_9 := Lib.hid (World.ownsRow.alloc Obp_8.out (.cells #[.int .i64 fV, .int .i64 bV, .slice axp (PV).length cxp, .int .i64 lV, .slice axm (MV).length cxm] 27))
          have Obm_9 := Lib.hid (World.ownsRow.alloc Obm_8.out (.cells #[.int .i64 fV, .int .i64 bV, .slice axp (PV).length cxp, .int .i64 lV, .slice axm (MV).length cxm] 27))
          have Oxp_9 := Lib.hid (World.ownsRow.alloc Oxp_8.out (.cells #[.int .i64 fV, .int .i64 bV, .slice axp (PV).length cxp, .int .i64 lV, .slice axm (MV).length cxm] 27))
          have Oxm_9 := Lib.hid (World.ownsRow.alloc Oxm_8.out (.cells #[.int .i64 fV, .int .i64 bV, .slice axp (PV).length cxp, .int .i64 lV, .slice axm (MV).length cxm] 27))
          have Xa_9 := Lib.hid (At5.alloc Xa_8.out (.cells #[.int .i64 fV, .int .i64 bV, .slice axp (PV).length cxp, .int .i64 lV, .slice axm (MV).length cxm] 27))
          have Xb_9 := Lib.hid (At5.alloc Xb_8.out (.cells #[.int .i64 fV, .int .i64 bV, .slice axp (PV).length cxp, .int .i64 lV, .slice axm (MV).length cxm] 27))
          have Xx_9 := Lib.hid (At5.new w8 (.int .i64 fV) (.int .i64 bV) (.slice axp (PV).length cxp) (.int .i64 lV) (.slice axm (MV).length cxm) 27)
          obtain ⟨⟨qa0, qa1, qa2, qa3, qa4⟩, _⟩ := Xa_9.out
          obtain ⟨⟨qb0, qb1, qb2, qb3, qb4⟩, _⟩ := Xb_9.out
          go_wp2_with fail
          clear qa0 qa1 qa2 qa3 qa4
          clear qb0 qb1 qb2 qb3 qb4
          generalize w8.alloc (.cells #[.int .i64 fV, .int .i64 bV, .slice axp (PV).length cxp, .int .i64 lV, .slice axm (MV).length cxm] 27) = w9 at *
          refine (irtclear_is fb bb abp cbp (Pb) lb abm cbm (Mb) HY.out _ p ⟨⟨(OwnI.intA Obp_9.out).2.2, (OwnI.intA Obm_9.out).2.2⟩, (OwnI.intA Obp_9.out).2.1, (OwnI.intA Obm_9.out).2.1, by omega, by omega⟩ (HE.out.below HB9.out)).mono ?_
          rintro en w10 ⟨pv, mv, rfl, S, o, bP, o2, hS, b⟩
          have HB10 := Lib.hid (HB9.out.trans (b.mono HB9.out.size))
          have hs10 := Lib.hid b.size
          have Oap_10 := Lib.hid (owni_later Oap_9.out b)
          have Oam_10 := Lib.hid (owni_later Oam_9.out b)
          have Obp_10 := Lib.hid (owni_later Obp_9.out b)
          have Obm_10 := Lib.hid (owni_later Obm_9.out b)
          have Oxp_10 := Lib.hid (owni_later Oxp_9.out b)
          have Oxm_10 := Lib.hid (owni_later Oxm_9.out b)
          have Xa_10 := Lib.hid (At5.below Xa_9.out b)
          have Xb_10 := Lib.hid (At5.below Xb_9.out b)
          have Xx_10 := Lib.hid (At5.below Xx_9.out b)
          replace o : OwnI w10 w9.heap.size pv PY := o
          replace o2 : OwnI w10 S mv MY := o2
          obtain ⟨ayp, cyp, rfl, _, _⟩ := OwnI.tab o
          obtain ⟨aym, cym, rfl, _, _⟩ := OwnI.tab o2
          have Ay := Lib.hid (apart2 bP o2)
          have Byp := Lib.hid (OwnI.btw o)
          have Bym := Lib.hid ((OwnI.btw o2).mono hS (Nat.le_refl _))
          have Oyp_10 := Lib.hid (owni_mono o HB9.out.size)
          have Oym_10 := Lib.hid (owni_mono o2 (Nat.le_trans HB9.out.size hS))
          clear o o2 bP hS b
          have HB11 := Lib.hid (HB10.out.alloc HB10.out.size (.cells #[.int .i64 fY, .int .i64 bY, .slice ayp (PY).length cyp, .int .i64 lY, .slice aym (MY).length cym] 27))
          have hs11 := Lib.hid (show w10.heap.size + 1 = (w10.alloc (.cells #[.int .i64 fY, .int .i64 bY, .slice ayp (PY).length cyp, .int .i64 lY, .slice aym (MY).length cym] 27)).heap.size by simp)
          have Oap_11 := Lib.hid (World.ownsRow.alloc Oap_10.out (.cells #[.int .i64 fY, .int .i64 bY, .slice ayp (PY).length cyp, .int .i64 lY, .slice aym (MY).length cym] 27))
          have Oam_11 := Lib.hid (World.ownsRow.alloc Oam_10.out (.cells #[.int .i64 fY, .int .i64 bY, .slice ayp (PY).length cyp, .int .i64 lY, .slice aym (MY).length cym] 27))
          have Obp_11 := Lib.hid (World.ownsRow.alloc Obp_10.out (.cells #[.int .i64 fY, .int .i64 bY, .slice ayp (PY).length cyp, .int .i64 lY, .slice aym (MY).length cym] 27))
          have Obm_11 := Lib.hid (World.ownsRow.alloc Obm_10.out (.cells #[.int .i64 fY, .int .i64 bY, .slice ayp (PY).length cyp, .int .i64 lY, .slice aym (MY).length cym] 27))
          have Oxp_11 := Lib.hid (World.ownsRow.alloc Oxp_10.out (.cells #[.int .i64 fY, .int .i64 bY, .slice ayp (PY).length cyp, .int .i64 lY, .slice aym (MY).length cym] 27))
          have Oxm_11 := Lib.hid (World.ownsRow.alloc Oxm_10.out (.cells #[.int .i64 fY, .int .i64 bY, .slice ayp (PY).length cyp, .int .i64 lY, .slice aym (MY).length cym] 27))
          have Oyp_11 := Lib.hid (World.ownsRow.alloc Oyp_10.out (.cells #[.int .i64 fY, .int .i64 bY, .slice ayp (PY).length cyp, .int .i64 lY, .slice aym (MY).length cym] 27))
          have Oym_11 := Lib.hid (World.ownsRow.alloc Oym_10.out (.cells #[.int .i64 fY, .int .i64 bY, .slice ayp (PY).length cyp, .int .i64 lY, .slice aym (MY).length cym] 27))
          have Xa_11 := Lib.hid (At5.alloc Xa_10.out (.cells #[.int .i64 fY, .int .i64 bY, .slice ayp (PY).length cyp, .int .i64 lY, .slice aym (MY).length cym] 27))
          have Xb_11 := Lib.hid (At5.alloc Xb_10.out (.cells #[.int .i64 fY, .int .i64 bY, .slice ayp (PY).length cyp, .int .i64 lY, .slice aym (MY).length cym] 27))
          have Xx_11 := Lib.hid (At5.alloc Xx_10.out (.cells #[.int .i64 fY, .int .i64 bY, .slice ayp (PY).length cyp, .int .i64 lY, .slice aym (MY).length cym] 27))
          have Xy_11 := Lib.hid (At5.new w10 (.int .i64 fY) (.int .i64 bY) (.slice ayp (PY).length cyp) (.int .i64 lY) (.slice aym (MY).length cym) 27)
          obtain ⟨⟨qa0, qa1, qa2, qa3, qa4⟩, _⟩ := Xa_11.out
          obtain ⟨⟨qb0, qb1, qb2, qb3, qb4⟩, _⟩ := Xb_11.out
          obtain ⟨⟨qx0, qx1, qx2, qx3, qx4⟩, _⟩ := Xx_11.out
          go_wp2_with fail
          clear qa0 qa1 qa2 qa3 qa4
          clear qb0 qb1 qb2 qb3 qb4
          clear qx0 qx1 qx2 qx3 qx4
          generalize w10.alloc (.cells #[.int .i64 fY, .int .i64 bY, .slice ayp (PY).length cyp, .int .i64 lY, .slice aym (MY).length cym] 27) = w11 at *
          refine (ircmp_is fV bV axp cxp (PV) lV axm cxm (MV) fY bY ayp cyp (PY) lY aym cym (MY) HW.out _ p ⟨⟨(OwnI.intA Oxp_11.out).2.2, (OwnI.intA Oxm_11.out).2.2⟩, (OwnI.intA Oxp_11.out).2.1, (OwnI.intA Oxm_11.out).2.1, by omega, by omega⟩ ⟨⟨(OwnI.intA Oyp_11.out).2.2, (OwnI.intA Oym_11.out).2.2⟩, (OwnI.intA Oyp_11.out).2.1, (OwnI.intA Oym_11.out).2.1, by omega, by omega⟩ (HE.out.below HB11.out)).mono ?_
          rintro en w12 ⟨rfl, b⟩
          have HB12 := Lib.hid (HB11.out.trans (b.mono HB11.out.size))
          have hs12 := Lib.hid b.size
          have Oap_12 := Lib.hid (owni_later Oap_11.out b)
          have Oam_12 := Lib.hid (owni_later Oam_11.out b)
          have Obp_12 := Lib.hid (owni_later Obp_11.out b)
          have Obm_12 := Lib.hid (owni_later Obm_11.out b)
          have Oxp_12 := Lib.hid (owni_later Oxp_11.out b)
          have Oxm_12 := Lib.hid (owni_later Oxm_11.out b)
          have Oyp_12 := Lib.hid (owni_later Oyp_11.out b)
          have Oym_12 := Lib.hid (owni_later Oym_11.out b)
          have Xa_12 := Lib.hid (At5.below Xa_11.out b)
          have Xb_12 := Lib.hid (At5.below Xb_11.out b)
          have Xx_12 := Lib.hid (At5.below Xx_11.out b)
          have Xy_12 := Lib.hid (At5.below Xy_11.out b)
          clear b
          obtain ⟨⟨qa0, qa1, qa2, qa3, qa4⟩, _⟩ := Xa_12.out
          obtain ⟨⟨qb0, qb1, qb2, qb3, qb4⟩, _⟩ := Xb_12.out
          obtain ⟨⟨qx0, qx1, qx2, qx3, qx4⟩, _⟩ := Xx_12.out
          obtain ⟨⟨qy0, qy1, qy2, qy3, qy4⟩, _⟩ := Xy_12.out
          go_wp2_with fail
          clear qa0 qa1 qa2 qa3 qa4
          clear qb0 qb1 qb2 qb3 qb4
          clear qx0 qx1 qx2 qx3 qx4
          clear qy0 qy1 qy2 qy3 qy4
          go_ret
          exact ⟨rfl, HB12.out⟩
      · have d1 : (la == lb) = false := by simp [h1]
        have HD := Lib.hid (show ¬ (la = lb ∧ Pa = Pb ∧ fa = fb ∧ ba = bb) from fun h => h1 h.1)
        clear h1
        have HW : Hid (rtCmp (fV, bV, PV, lV, MV) (fY, bY, PY, lY, MY) = n) := Lib.hid (by rw [rtCmp_yes ((rtOk_iff _).2 HFV.out.goodU) ((rtOk_iff _).2 HFY.out.goodU)]; have e1 := HFV.out.is; have e2 := HFY.out.is; rw [e1, e2]; have := rtCmp0_marks (a := (fa, ba, Pa, la, Ma)) (b := (fb, bb, Pb, lb, Mb)) HD.out; dsimp only at this ⊢; rw [this, ← rtCmp_yes HRA.out HRB.out]; exact HN.out)
        obtain ⟨⟨qa0, qa1, qa2, qa3, qa4⟩, _⟩ := Xa_6.out
        obtain ⟨⟨qb0, qb1, qb2, qb3, qb4⟩, _⟩ := Xb_6.out
        go_wp2_with fail
        clear qa0 qa1 qa2 qa3 qa4
        clear qb0 qb1 qb2 qb3 qb4
        refine (irtmark_is fa ba aap cap (Pa) la aam cam (Ma) HV.out _ p ⟨⟨(OwnI.intA Oap_6.out).2.2, (OwnI.intA Oam_6.out).2.2⟩, (OwnI.intA Oap_6.out).2.1, (OwnI.intA Oam_6.out).2.1, by omega, by omega⟩ (HE.out.below HB6.out)).mono ?_
        rintro en w7 ⟨pv, mv, rfl, S, o, bP, o2, hS, b⟩
        have HB7 := Lib.hid (HB6.out.trans (b.mono HB6.out.size))
        have hs7 := Lib.hid b.size
        have Oap_7 := Lib.hid (owni_later Oap_6.out b)
        have Oam_7 := Lib.hid (owni_later Oam_6.out b)
        have Obp_7 := Lib.hid (owni_later Obp_6.out b)
        have Obm_7 := Lib.hid (owni_later Obm_6.out b)
        have Xa_7 := Lib.hid (At5.below Xa_6.out b)
        have Xb_7 := Lib.hid (At5.below Xb_6.out b)
        replace o : OwnI w7 w6.heap.size pv PV := o
        replace o2 : OwnI w7 S mv MV := o2
        obtain ⟨axp, cxp, rfl, _, _⟩ := OwnI.tab o
        obtain ⟨axm, cxm, rfl, _, _⟩ := OwnI.tab o2
        have Ax := Lib.hid (apart2 bP o2)
        have Bxp := Lib.hid (OwnI.btw o)
        have Bxm := Lib.hid ((OwnI.btw o2).mono hS (Nat.le_refl _))
        have Oxp_7 := Lib.hid (owni_mono o HB6.out.size)
        have Oxm_7 := Lib.hid (owni_mono o2 (Nat.le_trans HB6.out.size hS))
        clear o o2 bP hS b
        have HB8 := Lib.hid (HB7.out.alloc HB7.out.size (.cells #[.int .i64 fV, .int .i64 bV, .slice axp (PV).length cxp, .int .i64 lV, .slice axm (MV).length cxm] 27))
        have hs8 := Lib.hid (show w7.heap.size + 1 = (w7.alloc (.cells #[.int .i64 fV, .int .i64 bV, .slice axp (PV).length cxp, .int .i64 lV, .slice axm (MV).length cxm] 27)).heap.size by simp)
        have Oap_8 := Lib.hid (World.ownsRow.alloc Oap_7.out (.cells #[.int .i64 fV, .int .i64 bV, .slice axp (PV).length cxp, .int .i64 lV, .slice axm (MV).length cxm] 27))
        have Oam_8 := Lib.hid (World.ownsRow.alloc Oam_7.out (.cells #[.int .i64 fV, .int .i64 bV, .slice axp (PV).length cxp, .int .i64 lV, .slice axm (MV).length cxm] 27))
        have Obp_8 := Lib.hid (World.ownsRow.alloc Obp_7.out (.cells #[.int .i64 fV, .int .i64 bV, .slice axp (PV).length cxp, .int .i64 lV, .slice axm (MV).length cxm] 27))
        have Obm_8 := Lib.hid (World.ownsRow.alloc Obm_7.out (.cells #[.int .i64 fV, .int .i64 bV, .slice axp (PV).length cxp, .int .i64 lV, .slice axm (MV).length cxm] 27))
        have Oxp_8 := Lib.hid (World.ownsRow.alloc Oxp_7.out (.cells #[.int .i64 fV, .int .i64 bV, .slice axp (PV).length cxp, .int .i64 lV, .slice axm (MV).length cxm] 27))
        have Oxm_8 := Lib.hid (World.ownsRow.alloc Oxm_7.out (.cells #[.int .i64 fV, .int .i64 bV, .slice axp (PV).length cxp, .int .i64 lV, .slice axm (MV).length cxm] 27))
        have Xa_8 := Lib.hid (At5.alloc Xa_7.out (.cells #[.int .i64 fV, .int .i64 bV, .slice axp (PV).length cxp, .int .i64 lV, .slice axm (MV).length cxm] 27))
        have Xb_8 := Lib.hid (At5.alloc Xb_7.out (.cells #[.int .i64 fV, .int .i64 bV, .slice axp (PV).length cxp, .int .i64 lV, .slice axm (MV).length cxm] 27))
        have Xx_8 := Lib.hid (At5.new w7 (.int .i64 fV) (.int .i64 bV) (.slice axp (PV).length cxp) (.int .i64 lV) (.slice axm (MV).length cxm) 27)
        obtain ⟨⟨qa0, qa1, qa2, qa3, qa4⟩, _⟩ := Xa_8.out
        obtain ⟨⟨qb0, qb1, qb2, qb3, qb4⟩, _⟩ := Xb_8.out
        go_wp2_with fail
        clear qa0 qa1 qa2 qa3 qa4
        clear qb0 qb1 qb2 qb3 qb4
        generalize w7.alloc (.cells #[.int .i64 fV, .int .i64 bV, .slice axp (PV).length cxp, .int .i64 lV, .slice axm (MV).length cxm] 27) = w8 at *
        refine (irtclear_is fb bb abp cbp (Pb) lb abm cbm (Mb) HY.out _ p ⟨⟨(OwnI.intA Obp_8.out).2.2, (OwnI.intA Obm_8.out).2.2⟩, (OwnI.intA Obp_8.out).2.1, (OwnI.intA Obm_8.out).2.1, by omega, by omega⟩ (HE.out.below HB8.out)).mono ?_
        rintro en w9 ⟨pv, mv, rfl, S, o, bP, o2, hS, b⟩
        have HB9 := Lib.hid (HB8.out.trans (b.mono HB8.out.size))
        have hs9 := Lib.hid b.size
        have Oap_9 := Lib.hid (owni_later Oap_8.out b)
        have Oam_9 := Lib.hid (owni_later Oam_8.out b)
        have Obp_9 := Lib.hid (owni_later Obp_8.out b)
        have Obm_9 := Lib.hid (owni_later Obm_8.out b)
        have Oxp_9 := Lib.hid (owni_later Oxp_8.out b)
        have Oxm_9 := Lib.hid (owni_later Oxm_8.out b)
        have Xa_9 := Lib.hid (At5.below Xa_8.out b)
        have Xb_9 := Lib.hid (At5.below Xb_8.out b)
        have Xx_9 := Lib.hid (At5.below Xx_8.out b)
        replace o : OwnI w9 w8.heap.size pv PY := o
        replace o2 : OwnI w9 S mv MY := o2
        obtain ⟨ayp, cyp, rfl, _, _⟩ := OwnI.tab o
        obtain ⟨aym, cym, rfl, _, _⟩ := OwnI.tab o2
        have Ay := Lib.hid (apart2 bP o2)
        have Byp := Lib.hid (OwnI.btw o)
        have Bym := Lib.hid ((OwnI.btw o2).mono hS (Nat.le_refl _))
        have Oyp_9 := Lib.hid (owni_mono o HB8.out.size)
        have Oym_9 := Lib.hid (owni_mono o2 (Nat.le_trans HB8.out.size hS))
        clear o o2 bP hS b
        have HB10 := Lib.hid (HB9.out.alloc HB9.out.size (.cells #[.int .i64 fY, .int .i64 bY, .slice ayp (PY).length cyp, .int .i64 lY, .slice aym (MY).length cym] 27))
        have hs10 := Lib.hid (show w9.heap.size + 1 = (w9.alloc (.cells #[.int .i64 fY, .int .i64 bY, .slice ayp (PY).length cyp, .int .i64 lY, .slice aym (MY).length cym] 27)).heap.size by simp)
        have Oap_10 := Lib.hid (World.ownsRow.alloc Oap_9.out (.cells #[.int .i64 fY, .int .i64 bY, .slice ayp (PY).length cyp, .int .i64 lY, .slice aym (MY).length cym] 27))
        have Oam_10 := Lib.hid (World.ownsRow.alloc Oam_9.out (.cells #[.int .i64 fY, .int .i64 bY, .slice ayp (PY).length cyp, .int .i64 lY, .slice aym (MY).length cym] 27))
        have Obp_10 := Lib.hid (World.ownsRow.alloc Obp_9.out (.cells #[.int .i64 fY, .int .i64 bY, .slice ayp (PY).length cyp, .int .i64 lY, .slice aym (MY).length cym] 27))
        have Obm_10 := Lib.hid (World.ownsRow.alloc Obm_9.out (.cells #[.int .i64 fY, .int .i64 bY, .slice ayp (PY).length cyp, .int .i64 lY, .slice aym (MY).length cym] 27))
        have Oxp_10 := Lib.hid (World.ownsRow.alloc Oxp_9.out (.cells #[.int .i64 fY, .int .i64 bY, .slice ayp (PY).length cyp, .int .i64 lY, .slice aym (MY).length cym] 27))
        have Oxm_10 := Lib.hid (World.ownsRow.alloc Oxm_9.out (.cells #[.int .i64 fY, .int .i64 bY, .slice ayp (PY).length cyp, .int .i64 lY, .slice aym (MY).length cym] 27))
        have Oyp_10 := Lib.hid (World.ownsRow.alloc Oyp_9.out (.cells #[.int .i64 fY, .int .i64 bY, .slice ayp (PY).length cyp, .int .i64 lY, .slice aym (MY).length cym] 27))
        have Oym_10 := Lib.hid (World.ownsRow.alloc Oym_9.out (.cells #[.int .i64 fY, .int .i64 bY, .slice ayp (PY).length cyp, .int .i64 lY, .slice aym (MY).length cym] 27))
        have Xa_10 := Lib.hid (At5.alloc Xa_9.out (.cells #[.int .i64 fY, .int .i64 bY, .slice ayp (PY).length cyp, .int .i64 lY, .slice aym (MY).length cym] 27))
        have Xb_10 := Lib.hid (At5.alloc Xb_9.out (.cells #[.int .i64 fY, .int .i64 bY, .slice ayp (PY).length cyp, .int .i64 lY, .slice aym (MY).length cym] 27))
        have Xx_10 := Lib.hid (At5.alloc Xx_9.out (.cells #[.int .i64 fY, .int .i64 bY, .slice ayp (PY).length cyp, .int .i64 lY, .slice aym (MY).length cym] 27))
        have Xy_10 := Lib.hid (At5.new w9 (.int .i64 fY) (.int .i64 bY) (.slice ayp (PY).length cyp) (.int .i64 lY) (.slice aym (MY).length cym) 27)
        obtain ⟨⟨qa0, qa1, qa2, qa3, qa4⟩, _⟩ := Xa_10.out
        obtain ⟨⟨qb0, qb1, qb2, qb3, qb4⟩, _⟩ := Xb_10.out
        obtain ⟨⟨qx0, qx1, qx2, qx3, qx4⟩, _⟩ := Xx_10.out
        go_wp2_with fail
        clear qa0 qa1 qa2 qa3 qa4
        clear qb0 qb1 qb2 qb3 qb4
        clear qx0 qx1 qx2 qx3 qx4
        generalize w9.alloc (.cells #[.int .i64 fY, .int .i64 bY, .slice ayp (PY).length cyp, .int .i64 lY, .slice aym (MY).length cym] 27) = w10 at *
        refine (ircmp_is fV bV axp cxp (PV) lV axm cxm (MV) fY bY ayp cyp (PY) lY aym cym (MY) HW.out _ p ⟨⟨(OwnI.intA Oxp_10.out).2.2, (OwnI.intA Oxm_10.out).2.2⟩, (OwnI.intA Oxp_10.out).2.1, (OwnI.intA Oxm_10.out).2.1, by omega, by omega⟩ ⟨⟨(OwnI.intA Oyp_10.out).2.2, (OwnI.intA Oym_10.out).2.2⟩, (OwnI.intA Oyp_10.out).2.1, (OwnI.intA Oym_10.out).2.1, by omega, by omega⟩ (HE.out.below HB10.out)).mono ?_
        rintro en w11 ⟨rfl, b⟩
        have HB11 := Lib.hid (HB10.out.trans (b.mono HB10.out.size))
        have hs11 := Lib.hid b.size
        have Oap_11 := Lib.hid (owni_later Oap_10.out b)
        have Oam_11 := Lib.hid (owni_later Oam_10.out b)
        have Obp_11 := Lib.hid (owni_later Obp_10.out b)
        have Obm_11 := Lib.hid (owni_later Obm_10.out b)
        have Oxp_11 := Lib.hid (owni_later Oxp_10.out b)
        have Oxm_11 := Lib.hid (owni_later Oxm_10.out b)
        have Oyp_11 := Lib.hid (owni_later Oyp_10.out b)
        have Oym_11 := Lib.hid (owni_later Oym_10.out b)
        have Xa_11 := Lib.hid (At5.below Xa_10.out b)
        have Xb_11 := Lib.hid (At5.below Xb_10.out b)
        have Xx_11 := Lib.hid (At5.below Xx_10.out b)
        have Xy_11 := Lib.hid (At5.below Xy_10.out b)
        clear b
        obtain ⟨⟨qa0, qa1, qa2, qa3, qa4⟩, _⟩ := Xa_11.out
        obtain ⟨⟨qb0, qb1, qb2, qb3, qb4⟩, _⟩ := Xb_11.out
        obtain ⟨⟨qx0, qx1, qx2, qx3, qx4⟩, _⟩ := Xx_11.out
        obtain ⟨⟨qy0, qy1, qy2, qy3, qy4⟩, _⟩ := Xy_11.out
        go_wp2_with fail
        clear qa0 qa1 qa2 qa3 qa4
        clear qb0 qb1 qb2 qb3 qb4
        clear qx0 qx1 qx2 qx3 qx4
        clear qy0 qy1 qy2 qy3 qy4
        go_ret
        exact ⟨rfl, HB11.out⟩

end Go.Proofs.YtfjfcdifnfffbaaDoor
