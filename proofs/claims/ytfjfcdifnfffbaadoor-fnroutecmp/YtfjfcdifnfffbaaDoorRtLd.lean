/-
  The law that of two routes one is better: the walk.
-/
import Derived.Test.YtfjfcdifnfffbaaDoorRtDf
import Derived.Test.YtfjfcdifnfffbaaDoorRtExA
import Derived.Test.YtfjfcdifnfffbaaDoorRtLm
import Derived.Test.YtfjfcdifnfffbaaDoorPTop
namespace Go.Proofs.YtfjfcdifnfffbaaDoor
open Go.RowKit
set_option linter.unusedSimpArgs false
set_option linter.unusedVariables false

/-- what a comparison of two good routes says -/
structure CmpF (a b : Rt) (n c : Int) : Prop where
  goodA : RtGood a
  goodB : RtGood b
  neg : rtCmp b a = -n
  zero : n = 0 ↔ a = b
  gt : b.2.2.2.1 < a.2.2.2.1 → n = -1
  path : a.2.2.2.1 = b.2.2.2.1 → c ≠ 0 → n = c
  vals : n = -1 ∨ n = 0 ∨ n = 1
theorem cmpF {a b : Rt} {n c : Int} (ha : rtOk a = true) (hb : rtOk b = true) (hn : rtCmp a b = n) (hc : pcmp a.2.2.1 b.2.2.1 = c) : CmpF a b n c := by
  have ga := (rtOk_iff a).1 ha
  have gb := (rtOk_iff b).1 hb
  have e : rtCmp0 a b = n := by rw [← rtCmp_yes ha hb]; exact hn
  have ec : lcmp a.2.2.1 b.2.2.1 = c := by rw [← hc, pcmp, (pOk_iff _).2 ga.path, (pOk_iff _).2 gb.path]; rfl
  exact { goodA := ga, goodB := gb, neg := by rw [rtCmp_yes hb ha, rtCmp0_neg, e], zero := by rw [← e]; exact rtCmp0_zero a b,
          gt := fun h => by rw [← e]; exact (rtCmp0_lt a b).2 (.inl h),
          path := fun h hz => by rw [← e]; unfold rtCmp0; rw [if_neg (by omega), if_neg (by omega), if_pos (by omega), ec],
          vals := by rw [← e]; exact rtCmp0_vals a b }

set_option maxRecDepth 100000 in
set_option maxHeartbeats 4000000 in
theorem lawRouteCmp (a0 : Option Addr) (len0 cap0 : Nat) (zs0 : List Int) (w : World) (h0 : IsRow w a0 len0 cap0 zs0) (p : Addr) (hE : EV w p) (_ : True) :
    Calls Tryd.prog 6 #[.slice a0 len0 cap0] w fun e w' => e = .returned (.bool true) ∧ Below w.heap.size w w' := by
  have H0 := Lib.hid h0
  have HE := Lib.hid hE
  clear h0 hE
  by_cases hl0 : (1048576 : Int) < (len0 : Int)
  · go_enter Tryd.func6, Tryd.ntmps6
    go_wp2_with fail
    go_ret
    exact ⟨rfl, Below.refl _ _⟩
  have HB0 := Lib.hid (Below.refl w.heap.size w)
  go_enter Tryd.func6, Tryd.ntmps6
  go_wp2_with fail
  refine (dRouteCmp_any a0 len0 cap0 zs0 _ (isrow_later H0.out HB0.out)).mono ?_
  rintro en w1 ⟨fa, ba, la, Pa, Ma, pv, mv, fb, bb, lb, Pb, Mb, pv2, mv2, rfl, ⟨⟨hlPa, hlMa⟩, hlPb, hlMb⟩, ⟨⟨o, o2⟩, o3, o4⟩, b⟩
  have HB1 := Lib.hid (HB0.out.trans (b.mono HB0.out.size))
  have hs1 := Lib.hid b.size
  obtain ⟨aap, cap, rfl, _, _⟩ := OwnI.tab o
  obtain ⟨aam, cam, rfl, _, _⟩ := OwnI.tab o2
  have Bap := Lib.hid (OwnI.btw o)
  have Bam := Lib.hid (OwnI.btw o2)
  have Oap_1 := Lib.hid (owni_mono o HB0.out.size)
  have Oam_1 := Lib.hid (owni_mono o2 HB0.out.size)
  clear o o2
  obtain ⟨abp, cbp, rfl, _, _⟩ := OwnI.tab o3
  obtain ⟨abm, cbm, rfl, _, _⟩ := OwnI.tab o4
  have Bbp := Lib.hid (OwnI.btw o3)
  have Bbm := Lib.hid (OwnI.btw o4)
  have Obp_1 := Lib.hid (owni_mono o3 HB0.out.size)
  have Obm_1 := Lib.hid (owni_mono o4 HB0.out.size)
  clear o3 o4
  clear b
  obtain ⟨t1, t2, t3⟩ := At5.two w1 (.int .i64 fa) (.int .i64 ba) (.slice aap (Pa).length cap) (.int .i64 la) (.slice aam (Ma).length cam) (.int .i64 fb) (.int .i64 bb) (.slice abp (Pb).length cbp) (.int .i64 lb) (.slice abm (Mb).length cbm) 27 27
  have HB2 := Lib.hid (HB1.out.trans (t3.mono HB1.out.size))
  have hs2 := Lib.hid (show w1.heap.size + 2 = ((w1.alloc (.cells #[.int .i64 fa, .int .i64 ba, .slice aap (Pa).length cap, .int .i64 la, .slice aam (Ma).length cam] 27)).alloc (.cells #[.int .i64 fb, .int .i64 bb, .slice abp (Pb).length cbp, .int .i64 lb, .slice abm (Mb).length cbm] 27)).heap.size by simp)
  have Oap_2 := Lib.hid (owni_later Oap_1.out t3)
  have Oam_2 := Lib.hid (owni_later Oam_1.out t3)
  have Obp_2 := Lib.hid (owni_later Obp_1.out t3)
  have Obm_2 := Lib.hid (owni_later Obm_1.out t3)
  have Xa_2 := Lib.hid t1
  have Xb_2 := Lib.hid t2
  clear t1 t2 t3
  go_wp2_with fail
  generalize ((w1.alloc (.cells #[.int .i64 fa, .int .i64 ba, .slice aap (Pa).length cap, .int .i64 la, .slice aam (Ma).length cam] 27)).alloc (.cells #[.int .i64 fb, .int .i64 bb, .slice abp (Pb).length cbp, .int .i64 lb, .slice abm (Mb).length cbm] 27)) = w2 at *
  obtain ⟨n, hn⟩ : ∃ n, rtCmp (fa, ba, Pa, la, Ma) (fb, bb, Pb, lb, Mb) = n := ⟨_, rfl⟩
  have HN := Lib.hid hn
  clear hn
  have hnn : (n != n) = false := by simp
  have hne : (n == n) = true := by simp
  refine (ircmp_is fa ba aap cap (Pa) la aam cam (Ma) fb bb abp cbp (Pb) lb abm cbm (Mb) HN.out _ p ⟨⟨(OwnI.intA Oap_2.out).2.2, (OwnI.intA Oam_2.out).2.2⟩, (OwnI.intA Oap_2.out).2.1, (OwnI.intA Oam_2.out).2.1, by omega, by omega⟩ ⟨⟨(OwnI.intA Obp_2.out).2.2, (OwnI.intA Obm_2.out).2.2⟩, (OwnI.intA Obp_2.out).2.1, (OwnI.intA Obm_2.out).2.1, by omega, by omega⟩ (HE.out.below HB2.out)).mono ?_
  rintro en w3 ⟨rfl, b⟩
  have HB3 := Lib.hid (HB2.out.trans (b.mono HB2.out.size))
  have hs3 := Lib.hid b.size
  have Oap_3 := Lib.hid (owni_later Oap_2.out b)
  have Oam_3 := Lib.hid (owni_later Oam_2.out b)
  have Obp_3 := Lib.hid (owni_later Obp_2.out b)
  have Obm_3 := Lib.hid (owni_later Obm_2.out b)
  have Xa_3 := Lib.hid (At5.below Xa_2.out b)
  have Xb_3 := Lib.hid (At5.below Xb_2.out b)
  clear b
  obtain ⟨⟨qa0, qa1, qa2, qa3, qa4⟩, _⟩ := Xa_3.out
  obtain ⟨⟨qb0, qb1, qb2, qb3, qb4⟩, _⟩ := Xb_3.out
  go_wp2_with fail
  clear qa0 qa1 qa2 qa3 qa4
  clear qb0 qb1 qb2 qb3 qb4
  refine (srcmp_is fa ba aap cap (Pa) la aam cam (Ma) fb bb abp cbp (Pb) lb abm cbm (Mb) HN.out _ ⟨⟨(OwnI.intA Oap_3.out).2.2, (OwnI.intA Oam_3.out).2.2⟩, (OwnI.intA Oap_3.out).2.1, (OwnI.intA Oam_3.out).2.1, by omega, by omega⟩ ⟨⟨(OwnI.intA Obp_3.out).2.2, (OwnI.intA Obm_3.out).2.2⟩, (OwnI.intA Obp_3.out).2.1, (OwnI.intA Obm_3.out).2.1, by omega, by omega⟩).mono ?_
  rintro en w4 ⟨rfl, b⟩
  have HB4 := Lib.hid (HB3.out.trans (b.mono HB3.out.size))
  have hs4 := Lib.hid b.size
  have Oap_4 := Lib.hid (owni_later Oap_3.out b)
  have Oam_4 := Lib.hid (owni_later Oam_3.out b)
  have Obp_4 := Lib.hid (owni_later Obp_3.out b)
  have Obm_4 := Lib.hid (owni_later Obm_3.out b)
  have Xa_4 := Lib.hid (At5.below Xa_3.out b)
  have Xb_4 := Lib.hid (At5.below Xb_3.out b)
  clear b
  obtain ⟨xa, hra⟩ : ∃ x, rtOk (fa, ba, Pa, la, Ma) = x := ⟨_, rfl⟩
  obtain ⟨xb, hrb⟩ : ∃ x, rtOk (fb, bb, Pb, lb, Mb) = x := ⟨_, rfl⟩
  have HRA := Lib.hid hra
  have HRB := Lib.hid hrb
  clear hra hrb
  obtain ⟨⟨qa0, qa1, qa2, qa3, qa4⟩, _⟩ := Xa_4.out
  obtain ⟨⟨qb0, qb1, qb2, qb3, qb4⟩, _⟩ := Xb_4.out
  go_wp2_with fail
  clear qa0 qa1 qa2 qa3 qa4
  clear qb0 qb1 qb2 qb3 qb4
  refine (srok_is fa ba aap cap (Pa) la aam cam (Ma) HRA.out _ ⟨⟨(OwnI.intA Oap_4.out).2.2, (OwnI.intA Oam_4.out).2.2⟩, (OwnI.intA Oap_4.out).2.1, (OwnI.intA Oam_4.out).2.1, by omega, by omega⟩).mono ?_
  rintro en w5 ⟨rfl, b⟩
  have HB5 := Lib.hid (HB4.out.trans (b.mono HB4.out.size))
  have hs5 := Lib.hid b.size
  have Oap_5 := Lib.hid (owni_later Oap_4.out b)
  have Oam_5 := Lib.hid (owni_later Oam_4.out b)
  have Obp_5 := Lib.hid (owni_later Obp_4.out b)
  have Obm_5 := Lib.hid (owni_later Obm_4.out b)
  have Xa_5 := Lib.hid (At5.below Xa_4.out b)
  have Xb_5 := Lib.hid (At5.below Xb_4.out b)
  clear b
  cases xa with
  | false =>
    obtain ⟨⟨qa0, qa1, qa2, qa3, qa4⟩, _⟩ := Xa_5.out
    obtain ⟨⟨qb0, qb1, qb2, qb3, qb4⟩, _⟩ := Xb_5.out
    go_wp2_with fail
    clear qa0 qa1 qa2 qa3 qa4
    clear qb0 qb1 qb2 qb3 qb4
    refine (srcmp_is fa ba aap cap (Pa) la aam cam (Ma) fb bb abp cbp (Pb) lb abm cbm (Mb) HN.out _ ⟨⟨(OwnI.intA Oap_5.out).2.2, (OwnI.intA Oam_5.out).2.2⟩, (OwnI.intA Oap_5.out).2.1, (OwnI.intA Oam_5.out).2.1, by omega, by omega⟩ ⟨⟨(OwnI.intA Obp_5.out).2.2, (OwnI.intA Obm_5.out).2.2⟩, (OwnI.intA Obp_5.out).2.1, (OwnI.intA Obm_5.out).2.1, by omega, by omega⟩).mono ?_
    rintro en w6 ⟨rfl, b⟩
    have HB6 := Lib.hid (HB5.out.trans (b.mono HB5.out.size))
    have hs6 := Lib.hid b.size
    have Oap_6 := Lib.hid (owni_later Oap_5.out b)
    have Oam_6 := Lib.hid (owni_later Oam_5.out b)
    have Obp_6 := Lib.hid (owni_later Obp_5.out b)
    have Obm_6 := Lib.hid (owni_later Obm_5.out b)
    have Xa_6 := Lib.hid (At5.below Xa_5.out b)
    have Xb_6 := Lib.hid (At5.below Xb_5.out b)
    clear b
    obtain ⟨⟨qa0, qa1, qa2, qa3, qa4⟩, _⟩ := Xa_6.out
    obtain ⟨⟨qb0, qb1, qb2, qb3, qb4⟩, _⟩ := Xb_6.out
    go_wp2_with fail
    clear qa0 qa1 qa2 qa3 qa4
    clear qb0 qb1 qb2 qb3 qb4
    go_ret
    exact ⟨rfl, HB6.out⟩
  | true =>
    obtain ⟨⟨qa0, qa1, qa2, qa3, qa4⟩, _⟩ := Xa_5.out
    obtain ⟨⟨qb0, qb1, qb2, qb3, qb4⟩, _⟩ := Xb_5.out
    go_wp2_with fail
    clear qa0 qa1 qa2 qa3 qa4
    clear qb0 qb1 qb2 qb3 qb4
    refine (srok_is fb bb abp cbp (Pb) lb abm cbm (Mb) HRB.out _ ⟨⟨(OwnI.intA Obp_5.out).2.2, (OwnI.intA Obm_5.out).2.2⟩, (OwnI.intA Obp_5.out).2.1, (OwnI.intA Obm_5.out).2.1, by omega, by omega⟩).mono ?_
    rintro en w6 ⟨rfl, b⟩
    have HB6 := Lib.hid (HB5.out.trans (b.mono HB5.out.size))
    have hs6 := Lib.hid b.size
    have Oap_6 := Lib.hid (owni_later Oap_5.out b)
    have Oam_6 := Lib.hid (owni_later Oam_5.out b)
    have Obp_6 := Lib.hid (owni_later Obp_5.out b)
    have Obm_6 := Lib.hid (owni_later Obm_5.out b)
    have Xa_6 := Lib.hid (At5.below Xa_5.out b)
    have Xb_6 := Lib.hid (At5.below Xb_5.out b)
    clear b
    cases xb with
    | false =>
      obtain ⟨⟨qa0, qa1, qa2, qa3, qa4⟩, _⟩ := Xa_6.out
      obtain ⟨⟨qb0, qb1, qb2, qb3, qb4⟩, _⟩ := Xb_6.out
      go_wp2_with fail
      clear qa0 qa1 qa2 qa3 qa4
      clear qb0 qb1 qb2 qb3 qb4
      refine (srcmp_is fa ba aap cap (Pa) la aam cam (Ma) fb bb abp cbp (Pb) lb abm cbm (Mb) HN.out _ ⟨⟨(OwnI.intA Oap_6.out).2.2, (OwnI.intA Oam_6.out).2.2⟩, (OwnI.intA Oap_6.out).2.1, (OwnI.intA Oam_6.out).2.1, by omega, by omega⟩ ⟨⟨(OwnI.intA Obp_6.out).2.2, (OwnI.intA Obm_6.out).2.2⟩, (OwnI.intA Obp_6.out).2.1, (OwnI.intA Obm_6.out).2.1, by omega, by omega⟩).mono ?_
      rintro en w7 ⟨rfl, b⟩
      have HB7 := Lib.hid (HB6.out.trans (b.mono HB6.out.size))
      have hs7 := Lib.hid b.size
      have Oap_7 := Lib.hid (owni_later Oap_6.out b)
      have Oam_7 := Lib.hid (owni_later Oam_6.out b)
      have Obp_7 := Lib.hid (owni_later Obp_6.out b)
      have Obm_7 := Lib.hid (owni_later Obm_6.out b)
      have Xa_7 := Lib.hid (At5.below Xa_6.out b)
      have Xb_7 := Lib.hid (At5.below Xb_6.out b)
      clear b
      obtain ⟨⟨qa0, qa1, qa2, qa3, qa4⟩, _⟩ := Xa_7.out
      obtain ⟨⟨qb0, qb1, qb2, qb3, qb4⟩, _⟩ := Xb_7.out
      go_wp2_with fail
      clear qa0 qa1 qa2 qa3 qa4
      clear qb0 qb1 qb2 qb3 qb4
      go_ret
      exact ⟨rfl, HB7.out⟩
    | true =>
      obtain ⟨c, hc⟩ : ∃ c, pcmp Pa Pb = c := ⟨_, rfl⟩
      have HC := Lib.hid hc
      have HF := Lib.hid (cmpF HRA.out HRB.out HN.out hc)
      clear hc
      obtain ⟨⟨qa0, qa1, qa2, qa3, qa4⟩, _⟩ := Xa_6.out
      obtain ⟨⟨qb0, qb1, qb2, qb3, qb4⟩, _⟩ := Xb_6.out
      go_wp2_with fail
      clear qa0 qa1 qa2 qa3 qa4
      clear qb0 qb1 qb2 qb3 qb4
      refine (icmp_is HC.out aap abp _ _ _ _ _ p rfl rfl (OwnI.intA Oap_6.out).2.2 (OwnI.intA Obp_6.out).2.2 (by omega) (by omega) (HE.out.below HB6.out)).mono ?_
      rintro en w7 ⟨rfl, b⟩
      have HB7 := Lib.hid (HB6.out.trans (b.mono HB6.out.size))
      have hs7 := Lib.hid b.size
      have Oap_7 := Lib.hid (owni_later Oap_6.out b)
      have Oam_7 := Lib.hid (owni_later Oam_6.out b)
      have Obp_7 := Lib.hid (owni_later Obp_6.out b)
      have Obm_7 := Lib.hid (owni_later Obm_6.out b)
      have Xa_7 := Lib.hid (At5.below Xa_6.out b)
      have Xb_7 := Lib.hid (At5.below Xb_6.out b)
      clear b
      have hwn : IntKind.i64.wrap (-n) = -n := by have := HF.out.vals; rw [IntKind.wrap_i64]; omega
      have hnm : (-n == -n) = true := by simp
      obtain ⟨⟨qa0, qa1, qa2, qa3, qa4⟩, _⟩ := Xa_7.out
      obtain ⟨⟨qb0, qb1, qb2, qb3, qb4⟩, _⟩ := Xb_7.out
      go_wp2_with fail
      clear qa0 qa1 qa2 qa3 qa4
      clear qb0 qb1 qb2 qb3 qb4
      refine (ircmp_is fb bb abp cbp (Pb) lb abm cbm (Mb) fa ba aap cap (Pa) la aam cam (Ma) HF.out.neg _ p ⟨⟨(OwnI.intA Obp_7.out).2.2, (OwnI.intA Obm_7.out).2.2⟩, (OwnI.intA Obp_7.out).2.1, (OwnI.intA Obm_7.out).2.1, by omega, by omega⟩ ⟨⟨(OwnI.intA Oap_7.out).2.2, (OwnI.intA Oam_7.out).2.2⟩, (OwnI.intA Oap_7.out).2.1, (OwnI.intA Oam_7.out).2.1, by omega, by omega⟩ (HE.out.below HB7.out)).mono ?_
      rintro en w8 ⟨rfl, b⟩
      have HB8 := Lib.hid (HB7.out.trans (b.mono HB7.out.size))
      have hs8 := Lib.hid b.size
      have Oap_8 := Lib.hid (owni_later Oap_7.out b)
      have Oam_8 := Lib.hid (owni_later Oam_7.out b)
      have Obp_8 := Lib.hid (owni_later Obp_7.out b)
      have Obm_8 := Lib.hid (owni_later Obm_7.out b)
      have Xa_8 := Lib.hid (At5.below Xa_7.out b)
      have Xb_8 := Lib.hid (At5.below Xb_7.out b)
      clear b
      obtain ⟨z, hz⟩ : ∃ z, decide (((fa, ba, Pa, la, Ma) : Rt) = (fb, bb, Pb, lb, Mb)) = z := ⟨_, rfl⟩
      have hz0 : (n == 0) = z := by rw [← hz]; exact (Bool.eq_iff_iff).2 (by simp only [beq_iff_eq, decide_eq_true_eq]; exact HF.out.zero)
      have HZ := Lib.hid hz
      clear hz
      have hzz : (z == z) = true := by simp
      obtain ⟨⟨qa0, qa1, qa2, qa3, qa4⟩, _⟩ := Xa_8.out
      obtain ⟨⟨qb0, qb1, qb2, qb3, qb4⟩, _⟩ := Xb_8.out
      go_wp2_with fail
      clear qa0 qa1 qa2 qa3 qa4
      clear qb0 qb1 qb2 qb3 qb4
      refine (lyrt_is fa ba aap cap (Pa) la aam cam (Ma) fb bb abp cbp (Pb) lb abm cbm (Mb) HZ.out _ ⟨⟨(OwnI.intA Oap_8.out).2.2, (OwnI.intA Oam_8.out).2.2⟩, (OwnI.intA Oap_8.out).2.1, (OwnI.intA Oam_8.out).2.1, by omega, by omega⟩ ⟨⟨(OwnI.intA Obp_8.out).2.2, (OwnI.intA Obm_8.out).2.2⟩, (OwnI.intA Obp_8.out).2.1, (OwnI.intA Obm_8.out).2.1, by omega, by omega⟩).mono ?_
      rintro en w9 ⟨rfl, b⟩
      have HB9 := Lib.hid (HB8.out.trans (b.mono HB8.out.size))
      have hs9 := Lib.hid b.size
      have Oap_9 := Lib.hid (owni_later Oap_8.out b)
      have Oam_9 := Lib.hid (owni_later Oam_8.out b)
      have Obp_9 := Lib.hid (owni_later Obp_8.out b)
      have Obm_9 := Lib.hid (owni_later Obm_8.out b)
      have Xa_9 := Lib.hid (At5.below Xa_8.out b)
      have Xb_9 := Lib.hid (At5.below Xb_8.out b)
      clear b
      by_cases h1 : la ≤ lb
      · have d1 : decide (la ≤ lb) = true := decide_eq_true h1
        by_cases h2 : la = lb
        · have d2 : (la != lb) = false := by simp [h2]
          by_cases h3 : c = 0
          · have d3 : (c == 0) = true := by simp [h3]
            clear h1 h2 h3
            obtain ⟨⟨qa0, qa1, qa2, qa3, qa4⟩, _⟩ := Xa_9.out
            obtain ⟨⟨qb0, qb1, qb2, qb3, qb4⟩, _⟩ := Xb_9.out
            go_wp2_with fail
            clear qa0 qa1 qa2 qa3 qa4
            clear qb0 qb1 qb2 qb3 qb4
            go_ret
            exact ⟨rfl, HB9.out⟩
          · have d3 : (c == 0) = false := by simp [h3]
            have d4 : (n == c) = true := by simp [HF.out.path h2 h3]
            clear h1 h2 h3
            obtain ⟨⟨qa0, qa1, qa2, qa3, qa4⟩, _⟩ := Xa_9.out
            obtain ⟨⟨qb0, qb1, qb2, qb3, qb4⟩, _⟩ := Xb_9.out
            go_wp2_with fail
            clear qa0 qa1 qa2 qa3 qa4
            clear qb0 qb1 qb2 qb3 qb4
            go_ret
            exact ⟨rfl, HB9.out⟩
        · have d2 : (la != lb) = true := by simp [h2]
          clear h1 h2
          obtain ⟨⟨qa0, qa1, qa2, qa3, qa4⟩, _⟩ := Xa_9.out
          obtain ⟨⟨qb0, qb1, qb2, qb3, qb4⟩, _⟩ := Xb_9.out
          go_wp2_with fail
          clear qa0 qa1 qa2 qa3 qa4
          clear qb0 qb1 qb2 qb3 qb4
          go_ret
          exact ⟨rfl, HB9.out⟩
      · have d1 : decide (la ≤ lb) = false := decide_eq_false h1
        have d2 : (la != lb) = true := by simp; omega
        have d3 : (n == -1) = true := by simp [HF.out.gt (show lb < la by omega)]
        clear h1
        obtain ⟨⟨qa0, qa1, qa2, qa3, qa4⟩, _⟩ := Xa_9.out
        obtain ⟨⟨qb0, qb1, qb2, qb3, qb4⟩, _⟩ := Xb_9.out
        go_wp2_with fail
        clear qa0 qa1 qa2 qa3 qa4
        clear qb0 qb1 qb2 qb3 qb4
        go_ret
        exact ⟨rfl, HB9.out⟩

end Go.Proofs.YtfjfcdifnfffbaaDoor
