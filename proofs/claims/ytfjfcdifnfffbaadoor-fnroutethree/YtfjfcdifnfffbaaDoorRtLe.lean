/-
  The law that better goes on over three routes: the walk.
-/
import Derived.Test.YtfjfcdifnfffbaaDoorRtLd
namespace Go.Proofs.YtfjfcdifnfffbaaDoor
open Go.RowKit
set_option linter.unusedSimpArgs false
set_option linter.unusedVariables false

set_option maxRecDepth 100000 in
set_option maxHeartbeats 4000000 in
theorem lawRouteThree (a0 : Option Addr) (len0 cap0 : Nat) (zs0 : List Int) (a1 : Option Addr) (len1 cap1 : Nat) (zs1 : List Int) (w : World) (h0 : IsRow w a0 len0 cap0 zs0) (h1 : IsRow w a1 len1 cap1 zs1) (p : Addr) (hE : EV w p) (_ : True) :
    Calls Tryd.prog 11 #[.slice a0 len0 cap0, .slice a1 len1 cap1] w fun e w' => e = .returned (.bool true) ∧ Below w.heap.size w w' := by
  have H0 := Lib.hid h0
  have H1 := Lib.hid h1
  have HE := Lib.hid hE
  clear h0 hE h1
  by_cases hl0 : (1048576 : Int) < (len0 : Int)
  · go_enter Tryd.func11, Tryd.ntmps11
    go_wp2_with fail
    go_ret
    exact ⟨rfl, Below.refl _ _⟩
  by_cases hl1 : (1048576 : Int) < (len1 : Int)
  · go_enter Tryd.func11, Tryd.ntmps11
    go_wp2_with fail
    go_ret
    exact ⟨rfl, Below.refl _ _⟩
  have HB0 := Lib.hid (Below.refl w.heap.size w)
  go_enter Tryd.func11, Tryd.ntmps11
  go_wp2_with fail
  refine (dRouteCmp_any a0 len0 cap0 zs0 _ (isrow_later H0.out HB0.out)).mono ?_
  rintro en w1 ⟨fa, ba, la, Pa, Ma, pv, mv, fb, bb, lb, Pb, Mb, pv2, mv2, rfl, ⟨⟨hlPa, hlMa⟩, hlPb, hlMb⟩, ⟨⟨o, o2⟩, o3, o4⟩, b⟩
  have HB1 := Lib.hid (HB0.out.trans (b.mono HB0.out.size))
  have hs1 := Lib.hid b.size
  obtain ⟨aap, cap, rfl, _, _⟩ := OwnI.tab o
  obtain ⟨aam, cam, rfl, _, _⟩ := OwnI.tab o2
  have Bap := Lib.hid (OwnI.btw o)
  have Bam := Lib.hid (OwnI.btw o2)
  have Oap_1 := Lib.hid (owni_mono o HB0.out.size)
  have Oam_1 := Lib.hid (owni_mono o2 HB0.out.size)
  clear o o2
  obtain ⟨abp, cbp, rfl, _, _⟩ := OwnI.tab o3
  obtain ⟨abm, cbm, rfl, _, _⟩ := OwnI.tab o4
  have Bbp := Lib.hid (OwnI.btw o3)
  have Bbm := Lib.hid (OwnI.btw o4)
  have Obp_1 := Lib.hid (owni_mono o3 HB0.out.size)
  have Obm_1 := Lib.hid (owni_mono o4 HB0.out.size)
  clear o3 o4
  clear b
  obtain ⟨t1, t2, t3⟩ := At5.two w1 (.int .i64 fa) (.int .i64 ba) (.slice aap (Pa).length cap) (.int .i64 la) (.slice aam (Ma).length cam) (.int .i64 fb) (.int .i64 bb) (.slice abp (Pb).length cbp) (.int .i64 lb) (.slice abm (Mb).length cbm) 27 27
  have HB2 := Lib.hid (HB1.out.trans (t3.mono HB1.out.size))
  have hs2 := Lib.hid (show w1.heap.size + 2 = ((w1.alloc (.cells #[.int .i64 fa, .int .i64 ba, .slice aap (Pa).length cap, .int .i64 la, .slice aam (Ma).length cam] 27)).alloc (.cells #[.int .i64 fb, .int .i64 bb, .slice abp (Pb).length cbp, .int .i64 lb, .slice abm (Mb).length cbm] 27)).heap.size by simp)
  have Oap_2 := Lib.hid (owni_later Oap_1.out t3)
  have Oam_2 := Lib.hid (owni_later Oam_1.out t3)
  have Obp_2 := Lib.hid (owni_later Obp_1.out t3)
  have Obm_2 := Lib.hid (owni_later Obm_1.out t3)
  have Xa_2 := Lib.hid t1
  have Xb_2 := Lib.hid t2
  clear t1 t2 t3
  go_wp2_with fail
  generalize ((w1.alloc (.cells #[.int .i64 fa, .int .i64 ba, .slice aap (Pa).length cap, .int .i64 la, .slice aam (Ma).length cam] 27)).alloc (.cells #[.int .i64 fb, .int .i64 bb, .slice abp (Pb).length cbp, .int .i64 lb, .slice abm (Mb).length cbm] 27)) = w2 at *
  obtain ⟨n, hn⟩ : ∃ n, rtCmp (fa, ba, Pa, la, Ma) (fb, bb, Pb, lb, Mb) = n := ⟨_, rfl⟩
  have HN := Lib.hid hn
  clear hn
  have hnn : (n != n) = false := by simp
  have hne : (n == n) = true := by simp
  refine (ircmp_is fa ba aap cap (Pa) la aam cam (Ma) fb bb abp cbp (Pb) lb abm cbm (Mb) HN.out _ p ⟨⟨(OwnI.intA Oap_2.out).2.2, (OwnI.intA Oam_2.out).2.2⟩, (OwnI.intA Oap_2.out).2.1, (OwnI.intA Oam_2.out).2.1, by omega, by omega⟩ ⟨⟨(OwnI.intA Obp_2.out).2.2, (OwnI.intA Obm_2.out).2.2⟩, (OwnI.intA Obp_2.out).2.1, (OwnI.intA Obm_2.out).2.1, by omega, by omega⟩ (HE.out.below HB2.out)).mono ?_
  rintro en w3 ⟨rfl, b⟩
  have HB3 := Lib.hid (HB2.out.trans (b.mono HB2.out.size))
  have hs3 := Lib.hid b.size
  have Oap_3 := Lib.hid (owni_later Oap_2.out b)
  have Oam_3 := Lib.hid (owni_later Oam_2.out b)
  have Obp_3 := Lib.hid (owni_later Obp_2.out b)
  have Obm_3 := Lib.hid (owni_later Obm_2.out b)
  have Xa_3 := Lib.hid (At5.below Xa_2.out b)
  have Xb_3 := Lib.hid (At5.below Xb_2.out b)
  clear b
  obtain ⟨⟨qa0, qa1, qa2, qa3, qa4⟩, _⟩ := Xa_3.out
  obtain ⟨⟨qb0, qb1, qb2, qb3, qb4⟩, _⟩ := Xb_3.out
  go_wp2_with fail
  clear qa0 qa1 qa2 qa3 qa4
  clear qb0 qb1 qb2 qb3 qb4
  refine (srcmp_is fa ba aap cap (Pa) la aam cam (Ma) fb bb abp cbp (Pb) lb abm cbm (Mb) HN.out _ ⟨⟨(OwnI.intA Oap_3.out).2.2, (OwnI.intA Oam_3.out).2.2⟩, (OwnI.intA Oap_3.out).2.1, (OwnI.intA Oam_3.out).2.1, by omega, by omega⟩ ⟨⟨(OwnI.intA Obp_3.out).2.2, (OwnI.intA Obm_3.out).2.2⟩, (OwnI.intA Obp_3.out).2.1, (OwnI.intA Obm_3.out).2.1, by omega, by omega⟩).mono ?_
  rintro en w4 ⟨rfl, b⟩
  have HB4 := Lib.hid (HB3.out.trans (b.mono HB3.out.size))
  have hs4 := Lib.hid b.size
  have Oap_4 := Lib.hid (owni_later Oap_3.out b)
  have Oam_4 := Lib.hid (owni_later Oam_3.out b)
  have Obp_4 := Lib.hid (owni_later Obp_3.out b)
  have Obm_4 := Lib.hid (owni_later Obm_3.out b)
  have Xa_4 := Lib.hid (At5.below Xa_3.out b)
  have Xb_4 := Lib.hid (At5.below Xb_3.out b)
  clear b
  obtain ⟨xa, hra⟩ : ∃ x, rtOk (fa, ba, Pa, la, Ma) = x := ⟨_, rfl⟩
  obtain ⟨xb, hrb⟩ : ∃ x, rtOk (fb, bb, Pb, lb, Mb) = x := ⟨_, rfl⟩
  have HRA := Lib.hid hra
  have HRB := Lib.hid hrb
  clear hra hrb
  obtain ⟨⟨qa0, qa1, qa2, qa3, qa4⟩, _⟩ := Xa_4.out
  obtain ⟨⟨qb0, qb1, qb2, qb3, qb4⟩, _⟩ := Xb_4.out
  go_wp2_with fail
  clear qa0 qa1 qa2 qa3 qa4
  clear qb0 qb1 qb2 qb3 qb4
  refine (srok_is fa ba aap cap (Pa) la aam cam (Ma) HRA.out _ ⟨⟨(OwnI.intA Oap_4.out).2.2, (OwnI.intA Oam_4.out).2.2⟩, (OwnI.intA Oap_4.out).2.1, (OwnI.intA Oam_4.out).2.1, by omega, by omega⟩).mono ?_
  rintro en w5 ⟨rfl, b⟩
  have HB5 := Lib.hid (HB4.out.trans (b.mono HB4.out.size))
  have hs5 := Lib.hid b.size
  have Oap_5 := Lib.hid (owni_later Oap_4.out b)
  have Oam_5 := Lib.hid (owni_later Oam_4.out b)
  have Obp_5 := Lib.hid (owni_later Obp_4.out b)
  have Obm_5 := Lib.hid (owni_later Obm_4.out b)
  have Xa_5 := Lib.hid (At5.below Xa_4.out b)
  have Xb_5 := Lib.hid (At5.below Xb_4.out b)
  clear b
  cases xa with
  | false =>
    obtain ⟨⟨qa0, qa1, qa2, qa3, qa4⟩, _⟩ := Xa_5.out
    obtain ⟨⟨qb0, qb1, qb2, qb3, qb4⟩, _⟩ := Xb_5.out
    go_wp2_with fail
    clear qa0 qa1 qa2 qa3 qa4
    clear qb0 qb1 qb2 qb3 qb4
    refine (srcmp_is fa ba aap cap (Pa) la aam cam (Ma) fb bb abp cbp (Pb) lb abm cbm (Mb) HN.out _ ⟨⟨(OwnI.intA Oap_5.out).2.2, (OwnI.intA Oam_5.out).2.2⟩, (OwnI.intA Oap_5.out).2.1, (OwnI.intA Oam_5.out).2.1, by omega, by omega⟩ ⟨⟨(OwnI.intA Obp_5.out).2.2, (OwnI.intA Obm_5.out).2.2⟩, (OwnI.intA Obp_5.out).2.1, (OwnI.intA Obm_5.out).2.1, by omega, by omega⟩).mono ?_
    rintro en w6 ⟨rfl, b⟩
    have HB6 := Lib.hid (HB5.out.trans (b.mono HB5.out.size))
    have hs6 := Lib.hid b.size
    have Oap_6 := Lib.hid (owni_later Oap_5.out b)
    have Oam_6 := Lib.hid (owni_later Oam_5.out b)
    have Obp_6 := Lib.hid (owni_later Obp_5.out b)
    have Obm_6 := Lib.hid (owni_later Obm_5.out b)
    have Xa_6 := Lib.hid (At5.below Xa_5.out b)
    have Xb_6 := Lib.hid (At5.below Xb_5.out b)
    clear b
    obtain ⟨⟨qa0, qa1, qa2, qa3, qa4⟩, _⟩ := Xa_6.out
    obtain ⟨⟨qb0, qb1, qb2, qb3, qb4⟩, _⟩ := Xb_6.out
    go_wp2_with fail
    clear qa0 qa1 qa2 qa3 qa4
    clear qb0 qb1 qb2 qb3 qb4
    go_ret
    exact ⟨rfl, HB6.out⟩
  | true =>
    obtain ⟨⟨qa0, qa1, qa2, qa3, qa4⟩, _⟩ := Xa_5.out
    obtain ⟨⟨qb0, qb1, qb2, qb3, qb4⟩, _⟩ := Xb_5.out
    go_wp2_with fail
    clear qa0 qa1 qa2 qa3 qa4
    clear qb0 qb1 qb2 qb3 qb4
    refine (srok_is fb bb abp cbp (Pb) lb abm cbm (Mb) HRB.out _ ⟨⟨(OwnI.intA Obp_5.out).2.2, (OwnI.intA Obm_5.out).2.2⟩, (OwnI.intA Obp_5.out).2.1, (OwnI.intA Obm_5.out).2.1, by omega, by omega⟩).mono ?_
    rintro en w6 ⟨rfl, b⟩
    have HB6 := Lib.hid (HB5.out.trans (b.mono HB5.out.size))
    have hs6 := Lib.hid b.size
    have Oap_6 := Lib.hid (owni_later Oap_5.out b)
    have Oam_6 := Lib.hid (owni_later Oam_5.out b)
    have Obp_6 := Lib.hid (owni_later Obp_5.out b)
    have Obm_6 := Lib.hid (owni_later Obm_5.out b)
    have Xa_6 := Lib.hid (At5.below Xa_5.out b)
    have Xb_6 := Lib.hid (At5.below Xb_5.out b)
    clear b
    cases xb with
    | false =>
      obtain ⟨⟨qa0, qa1, qa2, qa3, qa4⟩, _⟩ := Xa_6.out
      obtain ⟨⟨qb0, qb1, qb2, qb3, qb4⟩, _⟩ := Xb_6.out
      go_wp2_with fail
      clear qa0 qa1 qa2 qa3 qa4
      clear qb0 qb1 qb2 qb3 qb4
      refine (srcmp_is fa ba aap cap (Pa) la aam cam (Ma) fb bb abp cbp (Pb) lb abm cbm (Mb) HN.out _ ⟨⟨(OwnI.intA Oap_6.out).2.2, (OwnI.intA Oam_6.out).2.2⟩, (OwnI.intA Oap_6.out).2.1, (OwnI.intA Oam_6.out).2.1, by omega, by omega⟩ ⟨⟨(OwnI.intA Obp_6.out).2.2, (OwnI.intA Obm_6.out).2.2⟩, (OwnI.intA Obp_6.out).2.1, (OwnI.intA Obm_6.out).2.1, by omega, by omega⟩).mono ?_
      rintro en w7 ⟨rfl, b⟩
      have HB7 := Lib.hid (HB6.out.trans (b.mono HB6.out.size))
      have hs7 := Lib.hid b.size
      have Oap_7 := Lib.hid (owni_later Oap_6.out b)
      have Oam_7 := Lib.hid (owni_later Oam_6.out b)
      have Obp_7 := Lib.hid (owni_later Obp_6.out b)
      have Obm_7 := Lib.hid (owni_later Obm_6.out b)
      have Xa_7 := Lib.hid (At5.below Xa_6.out b)
      have Xb_7 := Lib.hid (At5.below Xb_6.out b)
      clear b
      obtain ⟨⟨qa0, qa1, qa2, qa3, qa4⟩, _⟩ := Xa_7.out
      obtain ⟨⟨qb0, qb1, qb2, qb3, qb4⟩, _⟩ := Xb_7.out
      go_wp2_with fail
      clear qa0 qa1 qa2 qa3 qa4
      clear qb0 qb1 qb2 qb3 qb4
      go_ret
      exact ⟨rfl, HB7.out⟩
    | true =>
      obtain ⟨⟨qa0, qa1, qa2, qa3, qa4⟩, _⟩ := Xa_6.out
      obtain ⟨⟨qb0, qb1, qb2, qb3, qb4⟩, _⟩ := Xb_6.out
      go_wp2_with fail
      clear qa0 qa1 qa2 qa3 qa4
      clear qb0 qb1 qb2 qb3 qb4
      refine (dRouteText_any a1 len1 cap1 zs1 _ (isrow_later H1.out HB6.out)).mono ?_
      rintro en w7 ⟨fc, bc, lc, Pc, Mc, pv, mv, rfl, ⟨hlPc, hlMc⟩, ⟨o, o2⟩, b⟩
      have HB7 := Lib.hid (HB6.out.trans (b.mono HB6.out.size))
      have hs7 := Lib.hid b.size
      have Oap_7 := Lib.hid (owni_later Oap_6.out b)
      have Oam_7 := Lib.hid (owni_later Oam_6.out b)
      have Obp_7 := Lib.hid (owni_later Obp_6.out b)
      have Obm_7 := Lib.hid (owni_later Obm_6.out b)
      have Xa_7 := Lib.hid (At5.below Xa_6.out b)
      have Xb_7 := Lib.hid (At5.below Xb_6.out b)
      obtain ⟨acp, ccp, rfl, _, _⟩ := OwnI.tab o
      obtain ⟨acm, ccm, rfl, _, _⟩ := OwnI.tab o2
      have Bcp := Lib.hid (OwnI.btw o)
      have Bcm := Lib.hid (OwnI.btw o2)
      have Ocp_7 := Lib.hid (owni_mono o HB6.out.size)
      have Ocm_7 := Lib.hid (owni_mono o2 HB6.out.size)
      clear o o2
      clear b
      have HB8 := Lib.hid (HB7.out.alloc HB7.out.size (.cells #[.int .i64 fc, .int .i64 bc, .slice acp (Pc).length ccp, .int .i64 lc, .slice acm (Mc).length ccm] 27))
      have hs8 := Lib.hid (show w7.heap.size + 1 = (w7.alloc (.cells #[.int .i64 fc, .int .i64 bc, .slice acp (Pc).length ccp, .int .i64 lc, .slice acm (Mc).length ccm] 27)).heap.size by simp)
      have Oap_8 := Lib.hid (World.ownsRow.alloc Oap_7.out (.cells #[.int .i64 fc, .int .i64 bc, .slice acp (Pc).length ccp, .int .i64 lc, .slice acm (Mc).length ccm] 27))
      have Oam_8 := Lib.hid (World.ownsRow.alloc Oam_7.out (.cells #[.int .i64 fc, .int .i64 bc, .slice acp (Pc).length ccp, .int .i64 lc, .slice acm (Mc).length ccm] 27))
      have Obp_8 := Lib.hid (World.ownsRow.alloc Obp_7.out (.cells #[.int .i64 fc, .int .i64 bc, .slice acp (Pc).length ccp, .int .i64 lc, .slice acm (Mc).length ccm] 27))
      have Obm_8 := Lib.hid (World.ownsRow.alloc Obm_7.out (.cells #[.int .i64 fc, .int .i64 bc, .slice acp (Pc).length ccp, .int .i64 lc, .slice acm (Mc).length ccm] 27))
      have Ocp_8 := Lib.hid (World.ownsRow.alloc Ocp_7.out (.cells #[.int .i64 fc, .int .i64 bc, .slice acp (Pc).length ccp, .int .i64 lc, .slice acm (Mc).length ccm] 27))
      have Ocm_8 := Lib.hid (World.ownsRow.alloc Ocm_7.out (.cells #[.int .i64 fc, .int .i64 bc, .slice acp (Pc).length ccp, .int .i64 lc, .slice acm (Mc).length ccm] 27))
      have Xa_8 := Lib.hid (At5.alloc Xa_7.out (.cells #[.int .i64 fc, .int .i64 bc, .slice acp (Pc).length ccp, .int .i64 lc, .slice acm (Mc).length ccm] 27))
      have Xb_8 := Lib.hid (At5.alloc Xb_7.out (.cells #[.int .i64 fc, .int .i64 bc, .slice acp (Pc).length ccp, .int .i64 lc, .slice acm (Mc).length ccm] 27))
      have Xc_8 := Lib.hid (At5.new w7 (.int .i64 fc) (.int .i64 bc) (.slice acp (Pc).length ccp) (.int .i64 lc) (.slice acm (Mc).length ccm) 27)
      obtain ⟨⟨qa0, qa1, qa2, qa3, qa4⟩, _⟩ := Xa_8.out
      obtain ⟨⟨qb0, qb1, qb2, qb3, qb4⟩, _⟩ := Xb_8.out
      go_wp2_with fail
      clear qa0 qa1 qa2 qa3 qa4
      clear qb0 qb1 qb2 qb3 qb4
      generalize w7.alloc (.cells #[.int .i64 fc, .int .i64 bc, .slice acp (Pc).length ccp, .int .i64 lc, .slice acm (Mc).length ccm] 27) = w8 at *
      obtain ⟨xc, hrc⟩ : ∃ x, rtOk (fc, bc, Pc, lc, Mc) = x := ⟨_, rfl⟩
      have HRC := Lib.hid hrc
      clear hrc
      refine (irok_is fc bc acp ccp (Pc) lc acm ccm (Mc) HRC.out _ p ⟨⟨(OwnI.intA Ocp_8.out).2.2, (OwnI.intA Ocm_8.out).2.2⟩, (OwnI.intA Ocp_8.out).2.1, (OwnI.intA Ocm_8.out).2.1, by omega, by omega⟩ (HE.out.below HB8.out)).mono ?_
      rintro en w9 ⟨rfl, b⟩
      have HB9 := Lib.hid (HB8.out.trans (b.mono HB8.out.size))
      have hs9 := Lib.hid b.size
      have Oap_9 := Lib.hid (owni_later Oap_8.out b)
      have Oam_9 := Lib.hid (owni_later Oam_8.out b)
      have Obp_9 := Lib.hid (owni_later Obp_8.out b)
      have Obm_9 := Lib.hid (owni_later Obm_8.out b)
      have Ocp_9 := Lib.hid (owni_later Ocp_8.out b)
      have Ocm_9 := Lib.hid (owni_later Ocm_8.out b)
      have Xa_9 := Lib.hid (At5.below Xa_8.out b)
      have Xb_9 := Lib.hid (At5.below Xb_8.out b)
      have Xc_9 := Lib.hid (At5.below Xc_8.out b)
      clear b
      cases xc with
      | false =>
        obtain ⟨⟨qa0, qa1, qa2, qa3, qa4⟩, _⟩ := Xa_9.out
        obtain ⟨⟨qb0, qb1, qb2, qb3, qb4⟩, _⟩ := Xb_9.out
        obtain ⟨⟨qc0, qc1, qc2, qc3, qc4⟩, _⟩ := Xc_9.out
        go_wp2_with fail
        clear qa0 qa1 qa2 qa3 qa4
        clear qb0 qb1 qb2 qb3 qb4
        clear qc0 qc1 qc2 qc3 qc4
        go_ret
        exact ⟨rfl, HB9.out⟩
      | true =>
        by_cases hm1 : n = -1
        · have d1 : (n != -1) = false := by simp [hm1]
          obtain ⟨m, hm⟩ : ∃ m, rtCmp (fb, bb, Pb, lb, Mb) (fc, bc, Pc, lc, Mc) = m := ⟨_, rfl⟩
          have HM := Lib.hid hm
          have HN1 := Lib.hid hm1
          clear hm hm1
          obtain ⟨⟨qa0, qa1, qa2, qa3, qa4⟩, _⟩ := Xa_9.out
          obtain ⟨⟨qb0, qb1, qb2, qb3, qb4⟩, _⟩ := Xb_9.out
          obtain ⟨⟨qc0, qc1, qc2, qc3, qc4⟩, _⟩ := Xc_9.out
          go_wp2_with fail
          clear qa0 qa1 qa2 qa3 qa4
          clear qb0 qb1 qb2 qb3 qb4
          clear qc0 qc1 qc2 qc3 qc4
          refine (ircmp_is fb bb abp cbp (Pb) lb abm cbm (Mb) fc bc acp ccp (Pc) lc acm ccm (Mc) HM.out _ p ⟨⟨(OwnI.intA Obp_9.out).2.2, (OwnI.intA Obm_9.out).2.2⟩, (OwnI.intA Obp_9.out).2.1, (OwnI.intA Obm_9.out).2.1, by omega, by omega⟩ ⟨⟨(OwnI.intA Ocp_9.out).2.2, (OwnI.intA Ocm_9.out).2.2⟩, (OwnI.intA Ocp_9.out).2.1, (OwnI.intA Ocm_9.out).2.1, by omega, by omega⟩ (HE.out.below HB9.out)).mono ?_
          rintro en w10 ⟨rfl, b⟩
          have HB10 := Lib.hid (HB9.out.trans (b.mono HB9.out.size))
          have hs10 := Lib.hid b.size
          have Oap_10 := Lib.hid (owni_later Oap_9.out b)
          have Oam_10 := Lib.hid (owni_later Oam_9.out b)
          have Obp_10 := Lib.hid (owni_later Obp_9.out b)
          have Obm_10 := Lib.hid (owni_later Obm_9.out b)
          have Ocp_10 := Lib.hid (owni_later Ocp_9.out b)
          have Ocm_10 := Lib.hid (owni_later Ocm_9.out b)
          have Xa_10 := Lib.hid (At5.below Xa_9.out b)
          have Xb_10 := Lib.hid (At5.below Xb_9.out b)
          have Xc_10 := Lib.hid (At5.below Xc_9.out b)
          clear b
          by_cases hm2 : m = -1
          · have d2 : (m != -1) = false := by simp [hm2]
            have HT := Lib.hid (show rtCmp (fa, ba, Pa, la, Ma) (fc, bc, Pc, lc, Mc) = -1 from by rw [rtCmp_yes HRA.out HRC.out]; exact rtCmp0_trans (by rw [← rtCmp_yes HRA.out HRB.out, HN.out]; exact HN1.out) (by rw [← rtCmp_yes HRB.out HRC.out, HM.out]; exact hm2))
            clear hm2
            obtain ⟨⟨qa0, qa1, qa2, qa3, qa4⟩, _⟩ := Xa_10.out
            obtain ⟨⟨qb0, qb1, qb2, qb3, qb4⟩, _⟩ := Xb_10.out
            obtain ⟨⟨qc0, qc1, qc2, qc3, qc4⟩, _⟩ := Xc_10.out
            go_wp2_with fail
            clear qa0 qa1 qa2 qa3 qa4
            clear qb0 qb1 qb2 qb3 qb4
            clear qc0 qc1 qc2 qc3 qc4
            refine (ircmp_is fa ba aap cap (Pa) la aam cam (Ma) fc bc acp ccp (Pc) lc acm ccm (Mc) HT.out _ p ⟨⟨(OwnI.intA Oap_10.out).2.2, (OwnI.intA Oam_10.out).2.2⟩, (OwnI.intA Oap_10.out).2.1, (OwnI.intA Oam_10.out).2.1, by omega, by omega⟩ ⟨⟨(OwnI.intA Ocp_10.out).2.2, (OwnI.intA Ocm_10.out).2.2⟩, (OwnI.intA Ocp_10.out).2.1, (OwnI.intA Ocm_10.out).2.1, by omega, by omega⟩ (HE.out.below HB10.out)).mono ?_
            rintro en w11 ⟨rfl, b⟩
            have HB11 := Lib.hid (HB10.out.trans (b.mono HB10.out.size))
            have hs11 := Lib.hid b.size
            have Oap_11 := Lib.hid (owni_later Oap_10.out b)
            have Oam_11 := Lib.hid (owni_later Oam_10.out b)
            have Obp_11 := Lib.hid (owni_later Obp_10.out b)
            have Obm_11 := Lib.hid (owni_later Obm_10.out b)
            have Ocp_11 := Lib.hid (owni_later Ocp_10.out b)
            have Ocm_11 := Lib.hid (owni_later Ocm_10.out b)
            have Xa_11 := Lib.hid (At5.below Xa_10.out b)
            have Xb_11 := Lib.hid (At5.below Xb_10.out b)
            have Xc_11 := Lib.hid (At5.below Xc_10.out b)
            clear b
            obtain ⟨⟨qa0, qa1, qa2, qa3, qa4⟩, _⟩ := Xa_11.out
            obtain ⟨⟨qb0, qb1, qb2, qb3, qb4⟩, _⟩ := Xb_11.out
            obtain ⟨⟨qc0, qc1, qc2, qc3, qc4⟩, _⟩ := Xc_11.out
            go_wp2_with fail
            clear qa0 qa1 qa2 qa3 qa4
            clear qb0 qb1 qb2 qb3 qb4
            clear qc0 qc1 qc2 qc3 qc4
            go_ret
            exact ⟨rfl, HB11.out⟩
          · have d2 : (m != -1) = true := by simp [hm2]
            clear hm2
            obtain ⟨⟨qa0, qa1, qa2, qa3, qa4⟩, _⟩ := Xa_10.out
            obtain ⟨⟨qb0, qb1, qb2, qb3, qb4⟩, _⟩ := Xb_10.out
            obtain ⟨⟨qc0, qc1, qc2, qc3, qc4⟩, _⟩ := Xc_10.out
            go_wp2_with fail
            clear qa0 qa1 qa2 qa3 qa4
            clear qb0 qb1 qb2 qb3 qb4
            clear qc0 qc1 qc2 qc3 qc4
            go_ret
            exact ⟨rfl, HB10.out⟩
        · have d1 : (n != -1) = true := by simp [hm1]
          clear hm1
          obtain ⟨⟨qa0, qa1, qa2, qa3, qa4⟩, _⟩ := Xa_9.out
          obtain ⟨⟨qb0, qb1, qb2, qb3, qb4⟩, _⟩ := Xb_9.out
          obtain ⟨⟨qc0, qc1, qc2, qc3, qc4⟩, _⟩ := Xc_9.out
          go_wp2_with fail
          clear qa0 qa1 qa2 qa3 qa4
          clear qb0 qb1 qb2 qb3 qb4
          clear qc0 qc1 qc2 qc3 qc4
          go_ret
          exact ⟨rfl, HB9.out⟩

end Go.Proofs.YtfjfcdifnfffbaaDoor
