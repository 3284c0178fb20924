/-
  The law that the text tells the route: the walk.
-/
import Derived.Test.YtfjfcdifnfffbaaDoorRtDd
import Derived.Test.YtfjfcdifnfffbaaDoorRtExA
import Derived.Test.YtfjfcdifnfffbaaDoorRtLm
import Derived.Test.YtfjfcdifnfffbaaDoorRtTy
import Derived.Test.YtfjfcdifnfffbaaDoorRtPf
namespace Go.Proofs.YtfjfcdifnfffbaaDoor
open Go.RowKit
set_option linter.unusedSimpArgs false
set_option linter.unusedVariables false

set_option maxRecDepth 100000 in
set_option maxHeartbeats 4000000 in
theorem lawRouteText (a0 : Option Addr) (len0 cap0 : Nat) (zs0 : List Int) (a1 : Option Addr) (len1 cap1 : Nat) (zs1 : List Int) (w : World) (h0 : IsRow w a0 len0 cap0 zs0) (h1 : IsRow w a1 len1 cap1 zs1) (p : Addr) (hE : EV w p) (ht : Pow w) :
    Calls Tryd.prog 9 #[.slice a0 len0 cap0, .slice a1 len1 cap1] w fun e w' => e = .returned (.bool true) ∧ Below w.heap.size w w' := by
  have H0 := Lib.hid h0
  have H1 := Lib.hid h1
  have HE := Lib.hid hE
  have HT := Lib.hid ht
  clear h0 hE h1 ht
  by_cases hl0 : (1048576 : Int) < (len0 : Int)
  · go_enter Tryd.func9, Tryd.ntmps9
    go_wp2_with fail
    go_ret
    exact ⟨rfl, Below.refl _ _⟩
  by_cases hl1 : (1048576 : Int) < (len1 : Int)
  · go_enter Tryd.func9, Tryd.ntmps9
    go_wp2_with fail
    go_ret
    exact ⟨rfl, Below.refl _ _⟩
  have HB0 := Lib.hid (Below.refl w.heap.size w)
  go_enter Tryd.func9, Tryd.ntmps9
  go_wp2_with fail
  refine (dRouteText_any a0 len0 cap0 zs0 _ (isrow_later H0.out HB0.out)).mono ?_
  rintro en w1 ⟨fr, br, lr, Pr, Mr, pv, mv, rfl, ⟨hlPr, hlMr⟩, ⟨o, o2⟩, b⟩
  have HB1 := Lib.hid (HB0.out.trans (b.mono HB0.out.size))
  have hs1 := Lib.hid b.size
  obtain ⟨arp, crp, rfl, _, _⟩ := OwnI.tab o
  obtain ⟨arm, crm, rfl, _, _⟩ := OwnI.tab o2
  have Brp := Lib.hid (OwnI.btw o)
  have Brm := Lib.hid (OwnI.btw o2)
  have Orp_1 := Lib.hid (owni_mono o HB0.out.size)
  have Orm_1 := Lib.hid (owni_mono o2 HB0.out.size)
  clear o o2
  clear b
  have HB2 := Lib.hid (HB1.out.alloc HB1.out.size (.cells #[.int .i64 fr, .int .i64 br, .slice arp (Pr).length crp, .int .i64 lr, .slice arm (Mr).length crm] 27))
  have hs2 := Lib.hid (show w1.heap.size + 1 = (w1.alloc (.cells #[.int .i64 fr, .int .i64 br, .slice arp (Pr).length crp, .int .i64 lr, .slice arm (Mr).length crm] 27)).heap.size by simp)
  have Orp_2 := Lib.hid (World.ownsRow.alloc Orp_1.out (.cells #[.int .i64 fr, .int .i64 br, .slice arp (Pr).length crp, .int .i64 lr, .slice arm (Mr).length crm] 27))
  have Orm_2 := Lib.hid (World.ownsRow.alloc Orm_1.out (.cells #[.int .i64 fr, .int .i64 br, .slice arp (Pr).length crp, .int .i64 lr, .slice arm (Mr).length crm] 27))
  have Xr_2 := Lib.hid (At5.new w1 (.int .i64 fr) (.int .i64 br) (.slice arp (Pr).length crp) (.int .i64 lr) (.slice arm (Mr).length crm) 27)
  go_wp2_with fail
  generalize w1.alloc (.cells #[.int .i64 fr, .int .i64 br, .slice arp (Pr).length crp, .int .i64 lr, .slice arm (Mr).length crm] 27) = w2 at *
  obtain ⟨s, hs⟩ : ∃ s, rtt (fr, br, Pr, lr, Mr) = s := ⟨_, rfl⟩
  have HS := Lib.hid hs
  clear hs
  have hse : (s.toList == s.toList) = true := by simp
  have hsn : (s.toList != s.toList) = false := by simp
  cases hor : rtOk (fr, br, Pr, lr, Mr) with
  | false =>
    have hs0 : (s.toList == ([] : List UInt8)) = true := by rw [← HS.out, rtt_no hor, ByteArray.toList_eq]; rfl
    have HO := Lib.hid hor
    clear hor
    refine (irtt_is fr br arp crp (Pr) lr arm crm (Mr) HS.out _ p ⟨⟨(OwnI.intA Orp_2.out).2.2, (OwnI.intA Orm_2.out).2.2⟩, (OwnI.intA Orp_2.out).2.1, (OwnI.intA Orm_2.out).2.1, by omega, by omega⟩ (HE.out.below HB2.out) (HT.out.on HB2.out (Nat.le_refl _))).mono ?_
    rintro en w3 ⟨rfl, b⟩
    have HB3 := Lib.hid (HB2.out.trans (b.mono HB2.out.size))
    have hs3 := Lib.hid b.size
    have Orp_3 := Lib.hid (owni_later Orp_2.out b)
    have Orm_3 := Lib.hid (owni_later Orm_2.out b)
    have Xr_3 := Lib.hid (At5.below Xr_2.out b)
    clear b
    obtain ⟨⟨qr0, qr1, qr2, qr3, qr4⟩, _⟩ := Xr_3.out
    go_wp2_with fail
    clear qr0 qr1 qr2 qr3 qr4
    refine (srtt_is fr br arp crp (Pr) lr arm crm (Mr) HS.out _ ⟨⟨(OwnI.intA Orp_3.out).2.2, (OwnI.intA Orm_3.out).2.2⟩, (OwnI.intA Orp_3.out).2.1, (OwnI.intA Orm_3.out).2.1, by omega, by omega⟩).mono ?_
    rintro en w4 ⟨rfl, b⟩
    have HB4 := Lib.hid (HB3.out.trans (b.mono HB3.out.size))
    have hs4 := Lib.hid b.size
    have Orp_4 := Lib.hid (owni_later Orp_3.out b)
    have Orm_4 := Lib.hid (owni_later Orm_3.out b)
    have Xr_4 := Lib.hid (At5.below Xr_3.out b)
    clear b
    obtain ⟨⟨qr0, qr1, qr2, qr3, qr4⟩, _⟩ := Xr_4.out
    go_wp2_with fail
    clear qr0 qr1 qr2 qr3 qr4
    refine (srtt_is fr br arp crp (Pr) lr arm crm (Mr) HS.out _ ⟨⟨(OwnI.intA Orp_4.out).2.2, (OwnI.intA Orm_4.out).2.2⟩, (OwnI.intA Orp_4.out).2.1, (OwnI.intA Orm_4.out).2.1, by omega, by omega⟩).mono ?_
    rintro en w5 ⟨rfl, b⟩
    have HB5 := Lib.hid (HB4.out.trans (b.mono HB4.out.size))
    have hs5 := Lib.hid b.size
    have Orp_5 := Lib.hid (owni_later Orp_4.out b)
    have Orm_5 := Lib.hid (owni_later Orm_4.out b)
    have Xr_5 := Lib.hid (At5.below Xr_4.out b)
    clear b
    obtain ⟨⟨qr0, qr1, qr2, qr3, qr4⟩, _⟩ := Xr_5.out
    go_wp2_with fail
    clear qr0 qr1 qr2 qr3 qr4
    go_ret
    exact ⟨rfl, HB5.out⟩
  | true =>
    have hs0 : (s.toList == ([] : List UInt8)) = false := by rw [← HS.out]; exact rtt_some hor
    have HO := Lib.hid hor
    have HG := Lib.hid ((rtOk_iff _).1 hor)
    clear hor
    refine (irtt_is fr br arp crp (Pr) lr arm crm (Mr) HS.out _ p ⟨⟨(OwnI.intA Orp_2.out).2.2, (OwnI.intA Orm_2.out).2.2⟩, (OwnI.intA Orp_2.out).2.1, (OwnI.intA Orm_2.out).2.1, by omega, by omega⟩ (HE.out.below HB2.out) (HT.out.on HB2.out (Nat.le_refl _))).mono ?_
    rintro en w3 ⟨rfl, b⟩
    have HB3 := Lib.hid (HB2.out.trans (b.mono HB2.out.size))
    have hs3 := Lib.hid b.size
    have Orp_3 := Lib.hid (owni_later Orp_2.out b)
    have Orm_3 := Lib.hid (owni_later Orm_2.out b)
    have Xr_3 := Lib.hid (At5.below Xr_2.out b)
    clear b
    obtain ⟨⟨qr0, qr1, qr2, qr3, qr4⟩, _⟩ := Xr_3.out
    go_wp2_with fail
    clear qr0 qr1 qr2 qr3 qr4
    refine (srtt_is fr br arp crp (Pr) lr arm crm (Mr) HS.out _ ⟨⟨(OwnI.intA Orp_3.out).2.2, (OwnI.intA Orm_3.out).2.2⟩, (OwnI.intA Orp_3.out).2.1, (OwnI.intA Orm_3.out).2.1, by omega, by omega⟩).mono ?_
    rintro en w4 ⟨rfl, b⟩
    have HB4 := Lib.hid (HB3.out.trans (b.mono HB3.out.size))
    have hs4 := Lib.hid b.size
    have Orp_4 := Lib.hid (owni_later Orp_3.out b)
    have Orm_4 := Lib.hid (owni_later Orm_3.out b)
    have Xr_4 := Lib.hid (At5.below Xr_3.out b)
    clear b
    obtain ⟨⟨qr0, qr1, qr2, qr3, qr4⟩, _⟩ := Xr_4.out
    go_wp2_with fail
    clear qr0 qr1 qr2 qr3 qr4
    refine (dRouteText_any a1 len1 cap1 zs1 _ (isrow_later H1.out HB4.out)).mono ?_
    rintro en w5 ⟨fq, bq, lq, Pq, Mq, pv, mv, rfl, ⟨hlPq, hlMq⟩, ⟨o, o2⟩, b⟩
    have HB5 := Lib.hid (HB4.out.trans (b.mono HB4.out.size))
    have hs5 := Lib.hid b.size
    have Orp_5 := Lib.hid (owni_later Orp_4.out b)
    have Orm_5 := Lib.hid (owni_later Orm_4.out b)
    have Xr_5 := Lib.hid (At5.below Xr_4.out b)
    obtain ⟨aqp, cqp, rfl, _, _⟩ := OwnI.tab o
    obtain ⟨aqm, cqm, rfl, _, _⟩ := OwnI.tab o2
    have Bqp := Lib.hid (OwnI.btw o)
    have Bqm := Lib.hid (OwnI.btw o2)
    have Oqp_5 := Lib.hid (owni_mono o HB4.out.size)
    have Oqm_5 := Lib.hid (owni_mono o2 HB4.out.size)
    clear o o2
    clear b
    have HB6 := Lib.hid (HB5.out.alloc HB5.out.size (.cells #[.int .i64 fq, .int .i64 bq, .slice aqp (Pq).length cqp, .int .i64 lq, .slice aqm (Mq).length cqm] 27))
    have hs6 := Lib.hid (show w5.heap.size + 1 = (w5.alloc (.cells #[.int .i64 fq, .int .i64 bq, .slice aqp (Pq).length cqp, .int .i64 lq, .slice aqm (Mq).length cqm] 27)).heap.size by simp)
    have Orp_6 := Lib.hid (World.ownsRow.alloc Orp_5.out (.cells #[.int .i64 fq, .int .i64 bq, .slice aqp (Pq).length cqp, .int .i64 lq, .slice aqm (Mq).length cqm] 27))
    have Orm_6 := Lib.hid (World.ownsRow.alloc Orm_5.out (.cells #[.int .i64 fq, .int .i64 bq, .slice aqp (Pq).length cqp, .int .i64 lq, .slice aqm (Mq).length cqm] 27))
    have Oqp_6 := Lib.hid (World.ownsRow.alloc Oqp_5.out (.cells #[.int .i64 fq, .int .i64 bq, .slice aqp (Pq).length cqp, .int .i64 lq, .slice aqm (Mq).length cqm] 27))
    have Oqm_6 := Lib.hid (World.ownsRow.alloc Oqm_5.out (.cells #[.int .i64 fq, .int .i64 bq, .slice aqp (Pq).length cqp, .int .i64 lq, .slice aqm (Mq).length cqm] 27))
    have Xr_6 := Lib.hid (At5.alloc Xr_5.out (.cells #[.int .i64 fq, .int .i64 bq, .slice aqp (Pq).length cqp, .int .i64 lq, .slice aqm (Mq).length cqm] 27))
    have Xq_6 := Lib.hid (At5.new w5 (.int .i64 fq) (.int .i64 bq) (.slice aqp (Pq).length cqp) (.int .i64 lq) (.slice aqm (Mq).length cqm) 27)
    obtain ⟨⟨qr0, qr1, qr2, qr3, qr4⟩, _⟩ := Xr_6.out
    go_wp2_with fail
    clear qr0 qr1 qr2 qr3 qr4
    generalize w5.alloc (.cells #[.int .i64 fq, .int .i64 bq, .slice aqp (Pq).length cqp, .int .i64 lq, .slice aqm (Mq).length cqm] 27) = w6 at *
    obtain ⟨t, ht⟩ : ∃ t, rtt (fq, bq, Pq, lq, Mq) = t := ⟨_, rfl⟩
    have HQ := Lib.hid ht
    clear ht
    refine (irtt_is fq bq aqp cqp (Pq) lq aqm cqm (Mq) HQ.out _ p ⟨⟨(OwnI.intA Oqp_6.out).2.2, (OwnI.intA Oqm_6.out).2.2⟩, (OwnI.intA Oqp_6.out).2.1, (OwnI.intA Oqm_6.out).2.1, by omega, by omega⟩ (HE.out.below HB6.out) (HT.out.on HB6.out (Nat.le_refl _))).mono ?_
    rintro en w7 ⟨rfl, b⟩
    have HB7 := Lib.hid (HB6.out.trans (b.mono HB6.out.size))
    have hs7 := Lib.hid b.size
    have Orp_7 := Lib.hid (owni_later Orp_6.out b)
    have Orm_7 := Lib.hid (owni_later Orm_6.out b)
    have Oqp_7 := Lib.hid (owni_later Oqp_6.out b)
    have Oqm_7 := Lib.hid (owni_later Oqm_6.out b)
    have Xr_7 := Lib.hid (At5.below Xr_6.out b)
    have Xq_7 := Lib.hid (At5.below Xq_6.out b)
    clear b
    have t1 : (len1 : Int).tmod 9 = ((len1 % 9 : Nat) : Int) := by rw [Int.tmod_eq_emod_of_nonneg (by omega)]; omega
    have hr9 : len1 % 9 < 9 := by omega
    generalize len1 % 9 = n at *
    have hw : IntKind.i64.wrap (1 + (n : Int)) = 1 + (n : Int) := by rw [IntKind.wrap_i64]; omega
    have hn9 : 1 ≤ (1 + (n : Int)) ∧ (1 + (n : Int)) ≤ 9 := by omega
    obtain ⟨⟨fV, bV, PV, lV, MV⟩, hV⟩ : ∃ r : Rt, rtMark (fr, br, Pr, lr, Mr) (1 + (n : Int)) = (r, true) := ⟨_, mark_of HG.out hn9⟩
    have hVl : PV.length ≤ 5 ∧ MV.length ≤ 10 := by have := rtMark_len (fr, br, Pr, lr, Mr) (1 + (n : Int)); rw [hV] at this; exact this
    have HV := Lib.hid hV
    have HFV := Lib.hid (mkF hV)
    clear hV
    obtain ⟨⟨qr0, qr1, qr2, qr3, qr4⟩, _⟩ := Xr_7.out
    obtain ⟨⟨qq0, qq1, qq2, qq3, qq4⟩, _⟩ := Xq_7.out
    go_wp2_with fail
    clear qr0 qr1 qr2 qr3 qr4
    clear qq0 qq1 qq2 qq3 qq4
    refine (irtmark_is fr br arp crp (Pr) lr arm crm (Mr) HV.out _ p ⟨⟨(OwnI.intA Orp_7.out).2.2, (OwnI.intA Orm_7.out).2.2⟩, (OwnI.intA Orp_7.out).2.1, (OwnI.intA Orm_7.out).2.1, by omega, by omega⟩ (HE.out.below HB7.out)).mono ?_
    rintro en w8 ⟨pv, mv, rfl, S, o, bP, o2, hS, b⟩
    have HB8 := Lib.hid (HB7.out.trans (b.mono HB7.out.size))
    have hs8 := Lib.hid b.size
    have Orp_8 := Lib.hid (owni_later Orp_7.out b)
    have Orm_8 := Lib.hid (owni_later Orm_7.out b)
    have Oqp_8 := Lib.hid (owni_later Oqp_7.out b)
    have Oqm_8 := Lib.hid (owni_later Oqm_7.out b)
    have Xr_8 := Lib.hid (At5.below Xr_7.out b)
    have Xq_8 := Lib.hid (At5.below Xq_7.out b)
    replace o : OwnI w8 w7.heap.size pv PV := o
    replace o2 : OwnI w8 S mv MV := o2
    obtain ⟨amp, cmp, rfl, _, _⟩ := OwnI.tab o
    obtain ⟨amm, cmm, rfl, _, _⟩ := OwnI.tab o2
    have Am := Lib.hid (apart2 bP o2)
    have Bmp := Lib.hid (OwnI.btw o)
    have Bmm := Lib.hid ((OwnI.btw o2).mono hS (Nat.le_refl _))
    have Omp_8 := Lib.hid (owni_mono o HB7.out.size)
    have Omm_8 := Lib.hid (owni_mono o2 (Nat.le_trans HB7.out.size hS))
    clear o o2 bP hS b
    have HB9 := Lib.hid (HB8.out.alloc HB8.out.size (.cells #[.int .i64 fV, .int .i64 bV, .slice amp (PV).length cmp, .int .i64 lV, .slice amm (MV).length cmm] 27))
    have hs9 := Lib.hid (show w8.heap.size + 1 = (w8.alloc (.cells #[.int .i64 fV, .int .i64 bV, .slice amp (PV).length cmp, .int .i64 lV, .slice amm (MV).length cmm] 27)).heap.size by simp)
    have Orp_9 := Lib.hid (World.ownsRow.alloc Orp_8.out (.cells #[.int .i64 fV, .int .i64 bV, .slice amp (PV).length cmp, .int .i64 lV, .slice amm (MV).length cmm] 27))
    have Orm_9 := Lib.hid (World.ownsRow.alloc Orm_8.out (.cells #[.int .i64 fV, .int .i64 bV, .slice amp (PV).length cmp, .int .i64 lV, .slice amm (MV).length cmm] 27))
    have Oqp_9 := Lib.hid (World.ownsRow.alloc Oqp_8.out (.cells #[.int .i64 fV, .int .i64 bV, .slice amp (PV).length cmp, .int .i64 lV, .slice amm (MV).length cmm] 27))
    have Oqm_9 := Lib.hid (World.ownsRow.alloc Oqm_8.out (.cells #[.int .i64 fV, .int .i64 bV, .slice amp (PV).length cmp, .int .i64 lV, .slice amm (MV).length cmm] 27))
    have Omp_9 := Lib.hid (World.ownsRow.alloc Omp_8.out (.cells #[.int .i64 fV, .int .i64 bV, .slice amp (PV).length cmp, .int .i64 lV, .slice amm (MV).length cmm] 27))
    have Omm_9 := Lib.hid (World.ownsRow.alloc Omm_8.out (.cells #[.int .i64 fV, .int .i64 bV, .slice amp (PV).length cmp, .int .i64 lV, .slice amm (MV).length cmm] 27))
    have Xr_9 := Lib.hid (At5.alloc Xr_8.out (.cells #[.int .i64 fV, .int .i64 bV, .slice amp (PV).length cmp, .int .i64 lV, .slice amm (MV).length cmm] 27))
    have Xq_9 := Lib.hid (At5.alloc Xq_8.out (.cells #[.int .i64 fV, .int .i64 bV, .slice amp (PV).length cmp, .int .i64 lV, .slice amm (MV).length cmm] 27))
    have Xm_9 := Lib.hid (At5.new w8 (.int .i64 fV) (.int .i64 bV) (.slice amp (PV).length cmp) (.int .i64 lV) (.slice amm (MV).length cmm) 27)
    obtain ⟨⟨qr0, qr1, qr2, qr3, qr4⟩, _⟩ := Xr_9.out
    obtain ⟨⟨qq0, qq1, qq2, qq3, qq4⟩, _⟩ := Xq_9.out
    go_wp2_with fail
    clear qr0 qr1 qr2 qr3 qr4
    clear qq0 qq1 qq2 qq3 qq4
    generalize w8.alloc (.cells #[.int .i64 fV, .int .i64 bV, .slice amp (PV).length cmp, .int .i64 lV, .slice amm (MV).length cmm] 27) = w9 at *
    obtain ⟨y, hy⟩ : ∃ y, decide (((fV, bV, PV, lV, MV) : Rt) = (fr, br, Pr, lr, Mr)) = y := ⟨_, rfl⟩
    obtain ⟨u, hu⟩ : ∃ u, rtt (fV, bV, PV, lV, MV) = u := ⟨_, rfl⟩
    have hus : (u.toList == s.toList) = y := by rw [← hu, ← HS.out]; exact rtt_eq ((rtOk_iff _).2 HFV.out.goodU) HO.out hy
    have hyy : (y == y) = true := by simp
    have HY := Lib.hid hy
    have HU := Lib.hid hu
    clear hy hu
    cases hoq : rtOk (fq, bq, Pq, lq, Mq) with
    | false =>
      have ht0 : (t.toList == ([] : List UInt8)) = true := by rw [← HQ.out, rtt_no hoq, ByteArray.toList_eq]; rfl
      clear hoq
      refine wp_region_held_drew (S := fun W => ((W.cell? ⟨w1.heap.size, 0, none⟩ = some (.int .i64 fr) ∧ W.cell? ⟨w1.heap.size, 1, none⟩ = some (.int .i64 br) ∧ W.cell? ⟨w1.heap.size, 2, none⟩ = some (.slice arp (Pr).length crp) ∧ W.cell? ⟨w1.heap.size, 3, none⟩ = some (.int .i64 lr) ∧ W.cell? ⟨w1.heap.size, 4, none⟩ = some (.slice arm (Mr).length crm)) ∧ (W.cell? ⟨w8.heap.size, 0, none⟩ = some (.int .i64 fV) ∧ W.cell? ⟨w8.heap.size, 1, none⟩ = some (.int .i64 bV) ∧ W.cell? ⟨w8.heap.size, 2, none⟩ = some (.slice amp (PV).length cmp) ∧ W.cell? ⟨w8.heap.size, 3, none⟩ = some (.int .i64 lV) ∧ W.cell? ⟨w8.heap.size, 4, none⟩ = some (.slice amm (MV).length cmm))) ∧ Hid (Below w.heap.size w W ∧ OwnI W w.heap.size (.slice arp (Pr).length crp) (Pr) ∧ OwnI W w.heap.size (.slice arm (Mr).length crm) (Mr) ∧ OwnI W w.heap.size (.slice aqp (Pq).length cqp) (Pq) ∧ OwnI W w.heap.size (.slice aqm (Mq).length cqm) (Mq) ∧ OwnI W w.heap.size (.slice amp (PV).length cmp) (PV) ∧ OwnI W w.heap.size (.slice amm (MV).length cmm) (MV) ∧ At5 W (w1.heap.size) (.int .i64 fr) (.int .i64 br) (.slice arp (Pr).length crp) (.int .i64 lr) (.slice arm (Mr).length crm) ∧ At5 W (w5.heap.size) (.int .i64 fq) (.int .i64 bq) (.slice aqp (Pq).length cqp) (.int .i64 lq) (.slice aqm (Mq).length cqm) ∧ At5 W (w8.heap.size) (.int .i64 fV) (.int .i64 bV) (.slice amp (PV).length cmp) (.int .i64 lV) (.slice amm (MV).length cmm))) (by kernel_rfl) ?_ (fun hHeld => ?_)
      · exact ⟨⟨Xr_9.out.1, Xm_9.out.1⟩, Lib.hid ⟨HB9.out.drew, Orp_9.out.drew, Orm_9.out.drew, Oqp_9.out.drew, Oqm_9.out.drew, Omp_9.out.drew, Omm_9.out.drew, Xr_9.out.drew, Xq_9.out.drew, Xm_9.out.drew⟩⟩
      refine takeH (i := 0) (v := ?_) rfl rfl (by kernel_rfl) (by kernel_rfl) (by kernel_rfl) (fun _ _ _ h => h) (by rfl) ?_ (by assumption) ?_
      rotate_left 1
      · intro w hSw
        (try dsimp only at hSw)
        go_simp
        try with_reducible rfl
      try simp only [List.setIfInBounds_toArray, List.set_cons_zero, List.set_cons_succ]
      refine takeH (i := 1) (v := ?_) rfl rfl (by kernel_rfl) (by kernel_rfl) (by kernel_rfl) (fun _ _ _ h => h) (by rfl) ?_ (by assumption) ?_
      rotate_left 1
      · intro w hSw
        (try dsimp only at hSw)
        go_simp
        try with_reducible rfl
      try simp only [List.setIfInBounds_toArray, List.set_cons_zero, List.set_cons_succ]
      refine takeH (i := 2) (v := ?_) rfl rfl (by kernel_rfl) (by kernel_rfl) (by kernel_rfl) (fun _ _ _ h => h) (by rfl) ?_ (by assumption) ?_
      rotate_left 1
      · intro w hSw
        (try dsimp only at hSw)
        go_simp
        try with_reducible rfl
      try simp only [List.setIfInBounds_toArray, List.set_cons_zero, List.set_cons_succ]
      refine skipH (i := 3) rfl rfl (by kernel_rfl) (by kernel_rfl) (by kernel_rfl) (fun _ _ _ h => h) (by rfl) (by assumption) ?_
      try simp only [List.setIfInBounds_toArray, List.set_cons_zero, List.set_cons_succ]
      refine skipH (i := 4) rfl rfl (by kernel_rfl) (by kernel_rfl) (by kernel_rfl) (fun _ _ _ h => h) (by rfl) (by assumption) ?_
      try simp only [List.setIfInBounds_toArray, List.set_cons_zero, List.set_cons_succ]
      refine skipH (i := 5) rfl rfl (by kernel_rfl) (by kernel_rfl) (by kernel_rfl) (fun _ _ _ h => h) (by rfl) (by assumption) ?_
      try simp only [List.setIfInBounds_toArray, List.set_cons_zero, List.set_cons_succ]
      refine skipH (i := 6) rfl rfl (by kernel_rfl) (by kernel_rfl) (by kernel_rfl) (fun _ _ _ h => h) (by rfl) (by assumption) ?_
      try simp only [List.setIfInBounds_toArray, List.set_cons_zero, List.set_cons_succ]
      refine skipH (i := 7) rfl rfl (by kernel_rfl) (by kernel_rfl) (by kernel_rfl) (fun _ _ _ h => h) (by rfl) (by assumption) ?_
      try simp only [List.setIfInBounds_toArray, List.set_cons_zero, List.set_cons_succ]
      refine skipH (i := 8) rfl rfl (by kernel_rfl) (by kernel_rfl) (by kernel_rfl) (fun _ _ _ h => h) (by rfl) (by assumption) ?_
      try simp only [List.setIfInBounds_toArray, List.set_cons_zero, List.set_cons_succ]
      refine skipH (i := 9) rfl rfl (by kernel_rfl) (by kernel_rfl) (by kernel_rfl) (fun _ _ _ h => h) (by rfl) (by assumption) ?_
      try simp only [List.setIfInBounds_toArray, List.set_cons_zero, List.set_cons_succ]
      refine takeH (i := 10) (v := ?_) rfl rfl (by kernel_rfl) (by kernel_rfl) (by kernel_rfl) (fun _ _ _ h => h) (by rfl) ?_ (by assumption) ?_
      rotate_left 1
      · intro w hSw
        (try dsimp only at hSw)
        go_simp
        try with_reducible rfl
      try simp only [List.setIfInBounds_toArray, List.set_cons_zero, List.set_cons_succ]
      refine takeH (i := 11) (v := ?_) rfl rfl (by kernel_rfl) (by kernel_rfl) (by kernel_rfl) (fun _ _ _ h => h) (by rfl) ?_ (by assumption) ?_
      rotate_left 1
      · intro w hSw
        (try dsimp only at hSw)
        go_simp
        try with_reducible rfl
      try simp only [List.setIfInBounds_toArray, List.set_cons_zero, List.set_cons_succ]
      refine takeH (i := 12) (v := ?_) rfl rfl (by kernel_rfl) (by kernel_rfl) (by kernel_rfl) (fun _ _ _ h => h) (by rfl) ?_ (by assumption) ?_
      rotate_left 1
      · intro w hSw
        (try dsimp only at hSw)
        go_simp
        try with_reducible rfl
      try simp only [List.setIfInBounds_toArray, List.set_cons_zero, List.set_cons_succ]
      refine takeH (i := 13) (v := ?_) rfl rfl (by kernel_rfl) (by kernel_rfl) (by kernel_rfl) (fun _ _ _ h => h) (by rfl) ?_ (by assumption) ?_
      rotate_left 1
      · intro w hSw
        (try dsimp only at hSw)
        go_simp
        try with_reducible rfl
      try simp only [List.setIfInBounds_toArray, List.set_cons_zero, List.set_cons_succ]
      refine takeH (i := 14) (v := ?_) rfl rfl (by kernel_rfl) (by kernel_rfl) (by kernel_rfl) (fun _ _ _ h => h) (by rfl) ?_ (by assumption) ?_
      rotate_left 1
      · intro w hSw
        (try dsimp only at hSw)
        go_simp
        try with_reducible rfl
      try simp only [List.setIfInBounds_toArray, List.set_cons_zero, List.set_cons_succ]
      refine takeH (i := 15) (v := ?_) rfl rfl (by kernel_rfl) (by kernel_rfl) (by kernel_rfl) (fun _ _ _ h => h) (by rfl) ?_ (by assumption) ?_
      rotate_left 1
      · intro w hSw
        (try dsimp only at hSw)
        go_simp
        try with_reducible rfl
      try simp only [List.setIfInBounds_toArray, List.set_cons_zero, List.set_cons_succ]
      refine takeH (i := 17) (v := ?_) rfl rfl (by kernel_rfl) (by kernel_rfl) (by kernel_rfl) (fun _ _ _ h => h) (by rfl) ?_ (by assumption) ?_
      rotate_left 1
      · intro w hSw
        (try dsimp only at hSw)
        go_simp
        try with_reducible rfl
      try simp only [List.setIfInBounds_toArray, List.set_cons_zero, List.set_cons_succ]
      refine takeH (i := 19) (v := ?_) rfl rfl (by kernel_rfl) (by kernel_rfl) (by kernel_rfl) (fun _ _ _ h => h) (by rfl) ?_ (by assumption) ?_
      rotate_left 1
      · intro w hSw
        (try dsimp only at hSw)
        go_simp
        try with_reducible rfl
      try simp only [List.setIfInBounds_toArray, List.set_cons_zero, List.set_cons_succ]
      refine takeH (i := 20) (v := ?_) rfl rfl (by kernel_rfl) (by kernel_rfl) (by kernel_rfl) (fun _ _ _ h => h) (by rfl) ?_ (by assumption) ?_
      rotate_left 1
      · intro w hSw
        (try dsimp only at hSw)
        go_simp
        try with_reducible rfl
      try simp only [List.setIfInBounds_toArray, List.set_cons_zero, List.set_cons_succ]
      refine wpAnyH_ready (rs := [16]) (by kernel_rfl) (by simp) ?_
      refine AllReadyH.cons rfl (fun K hK => ?_) (AllReadyH.nil)
      go_simp
      refine (irtt_is fV bV amp cmp (PV) lV amm cmm (MV) HU.out _ p ⟨⟨(OwnI.intA hHeld.2.out.2.2.2.2.2.1).2.2, (OwnI.intA hHeld.2.out.2.2.2.2.2.2.1).2.2⟩, (OwnI.intA hHeld.2.out.2.2.2.2.2.1).2.1, (OwnI.intA hHeld.2.out.2.2.2.2.2.2.1).2.1, by omega, by omega⟩ (HE.out.below hHeld.2.out.1) (HT.out.on hHeld.2.out.1 (Nat.le_refl _))).mono ?_
      rintro en wy ⟨rfl, b⟩
      go_wp2_with fail
      refine hK.out _ _ ?_ (fun hNew => ?_)
      · exact ⟨⟨⟨cell_later b hHeld.1.1.1, cell_later b hHeld.1.1.2.1, cell_later b hHeld.1.1.2.2.1, cell_later b hHeld.1.1.2.2.2.1, cell_later b hHeld.1.1.2.2.2.2⟩, ⟨cell_later b hHeld.1.2.1, cell_later b hHeld.1.2.2.1, cell_later b hHeld.1.2.2.2.1, cell_later b hHeld.1.2.2.2.2.1, cell_later b hHeld.1.2.2.2.2.2⟩⟩, Lib.hid ⟨next hHeld.2.out.1 b, owni_later hHeld.2.out.2.1 b, owni_later hHeld.2.out.2.2.1 b, owni_later hHeld.2.out.2.2.2.1 b, owni_later hHeld.2.out.2.2.2.2.1 b, owni_later hHeld.2.out.2.2.2.2.2.1 b, owni_later hHeld.2.out.2.2.2.2.2.2.1 b, hHeld.2.out.2.2.2.2.2.2.2.1.below b, hHeld.2.out.2.2.2.2.2.2.2.2.1.below b, hHeld.2.out.2.2.2.2.2.2.2.2.2.below b⟩⟩
      clear hK K hHeld
      have hHeld := hNew
      clear hNew
      try simp only [Act.put, List.setIfInBounds_toArray, List.set_cons_zero, List.set_cons_succ]
      refine takeH (i := 18) (v := ?_) rfl rfl (by kernel_rfl) (by kernel_rfl) (by kernel_rfl) (fun _ _ _ h => h) (by rfl) ?_ (by assumption) ?_
      rotate_left 1
      · intro w hSw
        (try dsimp only at hSw)
        go_simp
        try with_reducible rfl
      try simp only [List.setIfInBounds_toArray, List.set_cons_zero, List.set_cons_succ]
      refine wpAnyH_ready (rs := [21]) (by kernel_rfl) (by simp) ?_
      refine AllReadyH.cons rfl (fun K hK => ?_) (AllReadyH.nil)
      go_simp
      refine (lyrt_is fV bV amp cmp (PV) lV amm cmm (MV) fr br arp crp (Pr) lr arm crm (Mr) HY.out _ ⟨⟨(OwnI.intA hHeld.2.out.2.2.2.2.2.1).2.2, (OwnI.intA hHeld.2.out.2.2.2.2.2.2.1).2.2⟩, (OwnI.intA hHeld.2.out.2.2.2.2.2.1).2.1, (OwnI.intA hHeld.2.out.2.2.2.2.2.2.1).2.1, by omega, by omega⟩ ⟨⟨(OwnI.intA hHeld.2.out.2.1).2.2, (OwnI.intA hHeld.2.out.2.2.1).2.2⟩, (OwnI.intA hHeld.2.out.2.1).2.1, (OwnI.intA hHeld.2.out.2.2.1).2.1, by omega, by omega⟩).mono ?_
      rintro en wz ⟨rfl, b⟩
      go_wp2_with fail
      refine hK.out _ _ ?_ (fun hNew => ?_)
      · exact ⟨⟨⟨cell_later b hHeld.1.1.1, cell_later b hHeld.1.1.2.1, cell_later b hHeld.1.1.2.2.1, cell_later b hHeld.1.1.2.2.2.1, cell_later b hHeld.1.1.2.2.2.2⟩, ⟨cell_later b hHeld.1.2.1, cell_later b hHeld.1.2.2.1, cell_later b hHeld.1.2.2.2.1, cell_later b hHeld.1.2.2.2.2.1, cell_later b hHeld.1.2.2.2.2.2⟩⟩, Lib.hid ⟨next hHeld.2.out.1 b, owni_later hHeld.2.out.2.1 b, owni_later hHeld.2.out.2.2.1 b, owni_later hHeld.2.out.2.2.2.1 b, owni_later hHeld.2.out.2.2.2.2.1 b, owni_later hHeld.2.out.2.2.2.2.2.1 b, owni_later hHeld.2.out.2.2.2.2.2.2.1 b, hHeld.2.out.2.2.2.2.2.2.2.1.below b, hHeld.2.out.2.2.2.2.2.2.2.2.1.below b, hHeld.2.out.2.2.2.2.2.2.2.2.2.below b⟩⟩
      clear hK K hHeld
      have hHeld := hNew
      clear hNew
      try simp only [Act.put, List.setIfInBounds_toArray, List.set_cons_zero, List.set_cons_succ]
      refine takeH (i := 22) (v := ?_) rfl rfl (by kernel_rfl) (by kernel_rfl) (by kernel_rfl) (fun _ _ _ h => h) (by rfl) ?_ (by assumption) ?_
      rotate_left 1
      · intro w hSw
        (try dsimp only at hSw)
        go_simp
        try with_reducible rfl
      try simp only [List.setIfInBounds_toArray, List.set_cons_zero, List.set_cons_succ]
      refine takeH (i := 23) (v := ?_) rfl rfl (by kernel_rfl) (by kernel_rfl) (by kernel_rfl) (fun _ _ _ h => h) (by rfl) ?_ (by assumption) ?_
      rotate_left 1
      · intro w hSw
        (try dsimp only at hSw)
        go_simp
        try with_reducible rfl
      try simp only [List.setIfInBounds_toArray, List.set_cons_zero, List.set_cons_succ]
      refine takeH (i := 24) (v := ?_) rfl rfl (by kernel_rfl) (by kernel_rfl) (by kernel_rfl) (fun _ _ _ h => h) (by rfl) ?_ (by assumption) ?_
      rotate_left 1
      · intro w hSw
        (try dsimp only at hSw)
        go_simp
        try with_reducible rfl
      try simp only [List.setIfInBounds_toArray, List.set_cons_zero, List.set_cons_succ]
      refine wpAnyH_done (by kernel_rfl) ?_ _
      have HZ := Lib.hid hHeld.2.out
      have HB10 := Lib.hid HZ.out.1
      have Orp_10 := Lib.hid HZ.out.2.1
      have Orm_10 := Lib.hid HZ.out.2.2.1
      have Oqp_10 := Lib.hid HZ.out.2.2.2.1
      have Oqm_10 := Lib.hid HZ.out.2.2.2.2.1
      have Omp_10 := Lib.hid HZ.out.2.2.2.2.2.1
      have Omm_10 := Lib.hid HZ.out.2.2.2.2.2.2.1
      have Xr_10 := Lib.hid HZ.out.2.2.2.2.2.2.2.1
      have Xq_10 := Lib.hid HZ.out.2.2.2.2.2.2.2.2.1
      have Xm_10 := Lib.hid HZ.out.2.2.2.2.2.2.2.2.2
      clear hHeld HZ
      generalize wz = w10 at *
      obtain ⟨⟨qr0, qr1, qr2, qr3, qr4⟩, _⟩ := Xr_10.out
      obtain ⟨⟨qq0, qq1, qq2, qq3, qq4⟩, _⟩ := Xq_10.out
      obtain ⟨⟨qm0, qm1, qm2, qm3, qm4⟩, _⟩ := Xm_10.out
      go_wp2_with fail
      clear qr0 qr1 qr2 qr3 qr4
      clear qq0 qq1 qq2 qq3 qq4
      clear qm0 qm1 qm2 qm3 qm4
      go_ret
      exact ⟨rfl, HB10.out⟩
    | true =>
      have ht0 : (t.toList == ([] : List UInt8)) = false := by rw [← HQ.out]; exact rtt_some hoq
      obtain ⟨x, hx⟩ : ∃ x, decide (((fr, br, Pr, lr, Mr) : Rt) = (fq, bq, Pq, lq, Mq)) = x := ⟨_, rfl⟩
      have hst : (s.toList == t.toList) = x := by rw [← HS.out, ← HQ.out]; exact rtt_eq HO.out hoq hx
      have hxx : (x == x) = true := by simp
      have HX := Lib.hid hx
      clear hx hoq
      refine wp_region_held_drew (S := fun W => ((W.cell? ⟨w1.heap.size, 0, none⟩ = some (.int .i64 fr) ∧ W.cell? ⟨w1.heap.size, 1, none⟩ = some (.int .i64 br) ∧ W.cell? ⟨w1.heap.size, 2, none⟩ = some (.slice arp (Pr).length crp) ∧ W.cell? ⟨w1.heap.size, 3, none⟩ = some (.int .i64 lr) ∧ W.cell? ⟨w1.heap.size, 4, none⟩ = some (.slice arm (Mr).length crm)) ∧ (W.cell? ⟨w5.heap.size, 0, none⟩ = some (.int .i64 fq) ∧ W.cell? ⟨w5.heap.size, 1, none⟩ = some (.int .i64 bq) ∧ W.cell? ⟨w5.heap.size, 2, none⟩ = some (.slice aqp (Pq).length cqp) ∧ W.cell? ⟨w5.heap.size, 3, none⟩ = some (.int .i64 lq) ∧ W.cell? ⟨w5.heap.size, 4, none⟩ = some (.slice aqm (Mq).length cqm)) ∧ (W.cell? ⟨w8.heap.size, 0, none⟩ = some (.int .i64 fV) ∧ W.cell? ⟨w8.heap.size, 1, none⟩ = some (.int .i64 bV) ∧ W.cell? ⟨w8.heap.size, 2, none⟩ = some (.slice amp (PV).length cmp) ∧ W.cell? ⟨w8.heap.size, 3, none⟩ = some (.int .i64 lV) ∧ W.cell? ⟨w8.heap.size, 4, none⟩ = some (.slice amm (MV).length cmm))) ∧ Hid (Below w.heap.size w W ∧ OwnI W w.heap.size (.slice arp (Pr).length crp) (Pr) ∧ OwnI W w.heap.size (.slice arm (Mr).length crm) (Mr) ∧ OwnI W w.heap.size (.slice aqp (Pq).length cqp) (Pq) ∧ OwnI W w.heap.size (.slice aqm (Mq).length cqm) (Mq) ∧ OwnI W w.heap.size (.slice amp (PV).length cmp) (PV) ∧ OwnI W w.heap.size (.slice amm (MV).length cmm) (MV) ∧ At5 W (w1.heap.size) (.int .i64 fr) (.int .i64 br) (.slice arp (Pr).length crp) (.int .i64 lr) (.slice arm (Mr).length crm) ∧ At5 W (w5.heap.size) (.int .i64 fq) (.int .i64 bq) (.slice aqp (Pq).length cqp) (.int .i64 lq) (.slice aqm (Mq).length cqm) ∧ At5 W (w8.heap.size) (.int .i64 fV) (.int .i64 bV) (.slice amp (PV).length cmp) (.int .i64 lV) (.slice amm (MV).length cmm))) (by kernel_rfl) ?_ (fun hHeld => ?_)
      · exact ⟨⟨Xr_9.out.1, Xq_9.out.1, Xm_9.out.1⟩, Lib.hid ⟨HB9.out.drew, Orp_9.out.drew, Orm_9.out.drew, Oqp_9.out.drew, Oqm_9.out.drew, Omp_9.out.drew, Omm_9.out.drew, Xr_9.out.drew, Xq_9.out.drew, Xm_9.out.drew⟩⟩
      refine takeH (i := 0) (v := ?_) rfl rfl (by kernel_rfl) (by kernel_rfl) (by kernel_rfl) (fun _ _ _ h => h) (by rfl) ?_ (by assumption) ?_
      rotate_left 1
      · intro w hSw
        (try dsimp only at hSw)
        go_simp
        try with_reducible rfl
      try simp only [List.setIfInBounds_toArray, List.set_cons_zero, List.set_cons_succ]
      refine takeH (i := 1) (v := ?_) rfl rfl (by kernel_rfl) (by kernel_rfl) (by kernel_rfl) (fun _ _ _ h => h) (by rfl) ?_ (by assumption) ?_
      rotate_left 1
      · intro w hSw
        (try dsimp only at hSw)
        go_simp
        try with_reducible rfl
      try simp only [List.setIfInBounds_toArray, List.set_cons_zero, List.set_cons_succ]
      refine takeH (i := 2) (v := ?_) rfl rfl (by kernel_rfl) (by kernel_rfl) (by kernel_rfl) (fun _ _ _ h => h) (by rfl) ?_ (by assumption) ?_
      rotate_left 1
      · intro w hSw
        (try dsimp only at hSw)
        go_simp
        try with_reducible rfl
      try simp only [List.setIfInBounds_toArray, List.set_cons_zero, List.set_cons_succ]
      refine takeH (i := 3) (v := ?_) rfl rfl (by kernel_rfl) (by kernel_rfl) (by kernel_rfl) (fun _ _ _ h => h) (by rfl) ?_ (by assumption) ?_
      rotate_left 1
      · intro w hSw
        (try dsimp only at hSw)
        go_simp
        try with_reducible rfl
      try simp only [List.setIfInBounds_toArray, List.set_cons_zero, List.set_cons_succ]
      refine takeH (i := 4) (v := ?_) rfl rfl (by kernel_rfl) (by kernel_rfl) (by kernel_rfl) (fun _ _ _ h => h) (by rfl) ?_ (by assumption) ?_
      rotate_left 1
      · intro w hSw
        (try dsimp only at hSw)
        go_simp
        try with_reducible rfl
      try simp only [List.setIfInBounds_toArray, List.set_cons_zero, List.set_cons_succ]
      refine takeH (i := 5) (v := ?_) rfl rfl (by kernel_rfl) (by kernel_rfl) (by kernel_rfl) (fun _ _ _ h => h) (by rfl) ?_ (by assumption) ?_
      rotate_left 1
      · intro w hSw
        (try dsimp only at hSw)
        go_simp
        try with_reducible rfl
      try simp only [List.setIfInBounds_toArray, List.set_cons_zero, List.set_cons_succ]
      refine takeH (i := 6) (v := ?_) rfl rfl (by kernel_rfl) (by kernel_rfl) (by kernel_rfl) (fun _ _ _ h => h) (by rfl) ?_ (by assumption) ?_
      rotate_left 1
      · intro w hSw
        (try dsimp only at hSw)
        go_simp
        try with_reducible rfl
      try simp only [List.setIfInBounds_toArray, List.set_cons_zero, List.set_cons_succ]
      refine takeH (i := 7) (v := ?_) rfl rfl (by kernel_rfl) (by kernel_rfl) (by kernel_rfl) (fun _ _ _ h => h) (by rfl) ?_ (by assumption) ?_
      rotate_left 1
      · intro w hSw
        (try dsimp only at hSw)
        go_simp
        try with_reducible rfl
      try simp only [List.setIfInBounds_toArray, List.set_cons_zero, List.set_cons_succ]
      refine wpAnyH_ready (rs := [8]) (by kernel_rfl) (by simp) ?_
      refine AllReadyH.cons rfl (fun K hK => ?_) (AllReadyH.nil)
      go_simp
      refine (lyrt_is fr br arp crp (Pr) lr arm crm (Mr) fq bq aqp cqp (Pq) lq aqm cqm (Mq) HX.out _ ⟨⟨(OwnI.intA hHeld.2.out.2.1).2.2, (OwnI.intA hHeld.2.out.2.2.1).2.2⟩, (OwnI.intA hHeld.2.out.2.1).2.1, (OwnI.intA hHeld.2.out.2.2.1).2.1, by omega, by omega⟩ ⟨⟨(OwnI.intA hHeld.2.out.2.2.2.1).2.2, (OwnI.intA hHeld.2.out.2.2.2.2.1).2.2⟩, (OwnI.intA hHeld.2.out.2.2.2.1).2.1, (OwnI.intA hHeld.2.out.2.2.2.2.1).2.1, by omega, by omega⟩).mono ?_
      rintro en wx ⟨rfl, b⟩
      go_wp2_with fail
      refine hK.out _ _ ?_ (fun hNew => ?_)
      · exact ⟨⟨⟨cell_later b hHeld.1.1.1, cell_later b hHeld.1.1.2.1, cell_later b hHeld.1.1.2.2.1, cell_later b hHeld.1.1.2.2.2.1, cell_later b hHeld.1.1.2.2.2.2⟩, ⟨cell_later b hHeld.1.2.1.1, cell_later b hHeld.1.2.1.2.1, cell_later b hHeld.1.2.1.2.2.1, cell_later b hHeld.1.2.1.2.2.2.1, cell_later b hHeld.1.2.1.2.2.2.2⟩, ⟨cell_later b hHeld.1.2.2.1, cell_later b hHeld.1.2.2.2.1, cell_later b hHeld.1.2.2.2.2.1, cell_later b hHeld.1.2.2.2.2.2.1, cell_later b hHeld.1.2.2.2.2.2.2⟩⟩, Lib.hid ⟨next hHeld.2.out.1 b, owni_later hHeld.2.out.2.1 b, owni_later hHeld.2.out.2.2.1 b, owni_later hHeld.2.out.2.2.2.1 b, owni_later hHeld.2.out.2.2.2.2.1 b, owni_later hHeld.2.out.2.2.2.2.2.1 b, owni_later hHeld.2.out.2.2.2.2.2.2.1 b, hHeld.2.out.2.2.2.2.2.2.2.1.below b, hHeld.2.out.2.2.2.2.2.2.2.2.1.below b, hHeld.2.out.2.2.2.2.2.2.2.2.2.below b⟩⟩
      clear hK K hHeld
      have hHeld := hNew
      clear hNew
      try simp only [Act.put, List.setIfInBounds_toArray, List.set_cons_zero, List.set_cons_succ]
      refine takeH (i := 9) (v := ?_) rfl rfl (by kernel_rfl) (by kernel_rfl) (by kernel_rfl) (fun _ _ _ h => h) (by rfl) ?_ (by assumption) ?_
      rotate_left 1
      · intro w hSw
        (try dsimp only at hSw)
        go_simp
        try with_reducible rfl
      try simp only [List.setIfInBounds_toArray, List.set_cons_zero, List.set_cons_succ]
      refine takeH (i := 10) (v := ?_) rfl rfl (by kernel_rfl) (by kernel_rfl) (by kernel_rfl) (fun _ _ _ h => h) (by rfl) ?_ (by assumption) ?_
      rotate_left 1
      · intro w hSw
        (try dsimp only at hSw)
        go_simp
        try with_reducible rfl
      try simp only [List.setIfInBounds_toArray, List.set_cons_zero, List.set_cons_succ]
      refine takeH (i := 11) (v := ?_) rfl rfl (by kernel_rfl) (by kernel_rfl) (by kernel_rfl) (fun _ _ _ h => h) (by rfl) ?_ (by assumption) ?_
      rotate_left 1
      · intro w hSw
        (try dsimp only at hSw)
        go_simp
        try with_reducible rfl
      try simp only [List.setIfInBounds_toArray, List.set_cons_zero, List.set_cons_succ]
      refine takeH (i := 12) (v := ?_) rfl rfl (by kernel_rfl) (by kernel_rfl) (by kernel_rfl) (fun _ _ _ h => h) (by rfl) ?_ (by assumption) ?_
      rotate_left 1
      · intro w hSw
        (try dsimp only at hSw)
        go_simp
        try with_reducible rfl
      try simp only [List.setIfInBounds_toArray, List.set_cons_zero, List.set_cons_succ]
      refine takeH (i := 13) (v := ?_) rfl rfl (by kernel_rfl) (by kernel_rfl) (by kernel_rfl) (fun _ _ _ h => h) (by rfl) ?_ (by assumption) ?_
      rotate_left 1
      · intro w hSw
        (try dsimp only at hSw)
        go_simp
        try with_reducible rfl
      try simp only [List.setIfInBounds_toArray, List.set_cons_zero, List.set_cons_succ]
      refine takeH (i := 14) (v := ?_) rfl rfl (by kernel_rfl) (by kernel_rfl) (by kernel_rfl) (fun _ _ _ h => h) (by rfl) ?_ (by assumption) ?_
      rotate_left 1
      · intro w hSw
        (try dsimp only at hSw)
        go_simp
        try with_reducible rfl
      try simp only [List.setIfInBounds_toArray, List.set_cons_zero, List.set_cons_succ]
      refine takeH (i := 15) (v := ?_) rfl rfl (by kernel_rfl) (by kernel_rfl) (by kernel_rfl) (fun _ _ _ h => h) (by rfl) ?_ (by assumption) ?_
      rotate_left 1
      · intro w hSw
        (try dsimp only at hSw)
        go_simp
        try with_reducible rfl
      try simp only [List.setIfInBounds_toArray, List.set_cons_zero, List.set_cons_succ]
      refine takeH (i := 17) (v := ?_) rfl rfl (by kernel_rfl) (by kernel_rfl) (by kernel_rfl) (fun _ _ _ h => h) (by rfl) ?_ (by assumption) ?_
      rotate_left 1
      · intro w hSw
        (try dsimp only at hSw)
        go_simp
        try with_reducible rfl
      try simp only [List.setIfInBounds_toArray, List.set_cons_zero, List.set_cons_succ]
      refine takeH (i := 19) (v := ?_) rfl rfl (by kernel_rfl) (by kernel_rfl) (by kernel_rfl) (fun _ _ _ h => h) (by rfl) ?_ (by assumption) ?_
      rotate_left 1
      · intro w hSw
        (try dsimp only at hSw)
        go_simp
        try with_reducible rfl
      try simp only [List.setIfInBounds_toArray, List.set_cons_zero, List.set_cons_succ]
      refine takeH (i := 20) (v := ?_) rfl rfl (by kernel_rfl) (by kernel_rfl) (by kernel_rfl) (fun _ _ _ h => h) (by rfl) ?_ (by assumption) ?_
      rotate_left 1
      · intro w hSw
        (try dsimp only at hSw)
        go_simp
        try with_reducible rfl
      try simp only [List.setIfInBounds_toArray, List.set_cons_zero, List.set_cons_succ]
      refine wpAnyH_ready (rs := [16]) (by kernel_rfl) (by simp) ?_
      refine AllReadyH.cons rfl (fun K hK => ?_) (AllReadyH.nil)
      go_simp
      refine (irtt_is fV bV amp cmp (PV) lV amm cmm (MV) HU.out _ p ⟨⟨(OwnI.intA hHeld.2.out.2.2.2.2.2.1).2.2, (OwnI.intA hHeld.2.out.2.2.2.2.2.2.1).2.2⟩, (OwnI.intA hHeld.2.out.2.2.2.2.2.1).2.1, (OwnI.intA hHeld.2.out.2.2.2.2.2.2.1).2.1, by omega, by omega⟩ (HE.out.below hHeld.2.out.1) (HT.out.on hHeld.2.out.1 (Nat.le_refl _))).mono ?_
      rintro en wy ⟨rfl, b⟩
      go_wp2_with fail
      refine hK.out _ _ ?_ (fun hNew => ?_)
      · exact ⟨⟨⟨cell_later b hHeld.1.1.1, cell_later b hHeld.1.1.2.1, cell_later b hHeld.1.1.2.2.1, cell_later b hHeld.1.1.2.2.2.1, cell_later b hHeld.1.1.2.2.2.2⟩, ⟨cell_later b hHeld.1.2.1.1, cell_later b hHeld.1.2.1.2.1, cell_later b hHeld.1.2.1.2.2.1, cell_later b hHeld.1.2.1.2.2.2.1, cell_later b hHeld.1.2.1.2.2.2.2⟩, ⟨cell_later b hHeld.1.2.2.1, cell_later b hHeld.1.2.2.2.1, cell_later b hHeld.1.2.2.2.2.1, cell_later b hHeld.1.2.2.2.2.2.1, cell_later b hHeld.1.2.2.2.2.2.2⟩⟩, Lib.hid ⟨next hHeld.2.out.1 b, owni_later hHeld.2.out.2.1 b, owni_later hHeld.2.out.2.2.1 b, owni_later hHeld.2.out.2.2.2.1 b, owni_later hHeld.2.out.2.2.2.2.1 b, owni_later hHeld.2.out.2.2.2.2.2.1 b, owni_later hHeld.2.out.2.2.2.2.2.2.1 b, hHeld.2.out.2.2.2.2.2.2.2.1.below b, hHeld.2.out.2.2.2.2.2.2.2.2.1.below b, hHeld.2.out.2.2.2.2.2.2.2.2.2.below b⟩⟩
      clear hK K hHeld
      have hHeld := hNew
      clear hNew
      try simp only [Act.put, List.setIfInBounds_toArray, List.set_cons_zero, List.set_cons_succ]
      refine takeH (i := 18) (v := ?_) rfl rfl (by kernel_rfl) (by kernel_rfl) (by kernel_rfl) (fun _ _ _ h => h) (by rfl) ?_ (by assumption) ?_
      rotate_left 1
      · intro w hSw
        (try dsimp only at hSw)
        go_simp
        try with_reducible rfl
      try simp only [List.setIfInBounds_toArray, List.set_cons_zero, List.set_cons_succ]
      refine wpAnyH_ready (rs := [21]) (by kernel_rfl) (by simp) ?_
      refine AllReadyH.cons rfl (fun K hK => ?_) (AllReadyH.nil)
      go_simp
      refine (lyrt_is fV bV amp cmp (PV) lV amm cmm (MV) fr br arp crp (Pr) lr arm crm (Mr) HY.out _ ⟨⟨(OwnI.intA hHeld.2.out.2.2.2.2.2.1).2.2, (OwnI.intA hHeld.2.out.2.2.2.2.2.2.1).2.2⟩, (OwnI.intA hHeld.2.out.2.2.2.2.2.1).2.1, (OwnI.intA hHeld.2.out.2.2.2.2.2.2.1).2.1, by omega, by omega⟩ ⟨⟨(OwnI.intA hHeld.2.out.2.1).2.2, (OwnI.intA hHeld.2.out.2.2.1).2.2⟩, (OwnI.intA hHeld.2.out.2.1).2.1, (OwnI.intA hHeld.2.out.2.2.1).2.1, by omega, by omega⟩).mono ?_
      rintro en wz ⟨rfl, b⟩
      go_wp2_with fail
      refine hK.out _ _ ?_ (fun hNew => ?_)
      · exact ⟨⟨⟨cell_later b hHeld.1.1.1, cell_later b hHeld.1.1.2.1, cell_later b hHeld.1.1.2.2.1, cell_later b hHeld.1.1.2.2.2.1, cell_later b hHeld.1.1.2.2.2.2⟩, ⟨cell_later b hHeld.1.2.1.1, cell_later b hHeld.1.2.1.2.1, cell_later b hHeld.1.2.1.2.2.1, cell_later b hHeld.1.2.1.2.2.2.1, cell_later b hHeld.1.2.1.2.2.2.2⟩, ⟨cell_later b hHeld.1.2.2.1, cell_later b hHeld.1.2.2.2.1, cell_later b hHeld.1.2.2.2.2.1, cell_later b hHeld.1.2.2.2.2.2.1, cell_later b hHeld.1.2.2.2.2.2.2⟩⟩, Lib.hid ⟨next hHeld.2.out.1 b, owni_later hHeld.2.out.2.1 b, owni_later hHeld.2.out.2.2.1 b, owni_later hHeld.2.out.2.2.2.1 b, owni_later hHeld.2.out.2.2.2.2.1 b, owni_later hHeld.2.out.2.2.2.2.2.1 b, owni_later hHeld.2.out.2.2.2.2.2.2.1 b, hHeld.2.out.2.2.2.2.2.2.2.1.below b, hHeld.2.out.2.2.2.2.2.2.2.2.1.below b, hHeld.2.out.2.2.2.2.2.2.2.2.2.below b⟩⟩
      clear hK K hHeld
      have hHeld := hNew
      clear hNew
      try simp only [Act.put, List.setIfInBounds_toArray, List.set_cons_zero, List.set_cons_succ]
      refine takeH (i := 22) (v := ?_) rfl rfl (by kernel_rfl) (by kernel_rfl) (by kernel_rfl) (fun _ _ _ h => h) (by rfl) ?_ (by assumption) ?_
      rotate_left 1
      · intro w hSw
        (try dsimp only at hSw)
        go_simp
        try with_reducible rfl
      try simp only [List.setIfInBounds_toArray, List.set_cons_zero, List.set_cons_succ]
      refine takeH (i := 23) (v := ?_) rfl rfl (by kernel_rfl) (by kernel_rfl) (by kernel_rfl) (fun _ _ _ h => h) (by rfl) ?_ (by assumption) ?_
      rotate_left 1
      · intro w hSw
        (try dsimp only at hSw)
        go_simp
        try with_reducible rfl
      try simp only [List.setIfInBounds_toArray, List.set_cons_zero, List.set_cons_succ]
      refine takeH (i := 24) (v := ?_) rfl rfl (by kernel_rfl) (by kernel_rfl) (by kernel_rfl) (fun _ _ _ h => h) (by rfl) ?_ (by assumption) ?_
      rotate_left 1
      · intro w hSw
        (try dsimp only at hSw)
        go_simp
        try with_reducible rfl
      try simp only [List.setIfInBounds_toArray, List.set_cons_zero, List.set_cons_succ]
      refine wpAnyH_done (by kernel_rfl) ?_ _
      have HZ := Lib.hid hHeld.2.out
      have HB10 := Lib.hid HZ.out.1
      have Orp_10 := Lib.hid HZ.out.2.1
      have Orm_10 := Lib.hid HZ.out.2.2.1
      have Oqp_10 := Lib.hid HZ.out.2.2.2.1
      have Oqm_10 := Lib.hid HZ.out.2.2.2.2.1
      have Omp_10 := Lib.hid HZ.out.2.2.2.2.2.1
      have Omm_10 := Lib.hid HZ.out.2.2.2.2.2.2.1
      have Xr_10 := Lib.hid HZ.out.2.2.2.2.2.2.2.1
      have Xq_10 := Lib.hid HZ.out.2.2.2.2.2.2.2.2.1
      have Xm_10 := Lib.hid HZ.out.2.2.2.2.2.2.2.2.2
      clear hHeld HZ
      generalize wz = w10 at *
      obtain ⟨⟨qr0, qr1, qr2, qr3, qr4⟩, _⟩ := Xr_10.out
      obtain ⟨⟨qq0, qq1, qq2, qq3, qq4⟩, _⟩ := Xq_10.out
      obtain ⟨⟨qm0, qm1, qm2, qm3, qm4⟩, _⟩ := Xm_10.out
      go_wp2_with fail
      clear qr0 qr1 qr2 qr3 qr4
      clear qq0 qq1 qq2 qq3 qq4
      clear qm0 qm1 qm2 qm3 qm4
      go_ret
      exact ⟨rfl, HB10.out⟩

end Go.Proofs.YtfjfcdifnfffbaaDoor
