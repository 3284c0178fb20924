/-
  The law that a route fits a clause by what it says: the walk.
-/
import Derived.Test.YthkaaamgkmmeeaaDoorClLl
namespace Go.Proofs.YthkaaamgkmmeeaaDoor
open Go.RowKit
set_option linter.unusedSimpArgs false
set_option linter.unusedVariables false

set_option maxRecDepth 100000 in
set_option maxHeartbeats 4000000 in
theorem lawClauseFits (a0 : Option Addr) (len0 cap0 : Nat) (zs0 : List Int) (w : World) (h0 : IsRow w a0 len0 cap0 zs0) (p : Addr) (hE : EV w p) (_ : True) :
    Calls Tryd.prog 3 #[.slice a0 len0 cap0] w fun e w' => e = .returned (.bool true) ∧ Below w.heap.size w w' := by
  have H0 := Lib.hid h0
  have HE := Lib.hid hE
  clear h0 hE
  by_cases hl0 : (1048576 : Int) < (len0 : Int)
  · go_enter Tryd.func3, Tryd.ntmps3
    go_wp2_with fail
    go_ret
    exact ⟨rfl, Below.refl _ _⟩
  have HB0 := Lib.hid (Below.refl w.heap.size w)
  go_enter Tryd.func3, Tryd.ntmps3
  go_wp2_with fail
  refine (dClauseFits_any a0 len0 cap0 zs0 _ (isrow_later H0.out HB0.out)).mono ?_
  rintro en w1 ⟨u, fr, br, lr, Pr, Mr, pv, mv, rfl, ⟨hlPr, hlMr⟩, ⟨o, o2⟩, b⟩
  have HB1 := Lib.hid (HB0.out.trans (b.mono HB0.out.size))
  have hs1 := Lib.hid b.size
  obtain ⟨arp, crp, rfl, _, _⟩ := OwnI.tab o
  obtain ⟨arm, crm, rfl, _, _⟩ := OwnI.tab o2
  have Brp := Lib.hid (OwnI.btw o)
  have Brm := Lib.hid (OwnI.btw o2)
  have Orp_1 := Lib.hid (owni_mono o HB0.out.size)
  have Orm_1 := Lib.hid (owni_mono o2 HB0.out.size)
  clear o o2
  clear b
  have hb := HB1.out.alloc HB1.out.size (.cells #[.int .i64 u.i, .int .i64 u.n, .int .i64 u.f, .int .i64 u.b, .bool u.x, .int .i64 u.l, .int .i64 u.m, .int .i64 u.k] 26)
  have HB2 : Hid (Below w.heap.size w ((w1.alloc (.cells #[.int .i64 u.i, .int .i64 u.n, .int .i64 u.f, .int .i64 u.b, .bool u.x, .int .i64 u.l, .int .i64 u.m, .int .i64 u.k] 26)).alloc (.cells #[.int .i64 fr, .int .i64 br, .slice arp (Pr).length crp, .int .i64 lr, .slice arm (Mr).length crm] 29))) := Lib.hid (hb.alloc hb.size (.cells #[.int .i64 fr, .int .i64 br, .slice arp (Pr).length crp, .int .i64 lr, .slice arm (Mr).length crm] 29))
  have hs2 : Hid (w1.heap.size + 2 = ((w1.alloc (.cells #[.int .i64 u.i, .int .i64 u.n, .int .i64 u.f, .int .i64 u.b, .bool u.x, .int .i64 u.l, .int .i64 u.m, .int .i64 u.k] 26)).alloc (.cells #[.int .i64 fr, .int .i64 br, .slice arp (Pr).length crp, .int .i64 lr, .slice arm (Mr).length crm] 29)).heap.size) := Lib.hid (by simp)
  clear hb
  have Orp_2 := Lib.hid (World.ownsRow.alloc (World.ownsRow.alloc Orp_1.out (.cells #[.int .i64 u.i, .int .i64 u.n, .int .i64 u.f, .int .i64 u.b, .bool u.x, .int .i64 u.l, .int .i64 u.m, .int .i64 u.k] 26)) (.cells #[.int .i64 fr, .int .i64 br, .slice arp (Pr).length crp, .int .i64 lr, .slice arm (Mr).length crm] 29))
  have Orm_2 := Lib.hid (World.ownsRow.alloc (World.ownsRow.alloc Orm_1.out (.cells #[.int .i64 u.i, .int .i64 u.n, .int .i64 u.f, .int .i64 u.b, .bool u.x, .int .i64 u.l, .int .i64 u.m, .int .i64 u.k] 26)) (.cells #[.int .i64 fr, .int .i64 br, .slice arp (Pr).length crp, .int .i64 lr, .slice arm (Mr).length crm] 29))
  have Au_2 : Hid (AtL ((w1.alloc (.cells #[.int .i64 u.i, .int .i64 u.n, .int .i64 u.f, .int .i64 u.b, .bool u.x, .int .i64 u.l, .int .i64 u.m, .int .i64 u.k] 26)).alloc (.cells #[.int .i64 fr, .int .i64 br, .slice arp (Pr).length crp, .int .i64 lr, .slice arm (Mr).length crm] 29)) w1.heap.size 0 u.cells) := Lib.hid ((AtL.new w1 u 26).alloc (.cells #[.int .i64 fr, .int .i64 br, .slice arp (Pr).length crp, .int .i64 lr, .slice arm (Mr).length crm] 29))
  have xr := At5.new (w1.alloc (.cells #[.int .i64 u.i, .int .i64 u.n, .int .i64 u.f, .int .i64 u.b, .bool u.x, .int .i64 u.l, .int .i64 u.m, .int .i64 u.k] 26)) (.int .i64 fr) (.int .i64 br) (.slice arp (Pr).length crp) (.int .i64 lr) (.slice arm (Mr).length crm) 29
  simp only [World.size_alloc] at xr
  have Xr_2 : Hid (At5 ((w1.alloc (.cells #[.int .i64 u.i, .int .i64 u.n, .int .i64 u.f, .int .i64 u.b, .bool u.x, .int .i64 u.l, .int .i64 u.m, .int .i64 u.k] 26)).alloc (.cells #[.int .i64 fr, .int .i64 br, .slice arp (Pr).length crp, .int .i64 lr, .slice arm (Mr).length crm] 29)) (w1.heap.size + 1) (.int .i64 fr) (.int .i64 br) (.slice arp (Pr).length crp) (.int .i64 lr) (.slice arm (Mr).length crm)) := Lib.hid xr
  clear xr
  go_wp2_with fail
  generalize ((w1.alloc (.cells #[.int .i64 u.i, .int .i64 u.n, .int .i64 u.f, .int .i64 u.b, .bool u.x, .int .i64 u.l, .int .i64 u.m, .int .i64 u.k] 26)).alloc (.cells #[.int .i64 fr, .int .i64 br, .slice arp (Pr).length crp, .int .i64 lr, .slice arm (Mr).length crm] 29)) = w2 at *
  obtain ⟨x, hx⟩ : ∃ x, clFits u (fr, br, Pr, lr, Mr) = x := ⟨_, rfl⟩
  have HX := Lib.hid hx
  have huu : (x != x) = false := by simp
  have hue : (x == x) = true := by simp
  clear hx
  refine (iclfits_is u fr br arp crp (Pr) lr arm crm (Mr) HX.out _ p ⟨⟨(OwnI.intA Orp_2.out).2.2, (OwnI.intA Orm_2.out).2.2⟩, (OwnI.intA Orp_2.out).2.1, (OwnI.intA Orm_2.out).2.1, by omega, by omega⟩ (HE.out.below HB2.out)).mono ?_
  rintro en w3 ⟨rfl, b⟩
  have HB3 := Lib.hid (HB2.out.trans (b.mono HB2.out.size))
  have hs3 := Lib.hid b.size
  have Orp_3 := Lib.hid (owni_later Orp_2.out b)
  have Orm_3 := Lib.hid (owni_later Orm_2.out b)
  have Xr_3 := Lib.hid (At5.below Xr_2.out b)
  have Au_3 := Lib.hid (AtL.below Au_2.out b)
  clear b
  obtain ⟨⟨qr0, qr1, qr2, qr3, qr4⟩, _⟩ := Xr_3.out
  obtain ⟨⟨qu0, qu1, qu2, qu3, qu4, qu5, qu6, qu7⟩, _⟩ := Au_3.out.z8
  go_wp2_with fail
  clear qr0 qr1 qr2 qr3 qr4
  clear qu0 qu1 qu2 qu3 qu4 qu5 qu6 qu7
  refine (sclfits_is u fr br arp crp (Pr) lr arm crm (Mr) HX.out _ ⟨⟨(OwnI.intA Orp_3.out).2.2, (OwnI.intA Orm_3.out).2.2⟩, (OwnI.intA Orp_3.out).2.1, (OwnI.intA Orm_3.out).2.1, by omega, by omega⟩).mono ?_
  rintro en w4 ⟨rfl, b⟩
  have HB4 := Lib.hid (HB3.out.trans (b.mono HB3.out.size))
  have hs4 := Lib.hid b.size
  have Orp_4 := Lib.hid (owni_later Orp_3.out b)
  have Orm_4 := Lib.hid (owni_later Orm_3.out b)
  have Xr_4 := Lib.hid (At5.below Xr_3.out b)
  have Au_4 := Lib.hid (AtL.below Au_3.out b)
  clear b
  cases ho : clOk u with
  | false =>
    obtain ⟨⟨qr0, qr1, qr2, qr3, qr4⟩, _⟩ := Xr_4.out
    obtain ⟨⟨qu0, qu1, qu2, qu3, qu4, qu5, qu6, qu7⟩, _⟩ := Au_4.out.z8
    go_wp2_with fail
    clear qr0 qr1 qr2 qr3 qr4
    clear qu0 qu1 qu2 qu3 qu4 qu5 qu6 qu7
    refine (sclok_is u ho _).mono ?_
    rintro en w5 ⟨rfl, b⟩
    have HB5 := Lib.hid (HB4.out.trans (b.mono HB4.out.size))
    have hs5 := Lib.hid b.size
    have Orp_5 := Lib.hid (owni_later Orp_4.out b)
    have Orm_5 := Lib.hid (owni_later Orm_4.out b)
    have Xr_5 := Lib.hid (At5.below Xr_4.out b)
    have Au_5 := Lib.hid (AtL.below Au_4.out b)
    clear b
    obtain ⟨⟨qr0, qr1, qr2, qr3, qr4⟩, _⟩ := Xr_5.out
    obtain ⟨⟨qu0, qu1, qu2, qu3, qu4, qu5, qu6, qu7⟩, _⟩ := Au_5.out.z8
    go_wp2_with fail
    clear qr0 qr1 qr2 qr3 qr4
    clear qu0 qu1 qu2 qu3 qu4 qu5 qu6 qu7
    refine (sclfits_is u fr br arp crp (Pr) lr arm crm (Mr) HX.out _ ⟨⟨(OwnI.intA Orp_5.out).2.2, (OwnI.intA Orm_5.out).2.2⟩, (OwnI.intA Orp_5.out).2.1, (OwnI.intA Orm_5.out).2.1, by omega, by omega⟩).mono ?_
    rintro en w6 ⟨rfl, b⟩
    have HB6 := Lib.hid (HB5.out.trans (b.mono HB5.out.size))
    have hs6 := Lib.hid b.size
    have Orp_6 := Lib.hid (owni_later Orp_5.out b)
    have Orm_6 := Lib.hid (owni_later Orm_5.out b)
    have Xr_6 := Lib.hid (At5.below Xr_5.out b)
    have Au_6 := Lib.hid (AtL.below Au_5.out b)
    clear b
    obtain ⟨⟨qr0, qr1, qr2, qr3, qr4⟩, _⟩ := Xr_6.out
    obtain ⟨⟨qu0, qu1, qu2, qu3, qu4, qu5, qu6, qu7⟩, _⟩ := Au_6.out.z8
    go_wp2_with fail
    clear qr0 qr1 qr2 qr3 qr4
    clear qu0 qu1 qu2 qu3 qu4 qu5 qu6 qu7
    go_ret
    exact ⟨rfl, HB6.out⟩
  | true =>
    obtain ⟨⟨qr0, qr1, qr2, qr3, qr4⟩, _⟩ := Xr_4.out
    obtain ⟨⟨qu0, qu1, qu2, qu3, qu4, qu5, qu6, qu7⟩, _⟩ := Au_4.out.z8
    go_wp2_with fail
    clear qr0 qr1 qr2 qr3 qr4
    clear qu0 qu1 qu2 qu3 qu4 qu5 qu6 qu7
    refine (sclok_is u ho _).mono ?_
    rintro en w5 ⟨rfl, b⟩
    have HB5 := Lib.hid (HB4.out.trans (b.mono HB4.out.size))
    have hs5 := Lib.hid b.size
    have Orp_5 := Lib.hid (owni_later Orp_4.out b)
    have Orm_5 := Lib.hid (owni_later Orm_4.out b)
    have Xr_5 := Lib.hid (At5.below Xr_4.out b)
    have Au_5 := Lib.hid (AtL.below Au_4.out b)
    clear b
    cases hr : rtOk (fr, br, Pr, lr, Mr) with
    | false =>
      obtain ⟨⟨qr0, qr1, qr2, qr3, qr4⟩, _⟩ := Xr_5.out
      obtain ⟨⟨qu0, qu1, qu2, qu3, qu4, qu5, qu6, qu7⟩, _⟩ := Au_5.out.z8
      go_wp2_with fail
      clear qr0 qr1 qr2 qr3 qr4
      clear qu0 qu1 qu2 qu3 qu4 qu5 qu6 qu7
      refine (srok_is fr br arp crp (Pr) lr arm crm (Mr) hr _ ⟨⟨(OwnI.intA Orp_5.out).2.2, (OwnI.intA Orm_5.out).2.2⟩, (OwnI.intA Orp_5.out).2.1, (OwnI.intA Orm_5.out).2.1, by omega, by omega⟩).mono ?_
      rintro en w6 ⟨rfl, b⟩
      have HB6 := Lib.hid (HB5.out.trans (b.mono HB5.out.size))
      have hs6 := Lib.hid b.size
      have Orp_6 := Lib.hid (owni_later Orp_5.out b)
      have Orm_6 := Lib.hid (owni_later Orm_5.out b)
      have Xr_6 := Lib.hid (At5.below Xr_5.out b)
      have Au_6 := Lib.hid (AtL.below Au_5.out b)
      clear b
      obtain ⟨⟨qr0, qr1, qr2, qr3, qr4⟩, _⟩ := Xr_6.out
      obtain ⟨⟨qu0, qu1, qu2, qu3, qu4, qu5, qu6, qu7⟩, _⟩ := Au_6.out.z8
      go_wp2_with fail
      clear qr0 qr1 qr2 qr3 qr4
      clear qu0 qu1 qu2 qu3 qu4 qu5 qu6 qu7
      refine (sclfits_is u fr br arp crp (Pr) lr arm crm (Mr) HX.out _ ⟨⟨(OwnI.intA Orp_6.out).2.2, (OwnI.intA Orm_6.out).2.2⟩, (OwnI.intA Orp_6.out).2.1, (OwnI.intA Orm_6.out).2.1, by omega, by omega⟩).mono ?_
      rintro en w7 ⟨rfl, b⟩
      have HB7 := Lib.hid (HB6.out.trans (b.mono HB6.out.size))
      have hs7 := Lib.hid b.size
      have Orp_7 := Lib.hid (owni_later Orp_6.out b)
      have Orm_7 := Lib.hid (owni_later Orm_6.out b)
      have Xr_7 := Lib.hid (At5.below Xr_6.out b)
      have Au_7 := Lib.hid (AtL.below Au_6.out b)
      clear b
      obtain ⟨⟨qr0, qr1, qr2, qr3, qr4⟩, _⟩ := Xr_7.out
      obtain ⟨⟨qu0, qu1, qu2, qu3, qu4, qu5, qu6, qu7⟩, _⟩ := Au_7.out.z8
      go_wp2_with fail
      clear qr0 qr1 qr2 qr3 qr4
      clear qu0 qu1 qu2 qu3 qu4 qu5 qu6 qu7
      go_ret
      exact ⟨rfl, HB7.out⟩
    | true =>
      obtain ⟨⟨qr0, qr1, qr2, qr3, qr4⟩, _⟩ := Xr_5.out
      obtain ⟨⟨qu0, qu1, qu2, qu3, qu4, qu5, qu6, qu7⟩, _⟩ := Au_5.out.z8
      go_wp2_with fail
      clear qr0 qr1 qr2 qr3 qr4
      clear qu0 qu1 qu2 qu3 qu4 qu5 qu6 qu7
      refine (srok_is fr br arp crp (Pr) lr arm crm (Mr) hr _ ⟨⟨(OwnI.intA Orp_5.out).2.2, (OwnI.intA Orm_5.out).2.2⟩, (OwnI.intA Orp_5.out).2.1, (OwnI.intA Orm_5.out).2.1, by omega, by omega⟩).mono ?_
      rintro en w6 ⟨rfl, b⟩
      have HB6 := Lib.hid (HB5.out.trans (b.mono HB5.out.size))
      have hs6 := Lib.hid b.size
      have Orp_6 := Lib.hid (owni_later Orp_5.out b)
      have Orm_6 := Lib.hid (owni_later Orm_5.out b)
      have Xr_6 := Lib.hid (At5.below Xr_5.out b)
      have Au_6 := Lib.hid (AtL.below Au_5.out b)
      clear b
      have HF := Lib.hid (show fitsC u (fr, br, Pr, lr, Mr) = x by rw [← HX.out, clFits_yes ho hr])
      have HP := Lib.hid ((rtOk_iff _).1 hr).path
      rcases (clOk_good ho).kind with hi | hi | hi | hi | hi
      · have e1 : (u.i == 1) = true := by simp [hi]
        have hx1 : x = true := by rw [← HF.out]; simp [fitsC, hi]
        clear hi
        obtain ⟨⟨qr0, qr1, qr2, qr3, qr4⟩, _⟩ := Xr_6.out
        obtain ⟨⟨qu0, qu1, qu2, qu3, qu4, qu5, qu6, qu7⟩, _⟩ := Au_6.out.z8
        go_wp2_with fail
        clear qr0 qr1 qr2 qr3 qr4
        clear qu0 qu1 qu2 qu3 qu4 qu5 qu6 qu7
        go_ret
        exact ⟨ret_bool (by first | rfl | exact hx1), HB6.out⟩
      · have e1 : (u.i == 1) = false := by simp [hi]
        have e2 : (u.i == 2) = true := by simp [hi]
        have h2 : inB fr br u.f u.b = x := by rw [← HF.out]; simp [fitsC, hi]
        have H2 := Lib.hid h2
        clear hi h2
        obtain ⟨⟨qr0, qr1, qr2, qr3, qr4⟩, _⟩ := Xr_6.out
        obtain ⟨⟨qu0, qu1, qu2, qu3, qu4, qu5, qu6, qu7⟩, _⟩ := Au_6.out.z8
        go_wp2_with fail
        clear qr0 qr1 qr2 qr3 qr4
        clear qu0 qu1 qu2 qu3 qu4 qu5 qu6 qu7
        refine (rin_c H2.out _).mono ?_
        rintro en w7 ⟨rfl, b⟩
        have HB7 := Lib.hid (HB6.out.trans (b.mono HB6.out.size))
        have hs7 := Lib.hid b.size
        have Orp_7 := Lib.hid (owni_later Orp_6.out b)
        have Orm_7 := Lib.hid (owni_later Orm_6.out b)
        have Xr_7 := Lib.hid (At5.below Xr_6.out b)
        have Au_7 := Lib.hid (AtL.below Au_6.out b)
        clear b
        obtain ⟨⟨qr0, qr1, qr2, qr3, qr4⟩, _⟩ := Xr_7.out
        obtain ⟨⟨qu0, qu1, qu2, qu3, qu4, qu5, qu6, qu7⟩, _⟩ := Au_7.out.z8
        go_wp2_with fail
        clear qr0 qr1 qr2 qr3 qr4
        clear qu0 qu1 qu2 qu3 qu4 qu5 qu6 qu7
        go_ret
        exact ⟨rfl, HB7.out⟩
      · have e1 : (u.i == 1) = false := by simp [hi]
        have e2 : (u.i == 2) = false := by simp [hi]
        have e3 : (u.i == 3) = true := by simp [hi]
        have h3 : decide (u.n ∈ Mr) = x := by rw [← HF.out]; simp [fitsC, hi]
        have H3 := Lib.hid h3
        clear hi h3
        obtain ⟨⟨qr0, qr1, qr2, qr3, qr4⟩, _⟩ := Xr_6.out
        obtain ⟨⟨qu0, qu1, qu2, qu3, qu4, qu5, qu6, qu7⟩, _⟩ := Au_6.out.z8
        go_wp2_with fail
        clear qr0 qr1 qr2 qr3 qr4
        clear qu0 qu1 qu2 qu3 qu4 qu5 qu6 qu7
        refine (lyIn_is H3.out arm crm _ _ rfl (OwnI.intA Orm_6.out).2.2 (by omega)).mono ?_
        rintro en w0 ⟨rfl, rfl⟩
        obtain ⟨⟨qr0, qr1, qr2, qr3, qr4⟩, _⟩ := Xr_6.out
        obtain ⟨⟨qu0, qu1, qu2, qu3, qu4, qu5, qu6, qu7⟩, _⟩ := Au_6.out.z8
        go_wp2_with fail
        clear qr0 qr1 qr2 qr3 qr4
        clear qu0 qu1 qu2 qu3 qu4 qu5 qu6 qu7
        go_ret
        exact ⟨rfl, HB6.out⟩
      · have e1 : (u.i == 1) = false := by simp [hi]
        have e2 : (u.i == 2) = false := by simp [hi]
        have e3 : (u.i == 3) = false := by simp [hi]
        have e4 : (u.i == 4) = true := by simp [hi]
        have h4 : pHas Pr u.n = x := by rw [← HF.out, pHas_yes HP.out]; simp [fitsC, hi]
        have H4 := Lib.hid h4
        clear hi h4
        obtain ⟨⟨qr0, qr1, qr2, qr3, qr4⟩, _⟩ := Xr_6.out
        obtain ⟨⟨qu0, qu1, qu2, qu3, qu4, qu5, qu6, qu7⟩, _⟩ := Au_6.out.z8
        go_wp2_with fail
        clear qr0 qr1 qr2 qr3 qr4
        clear qu0 qu1 qu2 qu3 qu4 qu5 qu6 qu7
        refine (pihas_is H4.out arp crp _ _ p rfl (by omega) (OwnI.intA Orp_6.out).2.2 (HE.out.below HB6.out)).mono ?_
        rintro en w7 ⟨rfl, b⟩
        have HB7 := Lib.hid (HB6.out.trans (b.mono HB6.out.size))
        have hs7 := Lib.hid b.size
        have Orp_7 := Lib.hid (owni_later Orp_6.out b)
        have Orm_7 := Lib.hid (owni_later Orm_6.out b)
        have Xr_7 := Lib.hid (At5.below Xr_6.out b)
        have Au_7 := Lib.hid (AtL.below Au_6.out b)
        clear b
        obtain ⟨⟨qr0, qr1, qr2, qr3, qr4⟩, _⟩ := Xr_7.out
        obtain ⟨⟨qu0, qu1, qu2, qu3, qu4, qu5, qu6, qu7⟩, _⟩ := Au_7.out.z8
        go_wp2_with fail
        clear qr0 qr1 qr2 qr3 qr4
        clear qu0 qu1 qu2 qu3 qu4 qu5 qu6 qu7
        go_ret
        exact ⟨rfl, HB7.out⟩
      · have e1 : (u.i == 1) = false := by simp [hi]
        have e2 : (u.i == 2) = false := by simp [hi]
        have e3 : (u.i == 3) = false := by simp [hi]
        have e4 : (u.i == 4) = false := by simp [hi]
        have h5 : decide ((Pr.length : Int) ≤ u.n) = x := by rw [← HF.out]; simp [fitsC, hi]
        clear hi
        obtain ⟨⟨qr0, qr1, qr2, qr3, qr4⟩, _⟩ := Xr_6.out
        obtain ⟨⟨qu0, qu1, qu2, qu3, qu4, qu5, qu6, qu7⟩, _⟩ := Au_6.out.z8
        go_wp2_with fail
        clear qr0 qr1 qr2 qr3 qr4
        clear qu0 qu1 qu2 qu3 qu4 qu5 qu6 qu7
        go_ret
        exact ⟨ret_bool (by first | exact hue | rfl | (rw [h5]; exact hue)), HB6.out⟩

end Go.Proofs.YthkaaamgkmmeeaaDoor
