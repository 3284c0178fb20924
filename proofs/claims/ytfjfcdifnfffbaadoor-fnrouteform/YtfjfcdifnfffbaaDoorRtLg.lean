/-
  The law of what no route is: the walk.
-/
import Derived.Test.YtfjfcdifnfffbaaDoorRtDd
import Derived.Test.YtfjfcdifnfffbaaDoorRtExA
import Derived.Test.YtfjfcdifnfffbaaDoorRtLm
namespace Go.Proofs.YtfjfcdifnfffbaaDoor
open Go.RowKit
set_option linter.unusedSimpArgs false
set_option linter.unusedVariables false

theorem At5.three (w : World) (x0 x1 x2 x3 x4 y0 y1 y2 y3 y4 u0 u1 u2 u3 u4 : Value) (t : TypeId) :
    At5 (((w.alloc (.cells #[x0, x1, x2, x3, x4] t)).alloc (.cells #[y0, y1, y2, y3, y4] t)).alloc (.cells #[u0, u1, u2, u3, u4] t)) w.heap.size x0 x1 x2 x3 x4 ∧
    At5 (((w.alloc (.cells #[x0, x1, x2, x3, x4] t)).alloc (.cells #[y0, y1, y2, y3, y4] t)).alloc (.cells #[u0, u1, u2, u3, u4] t)) (w.heap.size + 1) y0 y1 y2 y3 y4 ∧
    At5 (((w.alloc (.cells #[x0, x1, x2, x3, x4] t)).alloc (.cells #[y0, y1, y2, y3, y4] t)).alloc (.cells #[u0, u1, u2, u3, u4] t)) (w.heap.size + 2) u0 u1 u2 u3 u4 ∧
    Below w.heap.size w (((w.alloc (.cells #[x0, x1, x2, x3, x4] t)).alloc (.cells #[y0, y1, y2, y3, y4] t)).alloc (.cells #[u0, u1, u2, u3, u4] t)) := by
  obtain ⟨a, b, c⟩ := At5.two w x0 x1 x2 x3 x4 y0 y1 y2 y3 y4 t t
  have h := At5.new ((w.alloc (.cells #[x0, x1, x2, x3, x4] t)).alloc (.cells #[y0, y1, y2, y3, y4] t)) u0 u1 u2 u3 u4 t
  simp only [World.size_alloc] at h
  exact ⟨a.alloc _, b.alloc _, h, c.alloc (by simp; omega) _⟩
theorem pnews2 (W : World) (x y : Int) : IntA (W.alloc (.cells #[.int .i64 x, .int .i64 y] 3)) (some ⟨W.heap.size, 0, none⟩) [x, y] := by
  refine .inr ⟨W.heap.size, 0, rfl, fun i z h => ?_⟩
  match i, h with
  | 0, h => simp at h; subst h; simp
  | 1, h => simp at h; subst h; simp
  | n + 2, h => simp at h
theorem form_c {r : Rt} (h : RtGood (r.1, r.2.1, r.2.2.1, r.2.2.2.1, r.2.2.2.2 ++ [9, 9])) : False := by
  have := (List.pairwise_append.1 h.marks.2).2.1
  simp at this

set_option maxRecDepth 100000 in
set_option maxHeartbeats 4000000 in
theorem lawRouteForm (a0 : Option Addr) (len0 cap0 : Nat) (zs0 : List Int) (w : World) (h0 : IsRow w a0 len0 cap0 zs0) (p : Addr) (hE : EV w p) (_ : True) :
    Calls Tryd.prog 10 #[.slice a0 len0 cap0] w fun e w' => e = .returned (.bool true) ∧ Below w.heap.size w w' := by
  have H0 := Lib.hid h0
  have HE := Lib.hid hE
  clear h0 hE
  by_cases hl0 : (1048576 : Int) < (len0 : Int)
  · go_enter Tryd.func10, Tryd.ntmps10
    go_wp2_with fail
    go_ret
    exact ⟨rfl, Below.refl _ _⟩
  have HB0 := Lib.hid (Below.refl w.heap.size w)
  go_enter Tryd.func10, Tryd.ntmps10
  go_wp2_with fail
  refine (dRouteOk_any a0 len0 cap0 zs0 _ (isrow_later H0.out HB0.out)).mono ?_
  rintro en w1 ⟨fr, br, lr, Pr, Mr, pv, mv, rfl, ⟨hlPr, hlMr⟩, ⟨o, o2⟩, b⟩
  have HB1 := Lib.hid (HB0.out.trans (b.mono HB0.out.size))
  have hs1 := Lib.hid b.size
  obtain ⟨arp, crp, rfl, _, _⟩ := OwnI.tab o
  obtain ⟨arm, crm, rfl, _, _⟩ := OwnI.tab o2
  have Brp := Lib.hid (OwnI.btw o)
  have Brm := Lib.hid (OwnI.btw o2)
  have Orp_1 := Lib.hid (owni_mono o HB0.out.size)
  have Orm_1 := Lib.hid (owni_mono o2 HB0.out.size)
  clear o o2
  clear b
  have HB2 := Lib.hid (HB1.out.alloc HB1.out.size (.cells #[.int .i64 fr, .int .i64 br, .slice arp (Pr).length crp, .int .i64 lr, .slice arm (Mr).length crm] 27))
  have hs2 := Lib.hid (show w1.heap.size + 1 = (w1.alloc (.cells #[.int .i64 fr, .int .i64 br, .slice arp (Pr).length crp, .int .i64 lr, .slice arm (Mr).length crm] 27)).heap.size by simp)
  have Orp_2 := Lib.hid (World.ownsRow.alloc Orp_1.out (.cells #[.int .i64 fr, .int .i64 br, .slice arp (Pr).length crp, .int .i64 lr, .slice arm (Mr).length crm] 27))
  have Orm_2 := Lib.hid (World.ownsRow.alloc Orm_1.out (.cells #[.int .i64 fr, .int .i64 br, .slice arp (Pr).length crp, .int .i64 lr, .slice arm (Mr).length crm] 27))
  have Xr_2 := Lib.hid (At5.new w1 (.int .i64 fr) (.int .i64 br) (.slice arp (Pr).length crp) (.int .i64 lr) (.slice arm (Mr).length crm) 27)
  go_wp2_with fail
  generalize w1.alloc (.cells #[.int .i64 fr, .int .i64 br, .slice arp (Pr).length crp, .int .i64 lr, .slice arm (Mr).length crm] 27) = w2 at *
  obtain ⟨xr, hrr⟩ : ∃ x, rtOk (fr, br, Pr, lr, Mr) = x := ⟨_, rfl⟩
  have HRR := Lib.hid hrr
  clear hrr
  have hxx : (xr != xr) = false := by simp
  have hxe : (xr == xr) = true := by simp
  refine (irok_is fr br arp crp (Pr) lr arm crm (Mr) HRR.out _ p ⟨⟨(OwnI.intA Orp_2.out).2.2, (OwnI.intA Orm_2.out).2.2⟩, (OwnI.intA Orp_2.out).2.1, (OwnI.intA Orm_2.out).2.1, by omega, by omega⟩ (HE.out.below HB2.out)).mono ?_
  rintro en w3 ⟨rfl, b⟩
  have HB3 := Lib.hid (HB2.out.trans (b.mono HB2.out.size))
  have hs3 := Lib.hid b.size
  have Orp_3 := Lib.hid (owni_later Orp_2.out b)
  have Orm_3 := Lib.hid (owni_later Orm_2.out b)
  have Xr_3 := Lib.hid (At5.below Xr_2.out b)
  clear b
  obtain ⟨⟨qr0, qr1, qr2, qr3, qr4⟩, _⟩ := Xr_3.out
  go_wp2_with fail
  clear qr0 qr1 qr2 qr3 qr4
  refine (srok_is fr br arp crp (Pr) lr arm crm (Mr) HRR.out _ ⟨⟨(OwnI.intA Orp_3.out).2.2, (OwnI.intA Orm_3.out).2.2⟩, (OwnI.intA Orp_3.out).2.1, (OwnI.intA Orm_3.out).2.1, by omega, by omega⟩).mono ?_
  rintro en w4 ⟨rfl, b⟩
  have HB4 := Lib.hid (HB3.out.trans (b.mono HB3.out.size))
  have hs4 := Lib.hid b.size
  have Orp_4 := Lib.hid (owni_later Orp_3.out b)
  have Orm_4 := Lib.hid (owni_later Orm_3.out b)
  have Xr_4 := Lib.hid (At5.below Xr_3.out b)
  clear b
  cases xr with
  | false =>
    obtain ⟨⟨qr0, qr1, qr2, qr3, qr4⟩, _⟩ := Xr_4.out
    go_wp2_with fail
    clear qr0 qr1 qr2 qr3 qr4
    refine (srok_is fr br arp crp (Pr) lr arm crm (Mr) HRR.out _ ⟨⟨(OwnI.intA Orp_4.out).2.2, (OwnI.intA Orm_4.out).2.2⟩, (OwnI.intA Orp_4.out).2.1, (OwnI.intA Orm_4.out).2.1, by omega, by omega⟩).mono ?_
    rintro en w5 ⟨rfl, b⟩
    have HB5 := Lib.hid (HB4.out.trans (b.mono HB4.out.size))
    have hs5 := Lib.hid b.size
    have Orp_5 := Lib.hid (owni_later Orp_4.out b)
    have Orm_5 := Lib.hid (owni_later Orm_4.out b)
    have Xr_5 := Lib.hid (At5.below Xr_4.out b)
    clear b
    obtain ⟨⟨qr0, qr1, qr2, qr3, qr4⟩, _⟩ := Xr_5.out
    go_wp2_with fail
    clear qr0 qr1 qr2 qr3 qr4
    go_ret
    exact ⟨rfl, HB5.out⟩
  | true =>
    have hA : rtOk (fr, br, [], lr, Mr) = false := rtOk_no fun h => h.some rfl
    have hB : rtOk (fr, br, Pr, 10, Mr) = false := rtOk_no fun h => by have := h.like.2; simp at this
    obtain ⟨N, hN⟩ : ∃ N, Mr ++ [9, 9] = N := ⟨_, rfl⟩
    have hC : rtOk (fr, br, Pr, lr, N) = false := rtOk_no fun h => form_c (r := (fr, br, Pr, lr, Mr)) (by rw [← hN] at h; exact h)
    have hlN : N.length ≤ 13 := by rw [← hN]; simp; omega
    have HN := Lib.hid hN
    clear hN
    obtain ⟨t1, t2, t3, t4⟩ := At5.three w4 (.int .i64 fr) (.int .i64 br) (.slice none 0 0) (.int .i64 lr) (.slice arm (Mr).length crm) (.int .i64 fr) (.int .i64 br) (.slice arp (Pr).length crp) (.int .i64 10) (.slice arm (Mr).length crm) (.int .i64 fr) (.int .i64 br) (.slice arp (Pr).length crp) (.int .i64 lr) (.slice arm (Mr).length crm) 27
    have OE := Lib.hid (owni_empty (((w4.alloc (.cells #[.int .i64 fr, .int .i64 br, .slice none 0 0, .int .i64 lr, .slice arm (Mr).length crm] 27)).alloc (.cells #[.int .i64 fr, .int .i64 br, .slice arp (Pr).length crp, .int .i64 10, .slice arm (Mr).length crm] 27)).alloc (.cells #[.int .i64 fr, .int .i64 br, .slice arp (Pr).length crp, .int .i64 lr, .slice arm (Mr).length crm] 27)) (((w4.alloc (.cells #[.int .i64 fr, .int .i64 br, .slice none 0 0, .int .i64 lr, .slice arm (Mr).length crm] 27)).alloc (.cells #[.int .i64 fr, .int .i64 br, .slice arp (Pr).length crp, .int .i64 10, .slice arm (Mr).length crm] 27)).alloc (.cells #[.int .i64 fr, .int .i64 br, .slice arp (Pr).length crp, .int .i64 lr, .slice arm (Mr).length crm] 27)).heap.size (Nat.le_refl _))
    have hS3 : (((w4.alloc (.cells #[.int .i64 fr, .int .i64 br, .slice none 0 0, .int .i64 lr, .slice arm (Mr).length crm] 27)).alloc (.cells #[.int .i64 fr, .int .i64 br, .slice arp (Pr).length crp, .int .i64 10, .slice arm (Mr).length crm] 27)).alloc (.cells #[.int .i64 fr, .int .i64 br, .slice arp (Pr).length crp, .int .i64 lr, .slice arm (Mr).length crm] 27)).heap.size = w4.heap.size + 3 := by simp
    have HB5 := Lib.hid (HB4.out.trans (t4.mono HB4.out.size))
    have hs5 := Lib.hid (show w4.heap.size + 3 = (((w4.alloc (.cells #[.int .i64 fr, .int .i64 br, .slice none 0 0, .int .i64 lr, .slice arm (Mr).length crm] 27)).alloc (.cells #[.int .i64 fr, .int .i64 br, .slice arp (Pr).length crp, .int .i64 10, .slice arm (Mr).length crm] 27)).alloc (.cells #[.int .i64 fr, .int .i64 br, .slice arp (Pr).length crp, .int .i64 lr, .slice arm (Mr).length crm] 27)).heap.size from hS3.symm)
    have Orp_5 := Lib.hid (owni_later Orp_4.out t4)
    have Orm_5 := Lib.hid (owni_later Orm_4.out t4)
    have Xr_5 := Lib.hid (At5.below Xr_4.out t4)
    have Xa_5 := Lib.hid t1
    have Xb_5 := Lib.hid t2
    have Xc_5 := Lib.hid t3
    clear t1 t2 t3 t4
    obtain ⟨⟨qr0, qr1, qr2, qr3, qr4⟩, _⟩ := Xr_4.out
    have ltr := Xr_4.out.lt
    have ner : ¬ w1.heap.size = w4.heap.size := by omega
    have nes : ¬ w4.heap.size = w1.heap.size := by omega
    have lt1 :  w1.heap.size < w4.heap.size + 1 := by omega
    have ln1 : ¬ w1.heap.size = w4.heap.size + 1 := by omega
    have lt2 :  w1.heap.size < w4.heap.size + 1 + 1 := by omega
    have ln2 : ¬ w1.heap.size = w4.heap.size + 1 + 1 := by omega
    have lt3 :  w1.heap.size < w4.heap.size + 1 + 1 + 1 := by omega
    have ln3 : ¬ w1.heap.size = w4.heap.size + 1 + 1 + 1 := by omega
    simp only [World.size_alloc] at OE
    dsimp only
    go_wp2_with (at_builtin; refine wpList_appI rfl (.tmp 32) (.tmp 34) rfl (w4.heap.size + 3) _ [] rfl ?e1 arm crm Mr rfl ?e2 ?e3 ?e4 ?e5 ?e6)
    case e1 => exact OE.out
    case e2 => exact ((OwnI.intA Orm_5.out).2.2).alloc _
    case e3 => exact (OwnI.intA Orm_5.out).2.1
    case e4 => (simp; omega)
    case e5 => (simp)
    intro v7 w77 own7 grow7
    replace own7 : OwnI w77 (w4.heap.size + 3) v7 Mr := own7
    have b77 : Below (((w4.alloc (.cells #[.int .i64 fr, .int .i64 br, .slice none 0 0, .int .i64 lr, .slice arm (Mr).length crm] 27)).alloc (.cells #[.int .i64 fr, .int .i64 br, .slice arp (Pr).length crp, .int .i64 10, .slice arm (Mr).length crm] 27)).alloc (.cells #[.int .i64 fr, .int .i64 br, .slice arp (Pr).length crp, .int .i64 lr, .slice arm (Mr).length crm] 27)).heap.size (((w4.alloc (.cells #[.int .i64 fr, .int .i64 br, .slice none 0 0, .int .i64 lr, .slice arm (Mr).length crm] 27)).alloc (.cells #[.int .i64 fr, .int .i64 br, .slice arp (Pr).length crp, .int .i64 10, .slice arm (Mr).length crm] 27)).alloc (.cells #[.int .i64 fr, .int .i64 br, .slice arp (Pr).length crp, .int .i64 lr, .slice arm (Mr).length crm] 27)) w77 := app_later (W := (((w4.alloc (.cells #[.int .i64 fr, .int .i64 br, .slice none 0 0, .int .i64 lr, .slice arm (Mr).length crm] 27)).alloc (.cells #[.int .i64 fr, .int .i64 br, .slice arp (Pr).length crp, .int .i64 10, .slice arm (Mr).length crm] 27)).alloc (.cells #[.int .i64 fr, .int .i64 br, .slice arp (Pr).length crp, .int .i64 lr, .slice arm (Mr).length crm] 27))) (by simp [Value.ownBlock]) grow7
    clear grow7
    have hs77 : w4.heap.size + 3 ≤ w77.heap.size := by have := b77.size; simp only [World.size_alloc] at this; omega
    have own77 := Lib.hid own7
    go_wp2_with (at_builtin; refine wpList_appI rfl (.tmp 35) (.tmp 36) rfl (w4.heap.size + 3) _ Mr rfl ?g1 _ 2 [9, 9] rfl ?g2 ?g3 ?g4 ?g5 ?g6)
    case g1 => exact World.ownsRow.alloc own77.out _
    case g2 => exact pnews2 w77 9 9
    case g3 => simp
    case g4 => (simp; omega)
    case g5 => (simp; omega)
    intro v8 w88 own8 grow8
    have b88 : Below (((w4.alloc (.cells #[.int .i64 fr, .int .i64 br, .slice none 0 0, .int .i64 lr, .slice arm (Mr).length crm] 27)).alloc (.cells #[.int .i64 fr, .int .i64 br, .slice arp (Pr).length crp, .int .i64 10, .slice arm (Mr).length crm] 27)).alloc (.cells #[.int .i64 fr, .int .i64 br, .slice arp (Pr).length crp, .int .i64 lr, .slice arm (Mr).length crm] 27)).heap.size (((w4.alloc (.cells #[.int .i64 fr, .int .i64 br, .slice none 0 0, .int .i64 lr, .slice arm (Mr).length crm] 27)).alloc (.cells #[.int .i64 fr, .int .i64 br, .slice arp (Pr).length crp, .int .i64 10, .slice arm (Mr).length crm] 27)).alloc (.cells #[.int .i64 fr, .int .i64 br, .slice arp (Pr).length crp, .int .i64 lr, .slice arm (Mr).length crm] 27)) w88 := (b77.alloc (by simp; omega) _).trans ((appi_below (World.ownsRow.alloc own77.out _) grow8 (by simp; omega)).mono (by simp))
    clear grow8
    rw [HN.out] at own8
    obtain ⟨acm, ccm, rfl, _, _⟩ := OwnI.tab own8
    have Bcm := Lib.hid (OwnI.btw own8)
    have HB6 := Lib.hid (HB5.out.trans (b88.mono HB5.out.size))
    have hs6 := Lib.hid (show w4.heap.size + 3 ≤ w88.heap.size by have := b88.size; simp only [World.size_alloc] at this; omega)
    have Orp_6 := Lib.hid (owni_later Orp_5.out b88)
    have Orm_6 := Lib.hid (owni_later Orm_5.out b88)
    have Xr_6 := Lib.hid (At5.below Xr_5.out b88)
    have Xa_6 := Lib.hid (At5.below Xa_5.out b88)
    have Xb_6 := Lib.hid (At5.below Xb_5.out b88)
    have Xc_6 := Lib.hid (At5.below Xc_5.out b88)
    have Ocm_6 := Lib.hid (owni_mono own8 (show w.heap.size ≤ w4.heap.size + 3 by have := HB4.out.size; omega))
    clear own8 own77 own7 b77 b88 OE qr0 qr1 qr2 qr3 qr4 ltr ner nes hS3 hs77 lt1 lt2 lt3 ln1 ln2 ln3
    clear Orp_5
    clear Orm_5
    clear Xr_5
    clear Xa_5
    clear Xb_5
    clear Xc_5
    clear HB5
    replace hs5 : Hid (True) := Lib.hid trivial
    generalize w88 = w6 at *
    have HB7 := Lib.hid (Below.setCell HB6.out (p := ⟨w4.heap.size + 2, 4, none⟩) (by show w.heap.size ≤ w4.heap.size + 2; have := hs1.out; have := hs2.out; have := hs3.out; have := hs4.out; have := hs5.out; have := hs6.out; omega) (.slice acm N.length ccm))
    have hs7 := Lib.hid (show w6.heap.size = (w6.setCell ⟨w4.heap.size + 2, 4, none⟩ (.slice acm N.length ccm)).heap.size by simp)
    have Orp_7 := Lib.hid (owni_setN Orp_6.out Brp.out (Q := w4.heap.size + 2) (o := 4) (by have := hs1.out; have := hs2.out; have := hs3.out; have := hs4.out; have := hs5.out; have := hs6.out; omega) (.slice acm N.length ccm))
    have Orm_7 := Lib.hid (owni_setN Orm_6.out Brm.out (Q := w4.heap.size + 2) (o := 4) (by have := hs1.out; have := hs2.out; have := hs3.out; have := hs4.out; have := hs5.out; have := hs6.out; omega) (.slice acm N.length ccm))
    have Ocm_7 := Lib.hid (owni_setN Ocm_6.out Bcm.out (Q := w4.heap.size + 2) (o := 4) (by have := hs1.out; have := hs2.out; have := hs3.out; have := hs4.out; have := hs5.out; have := hs6.out; omega) (.slice acm N.length ccm))
    have Xr_7 := Lib.hid (At5.far Xr_6.out ⟨w4.heap.size + 2, 4, none⟩ (.slice acm N.length ccm) (by show w4.heap.size + 2 ≠ w1.heap.size; have := hs1.out; have := hs2.out; have := hs3.out; have := hs4.out; have := hs5.out; have := hs6.out; omega))
    have Xa_7 := Lib.hid (At5.far Xa_6.out ⟨w4.heap.size + 2, 4, none⟩ (.slice acm N.length ccm) (by show w4.heap.size + 2 ≠ w4.heap.size; have := hs1.out; have := hs2.out; have := hs3.out; have := hs4.out; have := hs5.out; have := hs6.out; omega))
    have Xb_7 := Lib.hid (At5.far Xb_6.out ⟨w4.heap.size + 2, 4, none⟩ (.slice acm N.length ccm) (by show w4.heap.size + 2 ≠ w4.heap.size + 1; have := hs1.out; have := hs2.out; have := hs3.out; have := hs4.out; have := hs5.out; have := hs6.out; omega))
    have Xc_7 := Lib.hid (At5.put4 Xc_6.out (.slice acm N.length ccm))
    obtain ⟨⟨qc0, qc1, qc2, qc3, qc4⟩, uc0, uc1, uc2, uc3, uc4⟩ := Xc_6.out
    obtain ⟨⟨qa0, qa1, qa2, qa3, qa4⟩, _⟩ := Xa_7.out
    go_wp2_with fail
    clear qc0 qc1 qc2 qc3 qc4 uc0 uc1 uc2 uc3 uc4 qa0 qa1 qa2 qa3 qa4
    generalize w6.setCell ⟨w4.heap.size + 2, 4, none⟩ (.slice acm N.length ccm) = w7 at *
    refine (irok_is fr br none 0 [] lr arm crm Mr hA _ p ⟨⟨.inl rfl, (OwnI.intA Orm_7.out).2.2⟩, by simp, (OwnI.intA Orm_7.out).2.1, by simp, by omega⟩ (HE.out.below HB7.out)).mono ?_
    rintro en w8 ⟨rfl, b⟩
    have HB8 := Lib.hid (HB7.out.trans (b.mono HB7.out.size))
    have hs8 := Lib.hid b.size
    have Orp_8 := Lib.hid (owni_later Orp_7.out b)
    have Orm_8 := Lib.hid (owni_later Orm_7.out b)
    have Ocm_8 := Lib.hid (owni_later Ocm_7.out b)
    have Xr_8 := Lib.hid (At5.below Xr_7.out b)
    have Xa_8 := Lib.hid (At5.below Xa_7.out b)
    have Xb_8 := Lib.hid (At5.below Xb_7.out b)
    have Xc_8 := Lib.hid (At5.below Xc_7.out b)
    clear b
    obtain ⟨⟨qr0, qr1, qr2, qr3, qr4⟩, _⟩ := Xr_8.out
    obtain ⟨⟨qa0, qa1, qa2, qa3, qa4⟩, _⟩ := Xa_8.out
    obtain ⟨⟨qb0, qb1, qb2, qb3, qb4⟩, _⟩ := Xb_8.out
    obtain ⟨⟨qc0, qc1, qc2, qc3, qc4⟩, _⟩ := Xc_8.out
    go_wp2_with fail
    clear qr0 qr1 qr2 qr3 qr4
    clear qa0 qa1 qa2 qa3 qa4
    clear qb0 qb1 qb2 qb3 qb4
    clear qc0 qc1 qc2 qc3 qc4
    refine (irok_is fr br arp crp Pr 10 arm crm Mr hB _ p ⟨⟨(OwnI.intA Orp_8.out).2.2, (OwnI.intA Orm_8.out).2.2⟩, (OwnI.intA Orp_8.out).2.1, (OwnI.intA Orm_8.out).2.1, by omega, by omega⟩ (HE.out.below HB8.out)).mono ?_
    rintro en w9 ⟨rfl, b⟩
    have HB9 := Lib.hid (HB8.out.trans (b.mono HB8.out.size))
    have hs9 := Lib.hid b.size
    have Orp_9 := Lib.hid (owni_later Orp_8.out b)
    have Orm_9 := Lib.hid (owni_later Orm_8.out b)
    have Ocm_9 := Lib.hid (owni_later Ocm_8.out b)
    have Xr_9 := Lib.hid (At5.below Xr_8.out b)
    have Xa_9 := Lib.hid (At5.below Xa_8.out b)
    have Xb_9 := Lib.hid (At5.below Xb_8.out b)
    have Xc_9 := Lib.hid (At5.below Xc_8.out b)
    clear b
    obtain ⟨⟨qr0, qr1, qr2, qr3, qr4⟩, _⟩ := Xr_9.out
    obtain ⟨⟨qa0, qa1, qa2, qa3, qa4⟩, _⟩ := Xa_9.out
    obtain ⟨⟨qb0, qb1, qb2, qb3, qb4⟩, _⟩ := Xb_9.out
    obtain ⟨⟨qc0, qc1, qc2, qc3, qc4⟩, _⟩ := Xc_9.out
    go_wp2_with fail
    clear qr0 qr1 qr2 qr3 qr4
    clear qa0 qa1 qa2 qa3 qa4
    clear qb0 qb1 qb2 qb3 qb4
    clear qc0 qc1 qc2 qc3 qc4
    refine (irok_is fr br arp crp Pr lr acm ccm N hC _ p ⟨⟨(OwnI.intA Orp_9.out).2.2, (OwnI.intA Ocm_9.out).2.2⟩, (OwnI.intA Orp_9.out).2.1, (OwnI.intA Ocm_9.out).2.1, by omega, by omega⟩ (HE.out.below HB9.out)).mono ?_
    rintro en w10 ⟨rfl, b⟩
    have HB10 := Lib.hid (HB9.out.trans (b.mono HB9.out.size))
    have hs10 := Lib.hid b.size
    have Orp_10 := Lib.hid (owni_later Orp_9.out b)
    have Orm_10 := Lib.hid (owni_later Orm_9.out b)
    have Ocm_10 := Lib.hid (owni_later Ocm_9.out b)
    have Xr_10 := Lib.hid (At5.below Xr_9.out b)
    have Xa_10 := Lib.hid (At5.below Xa_9.out b)
    have Xb_10 := Lib.hid (At5.below Xb_9.out b)
    have Xc_10 := Lib.hid (At5.below Xc_9.out b)
    clear b
    obtain ⟨⟨qr0, qr1, qr2, qr3, qr4⟩, _⟩ := Xr_10.out
    obtain ⟨⟨qa0, qa1, qa2, qa3, qa4⟩, _⟩ := Xa_10.out
    obtain ⟨⟨qb0, qb1, qb2, qb3, qb4⟩, _⟩ := Xb_10.out
    obtain ⟨⟨qc0, qc1, qc2, qc3, qc4⟩, _⟩ := Xc_10.out
    go_wp2_with fail
    clear qr0 qr1 qr2 qr3 qr4
    clear qa0 qa1 qa2 qa3 qa4
    clear qb0 qb1 qb2 qb3 qb4
    clear qc0 qc1 qc2 qc3 qc4
    go_ret
    exact ⟨rfl, HB10.out⟩

end Go.Proofs.YtfjfcdifnfffbaaDoor
