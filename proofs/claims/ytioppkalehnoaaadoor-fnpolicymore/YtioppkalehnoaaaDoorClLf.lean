/-
  The law that a clause behind all changes just what no other one fits: the walk.
-/
import Derived.Test.YtioppkalehnoaaaDoorClLl
import Derived.Test.YtioppkalehnoaaaDoorClHd
import Derived.Test.YtioppkalehnoaaaDoorRtVs
namespace Go.Proofs.YtioppkalehnoaaaDoor
open Go.RowKit
set_option linter.unusedSimpArgs false
set_option linter.unusedVariables false

theorem firstC_more {Lp : List CL} {c : CL} {r : Rt} {k : Nat} {d : CL} (hk : Lp[k]? = some d) (hf : fitsC d r = true) (h : ∀ (j : Nat) e, j < k → Lp[j]? = some e → fitsC e r = false) : firstC (Lp ++ [c]) r = firstC Lp r := by
  have hlt := (List.getElem?_eq_some_iff.1 hk).1
  rw [firstC_hit hk hf h, firstC_hit (p := Lp ++ [c]) (k := k) (by rw [List.getElem?_append_left hlt]; exact hk) hf (fun j e hj he => h j e hj (by rwa [List.getElem?_append_left (by omega)] at he))]
theorem firstC_end {Lp : List CL} {c : CL} {r : Rt} (h : ∀ (j : Nat) e, Lp[j]? = some e → fitsC e r = false) : firstC (Lp ++ [c]) r = firstC [c] r := by
  induction Lp with
  | nil => rfl
  | cons d p ih =>
    rw [List.cons_append, firstC, if_neg (by simp [h 0 d rfl])]
    exact ih (fun j e he => h (j + 1) e (by simpa using he))
theorem polOk_more {Lp : List CL} {n : Int} (hp : polOk Lp = true) (hl : Lp.length ≤ 4) (h1 : 1 ≤ n ∧ n ≤ 5) : polOk (Lp ++ [⟨5, n, 0, 0, false, 7, 0, 0⟩]) = true := by
  have hc : clOk ⟨5, n, 0, 0, false, 7, 0, 0⟩ = true := by
    simp [clOk, condOk, doOk, noR, isH, isM0]; omega
  rw [polOk_iff] at hp ⊢
  refine ⟨by simp; omega, fun c hc2 => ?_⟩
  rcases List.mem_append.1 hc2 with k | k
  · exact hp.2 c k
  · obtain rfl : c = _ := by simpa using k
    exact hc
theorem polDo_more {Lp : List CL} {r : Rt} {n : Int} {k : Nat} {d : CL} (hp : polOk Lp = true) (hr : rtOk r = true) (hl : Lp.length ≤ 4) (h1 : 1 ≤ n ∧ n ≤ 5) (hk : Lp[k]? = some d) (hf : fitsC d r = true) (h : ∀ (j : Nat) e, j < k → Lp[j]? = some e → fitsC e r = false) :
    polDo (Lp ++ [⟨5, n, 0, 0, false, 7, 0, 0⟩]) r = polDo Lp r := by
  rw [polDo_yes (polOk_more hp hl h1) hr, polDo_yes hp hr]
  exact firstC_more hk hf h
theorem polDo_last {Lp : List CL} {r : Rt} {n : Int} (hp : polOk Lp = true) (hr : rtOk r = true) (hl : Lp.length ≤ 4) (h1 : 1 ≤ n ∧ n ≤ 5) (h : ∀ (j : Nat) e, Lp[j]? = some e → fitsC e r = false) :
    polDo (Lp ++ [⟨5, n, 0, 0, false, 7, 0, 0⟩]) r = polDo [⟨5, n, 0, 0, false, 7, 0, 0⟩] r := by
  rw [polDo_yes (polOk_more hp hl h1) hr, polDo_yes (p := [⟨5, n, 0, 0, false, 7, 0, 0⟩]) (polOk_more (Lp := []) (by decide) (by simp) h1) hr]
  exact firstC_end h
set_option maxRecDepth 100000 in
set_option maxHeartbeats 4000000 in
theorem lawPolicyMore (a0 : Option Addr) (len0 cap0 : Nat) (zs0 : List Int) (a1 : Option Addr) (len1 cap1 : Nat) (zs1 : List Int) (w : World) (h0 : IsRow w a0 len0 cap0 zs0) (h1 : IsRow w a1 len1 cap1 zs1) (p : Addr) (hE : EV w p) (_ : True) :
    Calls Tryd.prog 7 #[.slice a0 len0 cap0, .slice a1 len1 cap1] w fun e w' => e = .returned (.bool true) ∧ Below w.heap.size w w' := by
  have H0 := Lib.hid h0
  have H1 := Lib.hid h1
  have HE := Lib.hid hE
  clear h0 hE h1
  by_cases hl0 : (1048576 : Int) < (len0 : Int)
  · go_enter Tryd.func7, Tryd.ntmps7
    go_wp2_with fail
    go_ret
    exact ⟨rfl, Below.refl _ _⟩
  by_cases hl1 : (1048576 : Int) < (len1 : Int)
  · go_enter Tryd.func7, Tryd.ntmps7
    go_wp2_with fail
    go_ret
    exact ⟨rfl, Below.refl _ _⟩
  have HB0 := Lib.hid (Below.refl w.heap.size w)
  go_enter Tryd.func7, Tryd.ntmps7
  go_wp2_with fail
  refine (dPolicyDo_any a0 len0 cap0 zs0 _ (isrow_later H0.out HB0.out)).mono ?_
  rintro en w1 ⟨vc, Lp, fr, br, lr, Pr, Mr, pv, mv, rfl, hlL, oc, ⟨hlPr, hlMr⟩, ⟨o, o2⟩, b⟩
  have HB1 := Lib.hid (HB0.out.trans (b.mono HB0.out.size))
  have hs1 := Lib.hid b.size
  obtain ⟨ap, cp, rfl, _, _⟩ := OwnC.tab oc
  have Cp_1 := Lib.hid (ownc_mono oc HB0.out.size)
  clear oc
  obtain ⟨arp, crp, rfl, _, _⟩ := OwnI.tab o
  obtain ⟨arm, crm, rfl, _, _⟩ := OwnI.tab o2
  have Brp := Lib.hid (OwnI.btw o)
  have Brm := Lib.hid (OwnI.btw o2)
  have Orp_1 := Lib.hid (owni_mono o HB0.out.size)
  have Orm_1 := Lib.hid (owni_mono o2 HB0.out.size)
  clear o o2
  clear b
  have HB2 := Lib.hid (HB1.out.alloc HB1.out.size (.cells #[.int .i64 fr, .int .i64 br, .slice arp (Pr).length crp, .int .i64 lr, .slice arm (Mr).length crm] 36))
  have hs2 := Lib.hid (show w1.heap.size + 1 = (w1.alloc (.cells #[.int .i64 fr, .int .i64 br, .slice arp (Pr).length crp, .int .i64 lr, .slice arm (Mr).length crm] 36)).heap.size by simp)
  have Orp_2 := Lib.hid (World.ownsRow.alloc Orp_1.out (.cells #[.int .i64 fr, .int .i64 br, .slice arp (Pr).length crp, .int .i64 lr, .slice arm (Mr).length crm] 36))
  have Orm_2 := Lib.hid (World.ownsRow.alloc Orm_1.out (.cells #[.int .i64 fr, .int .i64 br, .slice arp (Pr).length crp, .int .i64 lr, .slice arm (Mr).length crm] 36))
  have Cp_2 := Lib.hid (World.ownsRow.alloc Cp_1.out (.cells #[.int .i64 fr, .int .i64 br, .slice arp (Pr).length crp, .int .i64 lr, .slice arm (Mr).length crm] 36))
  have Xr_2 := Lib.hid (At5.new w1 (.int .i64 fr) (.int .i64 br) (.slice arp (Pr).length crp) (.int .i64 lr) (.slice arm (Mr).length crm) 36)
  go_wp2_with fail
  generalize w1.alloc (.cells #[.int .i64 fr, .int .i64 br, .slice arp (Pr).length crp, .int .i64 lr, .slice arm (Mr).length crm] 36) = w2 at *
  obtain ⟨⟨⟨fU, bU, PU, lU, MU⟩, u⟩, hU⟩ : ∃ s, polDo Lp (fr, br, Pr, lr, Mr) = s := ⟨_, rfl⟩
  have hUl : PU.length ≤ 5 ∧ MU.length ≤ 10 := by have := polDo_len Lp (fr, br, Pr, lr, Mr); rw [hU] at this; exact this
  have HU := Lib.hid hU
  have huu : (u != u) = false := by simp
  have hue : (u == u) = true := by simp
  clear hU
  refine (spoldo_is Lp ap _ cp fr br arp crp (Pr) lr arm crm (Mr) HU.out _ rfl (OwnC.cs Cp_2.out) (by omega) ⟨⟨(OwnI.intA Orp_2.out).2.2, (OwnI.intA Orm_2.out).2.2⟩, (OwnI.intA Orp_2.out).2.1, (OwnI.intA Orm_2.out).2.1, by omega, by omega⟩).mono ?_
  rintro en w3 ⟨pv, mv, rfl, S, o, bP, o2, hS, b⟩
  have HB3 := Lib.hid (HB2.out.trans (b.mono HB2.out.size))
  have hs3 := Lib.hid b.size
  have Orp_3 := Lib.hid (owni_later Orp_2.out b)
  have Orm_3 := Lib.hid (owni_later Orm_2.out b)
  have Xr_3 := Lib.hid (At5.below Xr_2.out b)
  have Cp_3 := Lib.hid (ownc_later Cp_2.out b)
  replace o : OwnI w3 w2.heap.size pv PU := o
  replace o2 : OwnI w3 S mv MU := o2
  obtain ⟨awp, cwp, rfl, _, _⟩ := OwnI.tab o
  obtain ⟨awm, cwm, rfl, _, _⟩ := OwnI.tab o2
  have Aw := Lib.hid (apart2 bP o2)
  have Bwp := Lib.hid (OwnI.btw o)
  have Bwm := Lib.hid ((OwnI.btw o2).mono hS (Nat.le_refl _))
  have Owp_3 := Lib.hid (owni_mono o HB2.out.size)
  have Owm_3 := Lib.hid (owni_mono o2 (Nat.le_trans HB2.out.size hS))
  clear o o2 bP hS b
  have HB4 := Lib.hid (HB3.out.alloc HB3.out.size (.cells #[.int .i64 fU, .int .i64 bU, .slice awp (PU).length cwp, .int .i64 lU, .slice awm (MU).length cwm] 36))
  have hs4 := Lib.hid (show w3.heap.size + 1 = (w3.alloc (.cells #[.int .i64 fU, .int .i64 bU, .slice awp (PU).length cwp, .int .i64 lU, .slice awm (MU).length cwm] 36)).heap.size by simp)
  have Orp_4 := Lib.hid (World.ownsRow.alloc Orp_3.out (.cells #[.int .i64 fU, .int .i64 bU, .slice awp (PU).length cwp, .int .i64 lU, .slice awm (MU).length cwm] 36))
  have Orm_4 := Lib.hid (World.ownsRow.alloc Orm_3.out (.cells #[.int .i64 fU, .int .i64 bU, .slice awp (PU).length cwp, .int .i64 lU, .slice awm (MU).length cwm] 36))
  have Owp_4 := Lib.hid (World.ownsRow.alloc Owp_3.out (.cells #[.int .i64 fU, .int .i64 bU, .slice awp (PU).length cwp, .int .i64 lU, .slice awm (MU).length cwm] 36))
  have Owm_4 := Lib.hid (World.ownsRow.alloc Owm_3.out (.cells #[.int .i64 fU, .int .i64 bU, .slice awp (PU).length cwp, .int .i64 lU, .slice awm (MU).length cwm] 36))
  have Xr_4 := Lib.hid (At5.alloc Xr_3.out (.cells #[.int .i64 fU, .int .i64 bU, .slice awp (PU).length cwp, .int .i64 lU, .slice awm (MU).length cwm] 36))
  have Cp_4 := Lib.hid (World.ownsRow.alloc Cp_3.out (.cells #[.int .i64 fU, .int .i64 bU, .slice awp (PU).length cwp, .int .i64 lU, .slice awm (MU).length cwm] 36))
  have Xw_4 := Lib.hid (At5.new w3 (.int .i64 fU) (.int .i64 bU) (.slice awp (PU).length cwp) (.int .i64 lU) (.slice awm (MU).length cwm) 36)
  obtain ⟨⟨qr0, qr1, qr2, qr3, qr4⟩, _⟩ := Xr_4.out
  go_wp2_with fail
  clear qr0 qr1 qr2 qr3 qr4
  generalize w3.alloc (.cells #[.int .i64 fU, .int .i64 bU, .slice awp (PU).length cwp, .int .i64 lU, .slice awm (MU).length cwm] 36) = w4 at *
  refine (ipoldo_is Lp ap _ cp fr br arp crp (Pr) lr arm crm (Mr) HU.out _ p rfl (OwnC.cs Cp_4.out) (by omega) ⟨⟨(OwnI.intA Orp_4.out).2.2, (OwnI.intA Orm_4.out).2.2⟩, (OwnI.intA Orp_4.out).2.1, (OwnI.intA Orm_4.out).2.1, by omega, by omega⟩ (HE.out.below HB4.out)).mono ?_
  rintro en w5 ⟨pv, mv, rfl, S, o, bP, o2, hS, b⟩
  have HB5 := Lib.hid (HB4.out.trans (b.mono HB4.out.size))
  have hs5 := Lib.hid b.size
  have Orp_5 := Lib.hid (owni_later Orp_4.out b)
  have Orm_5 := Lib.hid (owni_later Orm_4.out b)
  have Owp_5 := Lib.hid (owni_later Owp_4.out b)
  have Owm_5 := Lib.hid (owni_later Owm_4.out b)
  have Xr_5 := Lib.hid (At5.below Xr_4.out b)
  have Xw_5 := Lib.hid (At5.below Xw_4.out b)
  have Cp_5 := Lib.hid (ownc_later Cp_4.out b)
  replace o : OwnI w5 w4.heap.size pv PU := o
  replace o2 : OwnI w5 S mv MU := o2
  obtain ⟨axp, cxp, rfl, _, _⟩ := OwnI.tab o
  obtain ⟨axm, cxm, rfl, _, _⟩ := OwnI.tab o2
  have Ax := Lib.hid (apart2 bP o2)
  have Bxp := Lib.hid (OwnI.btw o)
  have Bxm := Lib.hid ((OwnI.btw o2).mono hS (Nat.le_refl _))
  have Oxp_5 := Lib.hid (owni_mono o HB4.out.size)
  have Oxm_5 := Lib.hid (owni_mono o2 (Nat.le_trans HB4.out.size hS))
  clear o o2 bP hS b
  have HB6 := Lib.hid (HB5.out.alloc HB5.out.size (.cells #[.int .i64 fU, .int .i64 bU, .slice axp (PU).length cxp, .int .i64 lU, .slice axm (MU).length cxm] 36))
  have hs6 := Lib.hid (show w5.heap.size + 1 = (w5.alloc (.cells #[.int .i64 fU, .int .i64 bU, .slice axp (PU).length cxp, .int .i64 lU, .slice axm (MU).length cxm] 36)).heap.size by simp)
  have Orp_6 := Lib.hid (World.ownsRow.alloc Orp_5.out (.cells #[.int .i64 fU, .int .i64 bU, .slice axp (PU).length cxp, .int .i64 lU, .slice axm (MU).length cxm] 36))
  have Orm_6 := Lib.hid (World.ownsRow.alloc Orm_5.out (.cells #[.int .i64 fU, .int .i64 bU, .slice axp (PU).length cxp, .int .i64 lU, .slice axm (MU).length cxm] 36))
  have Owp_6 := Lib.hid (World.ownsRow.alloc Owp_5.out (.cells #[.int .i64 fU, .int .i64 bU, .slice axp (PU).length cxp, .int .i64 lU, .slice axm (MU).length cxm] 36))
  have Owm_6 := Lib.hid (World.ownsRow.alloc Owm_5.out (.cells #[.int .i64 fU, .int .i64 bU, .slice axp (PU).length cxp, .int .i64 lU, .slice axm (MU).length cxm] 36))
  have Oxp_6 := Lib.hid (World.ownsRow.alloc Oxp_5.out (.cells #[.int .i64 fU, .int .i64 bU, .slice axp (PU).length cxp, .int .i64 lU, .slice axm (MU).length cxm] 36))
  have Oxm_6 := Lib.hid (World.ownsRow.alloc Oxm_5.out (.cells #[.int .i64 fU, .int .i64 bU, .slice axp (PU).length cxp, .int .i64 lU, .slice axm (MU).length cxm] 36))
  have Xr_6 := Lib.hid (At5.alloc Xr_5.out (.cells #[.int .i64 fU, .int .i64 bU, .slice axp (PU).length cxp, .int .i64 lU, .slice axm (MU).length cxm] 36))
  have Xw_6 := Lib.hid (At5.alloc Xw_5.out (.cells #[.int .i64 fU, .int .i64 bU, .slice axp (PU).length cxp, .int .i64 lU, .slice axm (MU).length cxm] 36))
  have Cp_6 := Lib.hid (World.ownsRow.alloc Cp_5.out (.cells #[.int .i64 fU, .int .i64 bU, .slice axp (PU).length cxp, .int .i64 lU, .slice axm (MU).length cxm] 36))
  have Xx_6 := Lib.hid (At5.new w5 (.int .i64 fU) (.int .i64 bU) (.slice axp (PU).length cxp) (.int .i64 lU) (.slice axm (MU).length cxm) 36)
  obtain ⟨⟨qr0, qr1, qr2, qr3, qr4⟩, _⟩ := Xr_6.out
  obtain ⟨⟨qw0, qw1, qw2, qw3, qw4⟩, _⟩ := Xw_6.out
  go_wp2_with fail
  clear qr0 qr1 qr2 qr3 qr4
  clear qw0 qw1 qw2 qw3 qw4
  generalize w5.alloc (.cells #[.int .i64 fU, .int .i64 bU, .slice axp (PU).length cxp, .int .i64 lU, .slice axm (MU).length cxm] 36) = w6 at *
  refine (lyrt_is fU bU axp cxp (PU) lU axm cxm (MU) fU bU awp cwp (PU) lU awm cwm (MU) (show decide (((fU, bU, PU, lU, MU) : Rt) = (fU, bU, PU, lU, MU)) = true from decide_eq_true rfl) _ ⟨⟨(OwnI.intA Oxp_6.out).2.2, (OwnI.intA Oxm_6.out).2.2⟩, (OwnI.intA Oxp_6.out).2.1, (OwnI.intA Oxm_6.out).2.1, by omega, by omega⟩ ⟨⟨(OwnI.intA Owp_6.out).2.2, (OwnI.intA Owm_6.out).2.2⟩, (OwnI.intA Owp_6.out).2.1, (OwnI.intA Owm_6.out).2.1, by omega, by omega⟩).mono ?_
  rintro en w7 ⟨rfl, b⟩
  have HB7 := Lib.hid (HB6.out.trans (b.mono HB6.out.size))
  have hs7 := Lib.hid b.size
  have Orp_7 := Lib.hid (owni_later Orp_6.out b)
  have Orm_7 := Lib.hid (owni_later Orm_6.out b)
  have Owp_7 := Lib.hid (owni_later Owp_6.out b)
  have Owm_7 := Lib.hid (owni_later Owm_6.out b)
  have Oxp_7 := Lib.hid (owni_later Oxp_6.out b)
  have Oxm_7 := Lib.hid (owni_later Oxm_6.out b)
  have Xr_7 := Lib.hid (At5.below Xr_6.out b)
  have Xw_7 := Lib.hid (At5.below Xw_6.out b)
  have Xx_7 := Lib.hid (At5.below Xx_6.out b)
  have Cp_7 := Lib.hid (ownc_later Cp_6.out b)
  clear b
  cases hp : polOk Lp with
  | false =>
    obtain ⟨⟨qr0, qr1, qr2, qr3, qr4⟩, _⟩ := Xr_7.out
    obtain ⟨⟨qw0, qw1, qw2, qw3, qw4⟩, _⟩ := Xw_7.out
    obtain ⟨⟨qx0, qx1, qx2, qx3, qx4⟩, _⟩ := Xx_7.out
    go_wp2_with fail
    clear qr0 qr1 qr2 qr3 qr4
    clear qw0 qw1 qw2 qw3 qw4
    clear qx0 qx1 qx2 qx3 qx4
    refine (spolok_is Lp hp ap cp _ _ rfl (OwnC.cs Cp_7.out) (by omega)).mono ?_
    rintro en w8 ⟨rfl, b⟩
    have HB8 := Lib.hid (HB7.out.trans (b.mono HB7.out.size))
    have hs8 := Lib.hid b.size
    have Orp_8 := Lib.hid (owni_later Orp_7.out b)
    have Orm_8 := Lib.hid (owni_later Orm_7.out b)
    have Owp_8 := Lib.hid (owni_later Owp_7.out b)
    have Owm_8 := Lib.hid (owni_later Owm_7.out b)
    have Oxp_8 := Lib.hid (owni_later Oxp_7.out b)
    have Oxm_8 := Lib.hid (owni_later Oxm_7.out b)
    have Xr_8 := Lib.hid (At5.below Xr_7.out b)
    have Xw_8 := Lib.hid (At5.below Xw_7.out b)
    have Xx_8 := Lib.hid (At5.below Xx_7.out b)
    have Cp_8 := Lib.hid (ownc_later Cp_7.out b)
    clear b
    obtain ⟨⟨qr0, qr1, qr2, qr3, qr4⟩, _⟩ := Xr_8.out
    obtain ⟨⟨qw0, qw1, qw2, qw3, qw4⟩, _⟩ := Xw_8.out
    obtain ⟨⟨qx0, qx1, qx2, qx3, qx4⟩, _⟩ := Xx_8.out
    go_wp2_with fail
    clear qr0 qr1 qr2 qr3 qr4
    clear qw0 qw1 qw2 qw3 qw4
    clear qx0 qx1 qx2 qx3 qx4
    refine (lyrt_is fU bU axp cxp (PU) lU axm cxm (MU) fU bU awp cwp (PU) lU awm cwm (MU) (show decide (((fU, bU, PU, lU, MU) : Rt) = (fU, bU, PU, lU, MU)) = true from decide_eq_true rfl) _ ⟨⟨(OwnI.intA Oxp_8.out).2.2, (OwnI.intA Oxm_8.out).2.2⟩, (OwnI.intA Oxp_8.out).2.1, (OwnI.intA Oxm_8.out).2.1, by omega, by omega⟩ ⟨⟨(OwnI.intA Owp_8.out).2.2, (OwnI.intA Owm_8.out).2.2⟩, (OwnI.intA Owp_8.out).2.1, (OwnI.intA Owm_8.out).2.1, by omega, by omega⟩).mono ?_
    rintro en w9 ⟨rfl, b⟩
    have HB9 := Lib.hid (HB8.out.trans (b.mono HB8.out.size))
    have hs9 := Lib.hid b.size
    have Orp_9 := Lib.hid (owni_later Orp_8.out b)
    have Orm_9 := Lib.hid (owni_later Orm_8.out b)
    have Owp_9 := Lib.hid (owni_later Owp_8.out b)
    have Owm_9 := Lib.hid (owni_later Owm_8.out b)
    have Oxp_9 := Lib.hid (owni_later Oxp_8.out b)
    have Oxm_9 := Lib.hid (owni_later Oxm_8.out b)
    have Xr_9 := Lib.hid (At5.below Xr_8.out b)
    have Xw_9 := Lib.hid (At5.below Xw_8.out b)
    have Xx_9 := Lib.hid (At5.below Xx_8.out b)
    have Cp_9 := Lib.hid (ownc_later Cp_8.out b)
    clear b
    obtain ⟨⟨qr0, qr1, qr2, qr3, qr4⟩, _⟩ := Xr_9.out
    obtain ⟨⟨qw0, qw1, qw2, qw3, qw4⟩, _⟩ := Xw_9.out
    obtain ⟨⟨qx0, qx1, qx2, qx3, qx4⟩, _⟩ := Xx_9.out
    go_wp2_with fail
    clear qr0 qr1 qr2 qr3 qr4
    clear qw0 qw1 qw2 qw3 qw4
    clear qx0 qx1 qx2 qx3 qx4
    go_ret
    exact ⟨rfl, HB9.out⟩
  | true =>
    obtain ⟨⟨qr0, qr1, qr2, qr3, qr4⟩, _⟩ := Xr_7.out
    obtain ⟨⟨qw0, qw1, qw2, qw3, qw4⟩, _⟩ := Xw_7.out
    obtain ⟨⟨qx0, qx1, qx2, qx3, qx4⟩, _⟩ := Xx_7.out
    go_wp2_with fail
    clear qr0 qr1 qr2 qr3 qr4
    clear qw0 qw1 qw2 qw3 qw4
    clear qx0 qx1 qx2 qx3 qx4
    refine (spolok_is Lp hp ap cp _ _ rfl (OwnC.cs Cp_7.out) (by omega)).mono ?_
    rintro en w8 ⟨rfl, b⟩
    have HB8 := Lib.hid (HB7.out.trans (b.mono HB7.out.size))
    have hs8 := Lib.hid b.size
    have Orp_8 := Lib.hid (owni_later Orp_7.out b)
    have Orm_8 := Lib.hid (owni_later Orm_7.out b)
    have Owp_8 := Lib.hid (owni_later Owp_7.out b)
    have Owm_8 := Lib.hid (owni_later Owm_7.out b)
    have Oxp_8 := Lib.hid (owni_later Oxp_7.out b)
    have Oxm_8 := Lib.hid (owni_later Oxm_7.out b)
    have Xr_8 := Lib.hid (At5.below Xr_7.out b)
    have Xw_8 := Lib.hid (At5.below Xw_7.out b)
    have Xx_8 := Lib.hid (At5.below Xx_7.out b)
    have Cp_8 := Lib.hid (ownc_later Cp_7.out b)
    clear b
    cases hr : rtOk (fr, br, Pr, lr, Mr) with
    | false =>
      obtain ⟨⟨qr0, qr1, qr2, qr3, qr4⟩, _⟩ := Xr_8.out
      obtain ⟨⟨qw0, qw1, qw2, qw3, qw4⟩, _⟩ := Xw_8.out
      obtain ⟨⟨qx0, qx1, qx2, qx3, qx4⟩, _⟩ := Xx_8.out
      go_wp2_with fail
      clear qr0 qr1 qr2 qr3 qr4
      clear qw0 qw1 qw2 qw3 qw4
      clear qx0 qx1 qx2 qx3 qx4
      refine (srok_is fr br arp crp (Pr) lr arm crm (Mr) hr _ ⟨⟨(OwnI.intA Orp_8.out).2.2, (OwnI.intA Orm_8.out).2.2⟩, (OwnI.intA Orp_8.out).2.1, (OwnI.intA Orm_8.out).2.1, by omega, by omega⟩).mono ?_
      rintro en w9 ⟨rfl, b⟩
      have HB9 := Lib.hid (HB8.out.trans (b.mono HB8.out.size))
      have hs9 := Lib.hid b.size
      have Orp_9 := Lib.hid (owni_later Orp_8.out b)
      have Orm_9 := Lib.hid (owni_later Orm_8.out b)
      have Owp_9 := Lib.hid (owni_later Owp_8.out b)
      have Owm_9 := Lib.hid (owni_later Owm_8.out b)
      have Oxp_9 := Lib.hid (owni_later Oxp_8.out b)
      have Oxm_9 := Lib.hid (owni_later Oxm_8.out b)
      have Xr_9 := Lib.hid (At5.below Xr_8.out b)
      have Xw_9 := Lib.hid (At5.below Xw_8.out b)
      have Xx_9 := Lib.hid (At5.below Xx_8.out b)
      have Cp_9 := Lib.hid (ownc_later Cp_8.out b)
      clear b
      obtain ⟨⟨qr0, qr1, qr2, qr3, qr4⟩, _⟩ := Xr_9.out
      obtain ⟨⟨qw0, qw1, qw2, qw3, qw4⟩, _⟩ := Xw_9.out
      obtain ⟨⟨qx0, qx1, qx2, qx3, qx4⟩, _⟩ := Xx_9.out
      go_wp2_with fail
      clear qr0 qr1 qr2 qr3 qr4
      clear qw0 qw1 qw2 qw3 qw4
      clear qx0 qx1 qx2 qx3 qx4
      refine (lyrt_is fU bU axp cxp (PU) lU axm cxm (MU) fU bU awp cwp (PU) lU awm cwm (MU) (show decide (((fU, bU, PU, lU, MU) : Rt) = (fU, bU, PU, lU, MU)) = true from decide_eq_true rfl) _ ⟨⟨(OwnI.intA Oxp_9.out).2.2, (OwnI.intA Oxm_9.out).2.2⟩, (OwnI.intA Oxp_9.out).2.1, (OwnI.intA Oxm_9.out).2.1, by omega, by omega⟩ ⟨⟨(OwnI.intA Owp_9.out).2.2, (OwnI.intA Owm_9.out).2.2⟩, (OwnI.intA Owp_9.out).2.1, (OwnI.intA Owm_9.out).2.1, by omega, by omega⟩).mono ?_
      rintro en w10 ⟨rfl, b⟩
      have HB10 := Lib.hid (HB9.out.trans (b.mono HB9.out.size))
      have hs10 := Lib.hid b.size
      have Orp_10 := Lib.hid (owni_later Orp_9.out b)
      have Orm_10 := Lib.hid (owni_later Orm_9.out b)
      have Owp_10 := Lib.hid (owni_later Owp_9.out b)
      have Owm_10 := Lib.hid (owni_later Owm_9.out b)
      have Oxp_10 := Lib.hid (owni_later Oxp_9.out b)
      have Oxm_10 := Lib.hid (owni_later Oxm_9.out b)
      have Xr_10 := Lib.hid (At5.below Xr_9.out b)
      have Xw_10 := Lib.hid (At5.below Xw_9.out b)
      have Xx_10 := Lib.hid (At5.below Xx_9.out b)
      have Cp_10 := Lib.hid (ownc_later Cp_9.out b)
      clear b
      obtain ⟨⟨qr0, qr1, qr2, qr3, qr4⟩, _⟩ := Xr_10.out
      obtain ⟨⟨qw0, qw1, qw2, qw3, qw4⟩, _⟩ := Xw_10.out
      obtain ⟨⟨qx0, qx1, qx2, qx3, qx4⟩, _⟩ := Xx_10.out
      go_wp2_with fail
      clear qr0 qr1 qr2 qr3 qr4
      clear qw0 qw1 qw2 qw3 qw4
      clear qx0 qx1 qx2 qx3 qx4
      go_ret
      exact ⟨rfl, HB10.out⟩
    | true =>
      obtain ⟨⟨qr0, qr1, qr2, qr3, qr4⟩, _⟩ := Xr_8.out
      obtain ⟨⟨qw0, qw1, qw2, qw3, qw4⟩, _⟩ := Xw_8.out
      obtain ⟨⟨qx0, qx1, qx2, qx3, qx4⟩, _⟩ := Xx_8.out
      go_wp2_with fail
      clear qr0 qr1 qr2 qr3 qr4
      clear qw0 qw1 qw2 qw3 qw4
      clear qx0 qx1 qx2 qx3 qx4
      refine (srok_is fr br arp crp (Pr) lr arm crm (Mr) hr _ ⟨⟨(OwnI.intA Orp_8.out).2.2, (OwnI.intA Orm_8.out).2.2⟩, (OwnI.intA Orp_8.out).2.1, (OwnI.intA Orm_8.out).2.1, by omega, by omega⟩).mono ?_
      rintro en w9 ⟨rfl, b⟩
      have HB9 := Lib.hid (HB8.out.trans (b.mono HB8.out.size))
      have hs9 := Lib.hid b.size
      have Orp_9 := Lib.hid (owni_later Orp_8.out b)
      have Orm_9 := Lib.hid (owni_later Orm_8.out b)
      have Owp_9 := Lib.hid (owni_later Owp_8.out b)
      have Owm_9 := Lib.hid (owni_later Owm_8.out b)
      have Oxp_9 := Lib.hid (owni_later Oxp_8.out b)
      have Oxm_9 := Lib.hid (owni_later Oxm_8.out b)
      have Xr_9 := Lib.hid (At5.below Xr_8.out b)
      have Xw_9 := Lib.hid (At5.below Xw_8.out b)
      have Xx_9 := Lib.hid (At5.below Xx_8.out b)
      have Cp_9 := Lib.hid (ownc_later Cp_8.out b)
      clear b
      have h5 : ((Lp.length : Int) == 5) = false := by simp; omega
      have t1 : (len1 : Int).tmod 4 = ((len1 % 4 : Nat) : Int) := by rw [Int.tmod_eq_emod_of_nonneg (by omega)]; omega
      have hr4 : len1 % 4 < 4 := by omega
      generalize len1 % 4 = s at *
      have hw : IntKind.i64.wrap (1 + (s : Int)) = 1 + (s : Int) := by rw [IntKind.wrap_i64]; omega
      have HL2 : Hid (∃ L2 : List CL, L2 = Lp ++ [⟨5, 1 + (s : Int), 0, 0, false, 7, 0, 0⟩]) := Lib.hid ⟨_, rfl⟩
      obtain ⟨L2, hL2⟩ := HL2.out
      have h2l : L2.length ≤ 5 := by rw [hL2]; simp; omega
      have HL := Lib.hid hL2
      obtain ⟨⟨⟨fV, bV, PV, lV, MV⟩, uV⟩, hV⟩ : ∃ z, polDo L2 (fr, br, Pr, lr, Mr) = z := ⟨_, rfl⟩
      have hVl : PV.length ≤ 5 ∧ MV.length ≤ 10 := by have := polDo_len L2 (fr, br, Pr, lr, Mr); rw [hV] at this; exact this
      have HV := Lib.hid hV
      have HH : Hid (∀ (k : Nat) d, Lp[k]? = some d → fitsC d (fr, br, Pr, lr, Mr) = true → (∀ (j : Nat) d, j < k → Lp[j]? = some d → fitsC d (fr, br, Pr, lr, Mr) = false) → (((fV, bV, PV, lV, MV) : Rt), uV) = ((fU, bU, PU, lU, MU), u)) := Lib.hid (fun k d h1 h2 h3 => by rw [← hV, ← HU.out, hL2]; exact polDo_more hp hr (by omega) (by omega) h1 h2 h3)
      have HN0 : Hid ((∀ (j : Nat) d, Lp[j]? = some d → fitsC d (fr, br, Pr, lr, Mr) = false) → polDo [⟨5, 1 + (s : Int), 0, 0, false, 7, 0, 0⟩] (fr, br, Pr, lr, Mr) = ((fV, bV, PV, lV, MV), uV)) := Lib.hid (fun h => by rw [← hV, hL2]; exact (polDo_last hp hr (by omega) (by omega) h).symm)
      clear hL2 hV HL2
      have HB10 := Lib.hid (HB9.out.alloc HB9.out.size (.cells #[.int .i64 5, .int .i64 (1 + (s : Int)), .int .i64 0, .int .i64 0, .bool false, .int .i64 7, .int .i64 0, .int .i64 0] 33))
      have hs10 := Lib.hid (show w9.heap.size + 1 = (w9.alloc (.cells #[.int .i64 5, .int .i64 (1 + (s : Int)), .int .i64 0, .int .i64 0, .bool false, .int .i64 7, .int .i64 0, .int .i64 0] 33)).heap.size by simp)
      have Orp_10 := Lib.hid (World.ownsRow.alloc Orp_9.out (.cells #[.int .i64 5, .int .i64 (1 + (s : Int)), .int .i64 0, .int .i64 0, .bool false, .int .i64 7, .int .i64 0, .int .i64 0] 33))
      have Orm_10 := Lib.hid (World.ownsRow.alloc Orm_9.out (.cells #[.int .i64 5, .int .i64 (1 + (s : Int)), .int .i64 0, .int .i64 0, .bool false, .int .i64 7, .int .i64 0, .int .i64 0] 33))
      have Oxp_10 := Lib.hid (World.ownsRow.alloc Oxp_9.out (.cells #[.int .i64 5, .int .i64 (1 + (s : Int)), .int .i64 0, .int .i64 0, .bool false, .int .i64 7, .int .i64 0, .int .i64 0] 33))
      have Oxm_10 := Lib.hid (World.ownsRow.alloc Oxm_9.out (.cells #[.int .i64 5, .int .i64 (1 + (s : Int)), .int .i64 0, .int .i64 0, .bool false, .int .i64 7, .int .i64 0, .int .i64 0] 33))
      have Xr_10 := Lib.hid (At5.alloc Xr_9.out (.cells #[.int .i64 5, .int .i64 (1 + (s : Int)), .int .i64 0, .int .i64 0, .bool false, .int .i64 7, .int .i64 0, .int .i64 0] 33))
      have Xx_10 := Lib.hid (At5.alloc Xx_9.out (.cells #[.int .i64 5, .int .i64 (1 + (s : Int)), .int .i64 0, .int .i64 0, .bool false, .int .i64 7, .int .i64 0, .int .i64 0] 33))
      have Cp_10 := Lib.hid (World.ownsRow.alloc Cp_9.out (.cells #[.int .i64 5, .int .i64 (1 + (s : Int)), .int .i64 0, .int .i64 0, .bool false, .int .i64 7, .int .i64 0, .int .i64 0] 33))
      have Ac_10 : Hid (AtL (w9.alloc (.cells #[.int .i64 5, .int .i64 (1 + (s : Int)), .int .i64 0, .int .i64 0, .bool false, .int .i64 7, .int .i64 0, .int .i64 0] 33)) w9.heap.size 0 [.int .i64 5, .int .i64 (1 + (s : Int)), .int .i64 0, .int .i64 0, .bool false, .int .i64 7, .int .i64 0, .int .i64 0]) := Lib.hid (AtL.new w9 ⟨5, 1 + (s : Int), 0, 0, false, 7, 0, 0⟩ 33)
      obtain ⟨⟨qx0, qx1, qx2, qx3, qx4⟩, _⟩ := Xx_9.out
      go_upto_region 11 with fail
      clear qx0 qx1 qx2 qx3 qx4
      generalize w9.alloc (.cells #[.int .i64 5, .int .i64 (1 + (s : Int)), .int .i64 0, .int .i64 0, .bool false, .int .i64 7, .int .i64 0, .int .i64 0] 33) = w10 at *
      have HRM : Hid (RtM w10 arp crp Pr arm crm Mr) := Lib.hid ⟨⟨(OwnI.intA Orp_10.out).2.2, (OwnI.intA Orm_10.out).2.2⟩, (OwnI.intA Orp_10.out).2.1, (OwnI.intA Orm_10.out).2.1, by omega, by omega⟩
      go_cut [12, 13] from 17 (fun y one wx => ∃ (Ry : Nat) (ayp : Option Addr) (cyp : Nat) (aym : Option Addr) (cym : Nat), y = .pointer (some ⟨Ry, 0, none⟩) ∧ one = .bool uV ∧ Hid (CutY w10 Ry fV bV lV PV MV ayp cyp aym cym wx))
      case first =>
        refine wp_region_held_drew (S := fun W => ((W.cell? ⟨w9.heap.size, 0, none⟩ = some (.int .i64 5) ∧ W.cell? ⟨w9.heap.size, 1, none⟩ = some (.int .i64 (1 + (s : Int))) ∧ W.cell? ⟨w9.heap.size, 2, none⟩ = some (.int .i64 0) ∧ W.cell? ⟨w9.heap.size, 3, none⟩ = some (.int .i64 0) ∧ W.cell? ⟨w9.heap.size, 4, none⟩ = some (.bool false) ∧ W.cell? ⟨w9.heap.size, 5, none⟩ = some (.int .i64 7) ∧ W.cell? ⟨w9.heap.size, 6, none⟩ = some (.int .i64 0) ∧ W.cell? ⟨w9.heap.size, 7, none⟩ = some (.int .i64 0)) ∧ (W.cell? ⟨w1.heap.size, 0, none⟩ = some (.int .i64 fr) ∧ W.cell? ⟨w1.heap.size, 1, none⟩ = some (.int .i64 br) ∧ W.cell? ⟨w1.heap.size, 2, none⟩ = some (.slice arp (Pr).length crp) ∧ W.cell? ⟨w1.heap.size, 3, none⟩ = some (.int .i64 lr) ∧ W.cell? ⟨w1.heap.size, 4, none⟩ = some (.slice arm (Mr).length crm))) ∧ Hid (Below w10.heap.size w10 W)) (by kernel_rfl) ?_ (fun hHeld => ?_)
        · exact ⟨⟨Ac_10.out.z8.1, Xr_10.out.1⟩, Lib.hid (Below.refl _ w10).drew⟩
        refine takeH (i := 1) (v := ?_) rfl rfl (by kernel_rfl) (by kernel_rfl) (by kernel_rfl) (fun _ _ _ h => h) (by rfl) ?_ (by assumption) ?_
        rotate_left 1
        · intro w hSw
          (try dsimp only at hSw)
          go_simp
          try with_reducible rfl
        try simp only [List.setIfInBounds_toArray, List.set_cons_zero, List.set_cons_succ]
        refine takeH (i := 3) (v := ?_) rfl rfl (by kernel_rfl) (by kernel_rfl) (by kernel_rfl) (fun _ _ _ h => h) (by rfl) ?_ (by assumption) ?_
        rotate_left 1
        · intro w hSw
          (try dsimp only at hSw)
          go_simp
          try with_reducible rfl
        try simp only [List.setIfInBounds_toArray, List.set_cons_zero, List.set_cons_succ]
        refine takeH (i := 6) (v := ?_) rfl rfl (by kernel_rfl) (by kernel_rfl) (by kernel_rfl) (fun _ _ _ h => h) (by rfl) ?_ (by assumption) ?_
        rotate_left 1
        · intro w hSw
          (try dsimp only at hSw)
          go_simp
          try with_reducible rfl
        try simp only [List.setIfInBounds_toArray, List.set_cons_zero, List.set_cons_succ]
        refine wpAnyH_ready (rs := [0, 4, 11]) (by kernel_rfl) (by simp) ?_
        refine AllReadyH.cons rfl (fun K hK => ?_) (AllReadyH.cons rfl (fun K hK => ?_) (AllReadyH.cons rfl (fun K hK => ?_) (AllReadyH.nil)))
        · generalize w10.drew = wz0 at *
          go_simp
          have be1 : Below wz0.heap.size wz0 (wz0.alloc (.cells #[] 33)) := (Below.refl _ _).alloc (Nat.le_refl _) _
          have C_1 := Lib.hid (ownc_empty wz0 w10.heap.size hHeld.2.out.size)
          generalize wz0.alloc (.cells #[] 33) = wz1 at *
          refine hK.out _ _ ?_ (fun hNew => ?_)
          · exact ⟨⟨⟨vcell_far (next hHeld.2.out be1) (AtL.lt Ac_10.out (by show 0 < 8; omega)) Ac_10.out.z8.1.1, vcell_far (next hHeld.2.out be1) (AtL.lt Ac_10.out (by show 0 < 8; omega)) Ac_10.out.z8.1.2.1, vcell_far (next hHeld.2.out be1) (AtL.lt Ac_10.out (by show 0 < 8; omega)) Ac_10.out.z8.1.2.2.1, vcell_far (next hHeld.2.out be1) (AtL.lt Ac_10.out (by show 0 < 8; omega)) Ac_10.out.z8.1.2.2.2.1, vcell_far (next hHeld.2.out be1) (AtL.lt Ac_10.out (by show 0 < 8; omega)) Ac_10.out.z8.1.2.2.2.2.1, vcell_far (next hHeld.2.out be1) (AtL.lt Ac_10.out (by show 0 < 8; omega)) Ac_10.out.z8.1.2.2.2.2.2.1, vcell_far (next hHeld.2.out be1) (AtL.lt Ac_10.out (by show 0 < 8; omega)) Ac_10.out.z8.1.2.2.2.2.2.2.1, vcell_far (next hHeld.2.out be1) (AtL.lt Ac_10.out (by show 0 < 8; omega)) Ac_10.out.z8.1.2.2.2.2.2.2.2⟩, ⟨vcell_far (next hHeld.2.out be1) Xr_10.out.lt Xr_10.out.1.1, vcell_far (next hHeld.2.out be1) Xr_10.out.lt Xr_10.out.1.2.1, vcell_far (next hHeld.2.out be1) Xr_10.out.lt Xr_10.out.1.2.2.1, vcell_far (next hHeld.2.out be1) Xr_10.out.lt Xr_10.out.1.2.2.2.1, vcell_far (next hHeld.2.out be1) Xr_10.out.lt Xr_10.out.1.2.2.2.2⟩⟩, Lib.hid (next hHeld.2.out be1)⟩
          clear hK K hHeld
          have hHeld := hNew
          clear hNew
          try simp only [Act.put, List.setIfInBounds_toArray, List.set_cons_zero, List.set_cons_succ]
          refine wpAnyH_ready (rs := [2, 4, 11]) (by kernel_rfl) (by simp) ?_
          refine AllReadyH.cons rfl (fun K hK => ?_) (AllReadyH.cons rfl (fun K hK => ?_) (AllReadyH.cons rfl (fun K hK => ?_) (AllReadyH.nil)))
          · refine wp_appC (.tmp 78) (.tmp 79) rfl w10.heap.size (.slice (some ⟨wz0.heap.size, 0, none⟩) 0 0) [] (by simp [Act.eval]) C_1.out ap Lp.length cp Lp rfl (by simp [Act.eval]) ((OwnC.cs Cp_10.out).below hHeld.2.out) (by first | omega | (simp; done) | (simp; omega)) hHeld.2.out.size ?_
            intro v2 w902 own2 grow2
            have b2 : Below w10.heap.size w10 w902 := Below.grown hHeld.2.out grow2 hHeld.2.out.size (fun k e => (World.ownsRow.lt C_1.out k e).1)
            replace own2 : OwnC w902 w10.heap.size v2 Lp := own2
            obtain ⟨a2, c2, rfl, _, _⟩ := OwnC.tab own2
            have C_2 := Lib.hid own2
            clear own2 grow2
            generalize w902 = wz2 at *
            try simp only [List.getElem_toArray, List.getElem_cons_succ, List.getElem_cons_zero]
            refine hK.out _ _ ?_ (fun hNew => ?_)
            · exact ⟨⟨⟨vcell_far (b2) (AtL.lt Ac_10.out (by show 0 < 8; omega)) Ac_10.out.z8.1.1, vcell_far (b2) (AtL.lt Ac_10.out (by show 0 < 8; omega)) Ac_10.out.z8.1.2.1, vcell_far (b2) (AtL.lt Ac_10.out (by show 0 < 8; omega)) Ac_10.out.z8.1.2.2.1, vcell_far (b2) (AtL.lt Ac_10.out (by show 0 < 8; omega)) Ac_10.out.z8.1.2.2.2.1, vcell_far (b2) (AtL.lt Ac_10.out (by show 0 < 8; omega)) Ac_10.out.z8.1.2.2.2.2.1, vcell_far (b2) (AtL.lt Ac_10.out (by show 0 < 8; omega)) Ac_10.out.z8.1.2.2.2.2.2.1, vcell_far (b2) (AtL.lt Ac_10.out (by show 0 < 8; omega)) Ac_10.out.z8.1.2.2.2.2.2.2.1, vcell_far (b2) (AtL.lt Ac_10.out (by show 0 < 8; omega)) Ac_10.out.z8.1.2.2.2.2.2.2.2⟩, ⟨vcell_far (b2) Xr_10.out.lt Xr_10.out.1.1, vcell_far (b2) Xr_10.out.lt Xr_10.out.1.2.1, vcell_far (b2) Xr_10.out.lt Xr_10.out.1.2.2.1, vcell_far (b2) Xr_10.out.lt Xr_10.out.1.2.2.2.1, vcell_far (b2) Xr_10.out.lt Xr_10.out.1.2.2.2.2⟩⟩, Lib.hid (b2)⟩
            clear hK K hHeld
            have hHeld := hNew
            clear hNew
            try simp only [Act.put, List.setIfInBounds_toArray, List.set_cons_zero, List.set_cons_succ]
            refine wpAnyH_ready (rs := [4, 11]) (by kernel_rfl) (by simp) ?_
            refine AllReadyH.cons rfl (fun K hK => ?_) (AllReadyH.cons rfl (fun K hK => ?_) (AllReadyH.nil))
            · go_simp
              have be3 : Below wz2.heap.size wz2 (wz2.alloc (.cells #[.int .i64 5, .int .i64 (1 + (s : Int)), .int .i64 0, .int .i64 0, .bool false, .int .i64 7, .int .i64 0, .int .i64 0] 33)) := (Below.refl _ _).alloc (Nat.le_refl _) _
              have C_3 := Lib.hid (ownc_later C_2.out be3)
              have CD_3 := Lib.hid (ownc_one wz2 w10.heap.size hHeld.2.out.size ⟨5, 1 + (s : Int), 0, 0, false, 7, 0, 0⟩)
              change Hid (OwnC (wz2.alloc (.cells #[.int .i64 5, .int .i64 (1 + (s : Int)), .int .i64 0, .int .i64 0, .bool false, .int .i64 7, .int .i64 0, .int .i64 0] 33)) _ _ _) at CD_3
              generalize wz2.alloc (.cells #[.int .i64 5, .int .i64 (1 + (s : Int)), .int .i64 0, .int .i64 0, .bool false, .int .i64 7, .int .i64 0, .int .i64 0] 33) = wz3 at *
              refine hK.out _ _ ?_ (fun hNew => ?_)
              · exact ⟨⟨⟨vcell_far (next hHeld.2.out be3) (AtL.lt Ac_10.out (by show 0 < 8; omega)) Ac_10.out.z8.1.1, vcell_far (next hHeld.2.out be3) (AtL.lt Ac_10.out (by show 0 < 8; omega)) Ac_10.out.z8.1.2.1, vcell_far (next hHeld.2.out be3) (AtL.lt Ac_10.out (by show 0 < 8; omega)) Ac_10.out.z8.1.2.2.1, vcell_far (next hHeld.2.out be3) (AtL.lt Ac_10.out (by show 0 < 8; omega)) Ac_10.out.z8.1.2.2.2.1, vcell_far (next hHeld.2.out be3) (AtL.lt Ac_10.out (by show 0 < 8; omega)) Ac_10.out.z8.1.2.2.2.2.1, vcell_far (next hHeld.2.out be3) (AtL.lt Ac_10.out (by show 0 < 8; omega)) Ac_10.out.z8.1.2.2.2.2.2.1, vcell_far (next hHeld.2.out be3) (AtL.lt Ac_10.out (by show 0 < 8; omega)) Ac_10.out.z8.1.2.2.2.2.2.2.1, vcell_far (next hHeld.2.out be3) (AtL.lt Ac_10.out (by show 0 < 8; omega)) Ac_10.out.z8.1.2.2.2.2.2.2.2⟩, ⟨vcell_far (next hHeld.2.out be3) Xr_10.out.lt Xr_10.out.1.1, vcell_far (next hHeld.2.out be3) Xr_10.out.lt Xr_10.out.1.2.1, vcell_far (next hHeld.2.out be3) Xr_10.out.lt Xr_10.out.1.2.2.1, vcell_far (next hHeld.2.out be3) Xr_10.out.lt Xr_10.out.1.2.2.2.1, vcell_far (next hHeld.2.out be3) Xr_10.out.lt Xr_10.out.1.2.2.2.2⟩⟩, Lib.hid (next hHeld.2.out be3)⟩
              clear hK K hHeld
              have hHeld := hNew
              clear hNew
              try simp only [Act.put, List.setIfInBounds_toArray, List.set_cons_zero, List.set_cons_succ]
              refine wpAnyH_ready (rs := [5, 11]) (by kernel_rfl) (by simp) ?_
              refine AllReadyH.cons rfl (fun K hK => ?_) (AllReadyH.cons rfl (fun K hK => ?_) (AllReadyH.nil))
              · refine wp_appC (.tmp 80) (.tmp 82) rfl w10.heap.size (.slice a2 Lp.length c2) Lp (by simp [Act.eval]) C_3.out (some ⟨wz2.heap.size, 0, none⟩) 1 1 [⟨5, 1 + (s : Int), 0, 0, false, 7, 0, 0⟩] rfl (by simp [Act.eval]) (OwnC.cs CD_3.out) (by first | omega | (simp; done) | (simp; omega)) hHeld.2.out.size ?_
                intro v4 w904 own4 grow4
                have b4 : Below w10.heap.size w10 w904 := Below.grown hHeld.2.out grow4 hHeld.2.out.size (fun k e => (World.ownsRow.lt C_3.out k e).1)
                rw [← HL.out] at own4
                replace own4 : OwnC w904 w10.heap.size v4 L2 := own4
                obtain ⟨a4, c4, rfl, _, _⟩ := OwnC.tab own4
                have C_4 := Lib.hid own4
                clear own4 grow4
                generalize w904 = wz4 at *
                try simp only [List.getElem_toArray, List.getElem_cons_succ, List.getElem_cons_zero]
                refine hK.out _ _ ?_ (fun hNew => ?_)
                · exact ⟨⟨⟨vcell_far (b4) (AtL.lt Ac_10.out (by show 0 < 8; omega)) Ac_10.out.z8.1.1, vcell_far (b4) (AtL.lt Ac_10.out (by show 0 < 8; omega)) Ac_10.out.z8.1.2.1, vcell_far (b4) (AtL.lt Ac_10.out (by show 0 < 8; omega)) Ac_10.out.z8.1.2.2.1, vcell_far (b4) (AtL.lt Ac_10.out (by show 0 < 8; omega)) Ac_10.out.z8.1.2.2.2.1, vcell_far (b4) (AtL.lt Ac_10.out (by show 0 < 8; omega)) Ac_10.out.z8.1.2.2.2.2.1, vcell_far (b4) (AtL.lt Ac_10.out (by show 0 < 8; omega)) Ac_10.out.z8.1.2.2.2.2.2.1, vcell_far (b4) (AtL.lt Ac_10.out (by show 0 < 8; omega)) Ac_10.out.z8.1.2.2.2.2.2.2.1, vcell_far (b4) (AtL.lt Ac_10.out (by show 0 < 8; omega)) Ac_10.out.z8.1.2.2.2.2.2.2.2⟩, ⟨vcell_far (b4) Xr_10.out.lt Xr_10.out.1.1, vcell_far (b4) Xr_10.out.lt Xr_10.out.1.2.1, vcell_far (b4) Xr_10.out.lt Xr_10.out.1.2.2.1, vcell_far (b4) Xr_10.out.lt Xr_10.out.1.2.2.2.1, vcell_far (b4) Xr_10.out.lt Xr_10.out.1.2.2.2.2⟩⟩, Lib.hid (b4)⟩
                clear hK K hHeld
                have hHeld := hNew
                clear hNew
                try simp only [Act.put, List.setIfInBounds_toArray, List.set_cons_zero, List.set_cons_succ]
                refine wpAnyH_ready (rs := [7, 11]) (by kernel_rfl) (by simp) ?_
                refine AllReadyH.cons rfl (fun K hK => ?_) (AllReadyH.cons rfl (fun K hK => ?_) (AllReadyH.nil))
                · go_simp
                  refine (ipoldo_is L2 a4 _ c4 fr br arp crp (Pr) lr arm crm (Mr) HV.out _ p rfl (OwnC.cs C_4.out) (by omega) (HRM.out.below hHeld.2.out) (HE.out.below (HB10.out.trans (hHeld.2.out.mono HB10.out.size)))).mono ?_
                  rintro en wz5 ⟨pv, mv, rfl, S, o, bP, o2, hS, b⟩
                  replace o : OwnI wz5 wz4.heap.size pv PV := o
                  replace o2 : OwnI wz5 S mv MV := o2
                  obtain ⟨ayp, cyp, rfl, _, _⟩ := OwnI.tab o
                  obtain ⟨aym, cym, rfl, _, _⟩ := OwnI.tab o2
                  have C_5 := Lib.hid (ownc_later C_4.out b)
                  have P5 := Lib.hid (owni_mono o hHeld.2.out.size)
                  have M5 := Lib.hid (owni_mono o2 (Nat.le_trans hHeld.2.out.size hS))
                  have b5 := next hHeld.2.out b
                  clear o o2 bP hS b
                  go_wp2_with fail
                  refine hK.out _ _ ?_ (fun hNew => ?_)
                  · exact ⟨⟨⟨vcell_far (b5) (AtL.lt Ac_10.out (by show 0 < 8; omega)) Ac_10.out.z8.1.1, vcell_far (b5) (AtL.lt Ac_10.out (by show 0 < 8; omega)) Ac_10.out.z8.1.2.1, vcell_far (b5) (AtL.lt Ac_10.out (by show 0 < 8; omega)) Ac_10.out.z8.1.2.2.1, vcell_far (b5) (AtL.lt Ac_10.out (by show 0 < 8; omega)) Ac_10.out.z8.1.2.2.2.1, vcell_far (b5) (AtL.lt Ac_10.out (by show 0 < 8; omega)) Ac_10.out.z8.1.2.2.2.2.1, vcell_far (b5) (AtL.lt Ac_10.out (by show 0 < 8; omega)) Ac_10.out.z8.1.2.2.2.2.2.1, vcell_far (b5) (AtL.lt Ac_10.out (by show 0 < 8; omega)) Ac_10.out.z8.1.2.2.2.2.2.2.1, vcell_far (b5) (AtL.lt Ac_10.out (by show 0 < 8; omega)) Ac_10.out.z8.1.2.2.2.2.2.2.2⟩, ⟨vcell_far (b5) Xr_10.out.lt Xr_10.out.1.1, vcell_far (b5) Xr_10.out.lt Xr_10.out.1.2.1, vcell_far (b5) Xr_10.out.lt Xr_10.out.1.2.2.1, vcell_far (b5) Xr_10.out.lt Xr_10.out.1.2.2.2.1, vcell_far (b5) Xr_10.out.lt Xr_10.out.1.2.2.2.2⟩⟩, Lib.hid (b5)⟩
                  clear hK K hHeld
                  have hHeld := hNew
                  clear hNew
                  try simp only [Act.put, List.setIfInBounds_toArray, List.set_cons_zero, List.set_cons_succ]
                  refine takeH (i := 8) (v := ?_) rfl rfl (by kernel_rfl) (by kernel_rfl) (by kernel_rfl) (fun _ _ _ h => h) (by rfl) ?_ (by assumption) ?_
                  rotate_left 1
                  · intro w hSw
                    (try dsimp only at hSw)
                    go_simp
                    try with_reducible rfl
                  try simp only [List.setIfInBounds_toArray, List.set_cons_zero, List.set_cons_succ]
                  refine takeH (i := 9) (v := ?_) rfl rfl (by kernel_rfl) (by kernel_rfl) (by kernel_rfl) (fun _ _ _ h => h) (by rfl) ?_ (by assumption) ?_
                  rotate_left 1
                  · intro w hSw
                    (try dsimp only at hSw)
                    go_simp
                    try with_reducible rfl
                  try simp only [List.setIfInBounds_toArray, List.set_cons_zero, List.set_cons_succ]
                  refine takeH (i := 10) (v := ?_) rfl rfl (by kernel_rfl) (by kernel_rfl) (by kernel_rfl) (fun _ _ _ h => h) (by rfl) ?_ (by assumption) ?_
                  rotate_left 1
                  · intro w hSw
                    (try dsimp only at hSw)
                    go_simp
                    try with_reducible rfl
                  try simp only [List.setIfInBounds_toArray, List.set_cons_zero, List.set_cons_succ]
                  refine wpAnyH_ready (rs := [11]) (by kernel_rfl) (by simp) ?_
                  refine AllReadyH.cons rfl (fun K hK => ?_) (AllReadyH.nil)
                  go_simp
                  have be6 : Below wz5.heap.size wz5 (wz5.alloc (.cells #[.int .i64 0, .int .i64 0, .slice none 0 0, .int .i64 0, .slice none 0 0] 36)) := (Below.refl _ _).alloc (Nat.le_refl _) _
                  have C_6 := Lib.hid (ownc_later C_5.out be6)
                  have P6 := Lib.hid (owni_later P5.out be6)
                  have M6 := Lib.hid (owni_later M5.out be6)
                  have Z6 := Lib.hid (ownw_zero wz5 w10.heap.size hHeld.2.out.size)
                  generalize wz5.alloc (.cells #[.int .i64 0, .int .i64 0, .slice none 0 0, .int .i64 0, .slice none 0 0] 36) = wz6 at *
                  refine hK.out _ _ ?_ (fun hNew => ?_)
                  · exact ⟨⟨⟨vcell_far (next hHeld.2.out be6) (AtL.lt Ac_10.out (by show 0 < 8; omega)) Ac_10.out.z8.1.1, vcell_far (next hHeld.2.out be6) (AtL.lt Ac_10.out (by show 0 < 8; omega)) Ac_10.out.z8.1.2.1, vcell_far (next hHeld.2.out be6) (AtL.lt Ac_10.out (by show 0 < 8; omega)) Ac_10.out.z8.1.2.2.1, vcell_far (next hHeld.2.out be6) (AtL.lt Ac_10.out (by show 0 < 8; omega)) Ac_10.out.z8.1.2.2.2.1, vcell_far (next hHeld.2.out be6) (AtL.lt Ac_10.out (by show 0 < 8; omega)) Ac_10.out.z8.1.2.2.2.2.1, vcell_far (next hHeld.2.out be6) (AtL.lt Ac_10.out (by show 0 < 8; omega)) Ac_10.out.z8.1.2.2.2.2.2.1, vcell_far (next hHeld.2.out be6) (AtL.lt Ac_10.out (by show 0 < 8; omega)) Ac_10.out.z8.1.2.2.2.2.2.2.1, vcell_far (next hHeld.2.out be6) (AtL.lt Ac_10.out (by show 0 < 8; omega)) Ac_10.out.z8.1.2.2.2.2.2.2.2⟩, ⟨vcell_far (next hHeld.2.out be6) Xr_10.out.lt Xr_10.out.1.1, vcell_far (next hHeld.2.out be6) Xr_10.out.lt Xr_10.out.1.2.1, vcell_far (next hHeld.2.out be6) Xr_10.out.lt Xr_10.out.1.2.2.1, vcell_far (next hHeld.2.out be6) Xr_10.out.lt Xr_10.out.1.2.2.2.1, vcell_far (next hHeld.2.out be6) Xr_10.out.lt Xr_10.out.1.2.2.2.2⟩⟩, Lib.hid (next hHeld.2.out be6)⟩
                  clear hK K hHeld
                  have hHeld := hNew
                  clear hNew
                  try simp only [Act.put, List.setIfInBounds_toArray, List.set_cons_zero, List.set_cons_succ]
                  refine wpAnyH_ready (rs := [12]) (by kernel_rfl) (by simp) ?_
                  refine AllReadyH.cons rfl (fun K hK => ?_) (AllReadyH.nil)
                  refine wp_stA 36 (.tmp 12) (.tmp 86) rfl (wz5.heap.size) #[.int .i64 fV, .int .i64 bV, .slice ayp PV.length cyp, .int .i64 lV, .slice aym MV.length cym] (by simp [Act.eval]) (by simp [Act.eval]) (one5a _ _ _ _ _ _ _ _ _) infoR5 _ (OwnW.atl Z6.out) rfl ?_
                  intro wz7 aa gg
                  have HF : Hid (CutY w10 (wz5.heap.size) fV bV lV PV MV ayp cyp aym cym wz7) := Lib.hid (CutY.mk' hHeld.2.out Z6.out P6.out M6.out aa gg)
                  clear aa gg
                  try simp only [List.getElem_toArray, List.getElem_cons_succ, List.getElem_cons_zero]
                  refine hK.out _ _ ?_ (fun hNew => ?_)
                  · exact ⟨⟨⟨vcell_far (HF.out.bel) (AtL.lt Ac_10.out (by show 0 < 8; omega)) Ac_10.out.z8.1.1, vcell_far (HF.out.bel) (AtL.lt Ac_10.out (by show 0 < 8; omega)) Ac_10.out.z8.1.2.1, vcell_far (HF.out.bel) (AtL.lt Ac_10.out (by show 0 < 8; omega)) Ac_10.out.z8.1.2.2.1, vcell_far (HF.out.bel) (AtL.lt Ac_10.out (by show 0 < 8; omega)) Ac_10.out.z8.1.2.2.2.1, vcell_far (HF.out.bel) (AtL.lt Ac_10.out (by show 0 < 8; omega)) Ac_10.out.z8.1.2.2.2.2.1, vcell_far (HF.out.bel) (AtL.lt Ac_10.out (by show 0 < 8; omega)) Ac_10.out.z8.1.2.2.2.2.2.1, vcell_far (HF.out.bel) (AtL.lt Ac_10.out (by show 0 < 8; omega)) Ac_10.out.z8.1.2.2.2.2.2.2.1, vcell_far (HF.out.bel) (AtL.lt Ac_10.out (by show 0 < 8; omega)) Ac_10.out.z8.1.2.2.2.2.2.2.2⟩, ⟨vcell_far (HF.out.bel) Xr_10.out.lt Xr_10.out.1.1, vcell_far (HF.out.bel) Xr_10.out.lt Xr_10.out.1.2.1, vcell_far (HF.out.bel) Xr_10.out.lt Xr_10.out.1.2.2.1, vcell_far (HF.out.bel) Xr_10.out.lt Xr_10.out.1.2.2.2.1, vcell_far (HF.out.bel) Xr_10.out.lt Xr_10.out.1.2.2.2.2⟩⟩, Lib.hid (HF.out.bel)⟩
                  clear hK K hHeld
                  have hHeld := hNew
                  clear hNew
                  try simp only [Act.put, List.setIfInBounds_toArray, List.set_cons_zero, List.set_cons_succ]
                  refine takeH (i := 13) (v := ?_) rfl rfl (by kernel_rfl) (by kernel_rfl) (by kernel_rfl) (fun _ _ _ h => h) (by rfl) ?_ (by assumption) ?_
                  rotate_left 1
                  · intro w hSw
                    (try dsimp only at hSw)
                    go_simp
                    try with_reducible rfl
                  try simp only [List.setIfInBounds_toArray, List.set_cons_zero, List.set_cons_succ]
                  refine wpAnyH_done (by kernel_rfl) ?_ _
                  clear hHeld
                  go_wp2_with fail
                  go_meet
                  exact ⟨_, _, _, _, _, rfl, rfl, HF⟩
                · go_simp
                  have be5 : Below wz4.heap.size wz4 (wz4.alloc (.cells #[.int .i64 0, .int .i64 0, .slice none 0 0, .int .i64 0, .slice none 0 0] 36)) := (Below.refl _ _).alloc (Nat.le_refl _) _
                  have C_5 := Lib.hid (ownc_later C_4.out be5)
                  have Z5 := Lib.hid (ownw_zero wz4 w10.heap.size hHeld.2.out.size)
                  generalize wz4.alloc (.cells #[.int .i64 0, .int .i64 0, .slice none 0 0, .int .i64 0, .slice none 0 0] 36) = wz5 at *
                  refine hK.out _ _ ?_ (fun hNew => ?_)
                  · exact ⟨⟨⟨vcell_far (next hHeld.2.out be5) (AtL.lt Ac_10.out (by show 0 < 8; omega)) Ac_10.out.z8.1.1, vcell_far (next hHeld.2.out be5) (AtL.lt Ac_10.out (by show 0 < 8; omega)) Ac_10.out.z8.1.2.1, vcell_far (next hHeld.2.out be5) (AtL.lt Ac_10.out (by show 0 < 8; omega)) Ac_10.out.z8.1.2.2.1, vcell_far (next hHeld.2.out be5) (AtL.lt Ac_10.out (by show 0 < 8; omega)) Ac_10.out.z8.1.2.2.2.1, vcell_far (next hHeld.2.out be5) (AtL.lt Ac_10.out (by show 0 < 8; omega)) Ac_10.out.z8.1.2.2.2.2.1, vcell_far (next hHeld.2.out be5) (AtL.lt Ac_10.out (by show 0 < 8; omega)) Ac_10.out.z8.1.2.2.2.2.2.1, vcell_far (next hHeld.2.out be5) (AtL.lt Ac_10.out (by show 0 < 8; omega)) Ac_10.out.z8.1.2.2.2.2.2.2.1, vcell_far (next hHeld.2.out be5) (AtL.lt Ac_10.out (by show 0 < 8; omega)) Ac_10.out.z8.1.2.2.2.2.2.2.2⟩, ⟨vcell_far (next hHeld.2.out be5) Xr_10.out.lt Xr_10.out.1.1, vcell_far (next hHeld.2.out be5) Xr_10.out.lt Xr_10.out.1.2.1, vcell_far (next hHeld.2.out be5) Xr_10.out.lt Xr_10.out.1.2.2.1, vcell_far (next hHeld.2.out be5) Xr_10.out.lt Xr_10.out.1.2.2.2.1, vcell_far (next hHeld.2.out be5) Xr_10.out.lt Xr_10.out.1.2.2.2.2⟩⟩, Lib.hid (next hHeld.2.out be5)⟩
                  clear hK K hHeld
                  have hHeld := hNew
                  clear hNew
                  try simp only [Act.put, List.setIfInBounds_toArray, List.set_cons_zero, List.set_cons_succ]
                  refine wpAnyH_ready (rs := [7]) (by kernel_rfl) (by simp) ?_
                  refine AllReadyH.cons rfl (fun K hK => ?_) (AllReadyH.nil)
                  go_simp
                  refine (ipoldo_is L2 a4 _ c4 fr br arp crp (Pr) lr arm crm (Mr) HV.out _ p rfl (OwnC.cs C_5.out) (by omega) (HRM.out.below hHeld.2.out) (HE.out.below (HB10.out.trans (hHeld.2.out.mono HB10.out.size)))).mono ?_
                  rintro en wz6 ⟨pv, mv, rfl, S, o, bP, o2, hS, b⟩
                  replace o : OwnI wz6 wz5.heap.size pv PV := o
                  replace o2 : OwnI wz6 S mv MV := o2
                  obtain ⟨ayp, cyp, rfl, _, _⟩ := OwnI.tab o
                  obtain ⟨aym, cym, rfl, _, _⟩ := OwnI.tab o2
                  have Z6 := Lib.hid (ownw_later Z5.out b)
                  have C_6 := Lib.hid (ownc_later C_5.out b)
                  have P6 := Lib.hid (owni_mono o hHeld.2.out.size)
                  have M6 := Lib.hid (owni_mono o2 (Nat.le_trans hHeld.2.out.size hS))
                  have b6 := next hHeld.2.out b
                  clear o o2 bP hS b
                  go_wp2_with fail
                  refine hK.out _ _ ?_ (fun hNew => ?_)
                  · exact ⟨⟨⟨vcell_far (b6) (AtL.lt Ac_10.out (by show 0 < 8; omega)) Ac_10.out.z8.1.1, vcell_far (b6) (AtL.lt Ac_10.out (by show 0 < 8; omega)) Ac_10.out.z8.1.2.1, vcell_far (b6) (AtL.lt Ac_10.out (by show 0 < 8; omega)) Ac_10.out.z8.1.2.2.1, vcell_far (b6) (AtL.lt Ac_10.out (by show 0 < 8; omega)) Ac_10.out.z8.1.2.2.2.1, vcell_far (b6) (AtL.lt Ac_10.out (by show 0 < 8; omega)) Ac_10.out.z8.1.2.2.2.2.1, vcell_far (b6) (AtL.lt Ac_10.out (by show 0 < 8; omega)) Ac_10.out.z8.1.2.2.2.2.2.1, vcell_far (b6) (AtL.lt Ac_10.out (by show 0 < 8; omega)) Ac_10.out.z8.1.2.2.2.2.2.2.1, vcell_far (b6) (AtL.lt Ac_10.out (by show 0 < 8; omega)) Ac_10.out.z8.1.2.2.2.2.2.2.2⟩, ⟨vcell_far (b6) Xr_10.out.lt Xr_10.out.1.1, vcell_far (b6) Xr_10.out.lt Xr_10.out.1.2.1, vcell_far (b6) Xr_10.out.lt Xr_10.out.1.2.2.1, vcell_far (b6) Xr_10.out.lt Xr_10.out.1.2.2.2.1, vcell_far (b6) Xr_10.out.lt Xr_10.out.1.2.2.2.2⟩⟩, Lib.hid (b6)⟩
                  clear hK K hHeld
                  have hHeld := hNew
                  clear hNew
                  try simp only [Act.put, List.setIfInBounds_toArray, List.set_cons_zero, List.set_cons_succ]
                  refine takeH (i := 8) (v := ?_) rfl rfl (by kernel_rfl) (by kernel_rfl) (by kernel_rfl) (fun _ _ _ h => h) (by rfl) ?_ (by assumption) ?_
                  rotate_left 1
                  · intro w hSw
                    (try dsimp only at hSw)
                    go_simp
                    try with_reducible rfl
                  try simp only [List.setIfInBounds_toArray, List.set_cons_zero, List.set_cons_succ]
                  refine takeH (i := 9) (v := ?_) rfl rfl (by kernel_rfl) (by kernel_rfl) (by kernel_rfl) (fun _ _ _ h => h) (by rfl) ?_ (by assumption) ?_
                  rotate_left 1
                  · intro w hSw
                    (try dsimp only at hSw)
                    go_simp
                    try with_reducible rfl
                  try simp only [List.setIfInBounds_toArray, List.set_cons_zero, List.set_cons_succ]
                  refine takeH (i := 10) (v := ?_) rfl rfl (by kernel_rfl) (by kernel_rfl) (by kernel_rfl) (fun _ _ _ h => h) (by rfl) ?_ (by assumption) ?_
                  rotate_left 1
                  · intro w hSw
                    (try dsimp only at hSw)
                    go_simp
                    try with_reducible rfl
                  try simp only [List.setIfInBounds_toArray, List.set_cons_zero, List.set_cons_succ]
                  refine wpAnyH_ready (rs := [12]) (by kernel_rfl) (by simp) ?_
                  refine AllReadyH.cons rfl (fun K hK => ?_) (AllReadyH.nil)
                  refine wp_stA 36 (.tmp 12) (.tmp 86) rfl (wz4.heap.size) #[.int .i64 fV, .int .i64 bV, .slice ayp PV.length cyp, .int .i64 lV, .slice aym MV.length cym] (by simp [Act.eval]) (by simp [Act.eval]) (one5a _ _ _ _ _ _ _ _ _) infoR5 _ (OwnW.atl Z6.out) rfl ?_
                  intro wz7 aa gg
                  have HF : Hid (CutY w10 (wz4.heap.size) fV bV lV PV MV ayp cyp aym cym wz7) := Lib.hid (CutY.mk' hHeld.2.out Z6.out P6.out M6.out aa gg)
                  clear aa gg
                  try simp only [List.getElem_toArray, List.getElem_cons_succ, List.getElem_cons_zero]
                  refine hK.out _ _ ?_ (fun hNew => ?_)
                  · exact ⟨⟨⟨vcell_far (HF.out.bel) (AtL.lt Ac_10.out (by show 0 < 8; omega)) Ac_10.out.z8.1.1, vcell_far (HF.out.bel) (AtL.lt Ac_10.out (by show 0 < 8; omega)) Ac_10.out.z8.1.2.1, vcell_far (HF.out.bel) (AtL.lt Ac_10.out (by show 0 < 8; omega)) Ac_10.out.z8.1.2.2.1, vcell_far (HF.out.bel) (AtL.lt Ac_10.out (by show 0 < 8; omega)) Ac_10.out.z8.1.2.2.2.1, vcell_far (HF.out.bel) (AtL.lt Ac_10.out (by show 0 < 8; omega)) Ac_10.out.z8.1.2.2.2.2.1, vcell_far (HF.out.bel) (AtL.lt Ac_10.out (by show 0 < 8; omega)) Ac_10.out.z8.1.2.2.2.2.2.1, vcell_far (HF.out.bel) (AtL.lt Ac_10.out (by show 0 < 8; omega)) Ac_10.out.z8.1.2.2.2.2.2.2.1, vcell_far (HF.out.bel) (AtL.lt Ac_10.out (by show 0 < 8; omega)) Ac_10.out.z8.1.2.2.2.2.2.2.2⟩, ⟨vcell_far (HF.out.bel) Xr_10.out.lt Xr_10.out.1.1, vcell_far (HF.out.bel) Xr_10.out.lt Xr_10.out.1.2.1, vcell_far (HF.out.bel) Xr_10.out.lt Xr_10.out.1.2.2.1, vcell_far (HF.out.bel) Xr_10.out.lt Xr_10.out.1.2.2.2.1, vcell_far (HF.out.bel) Xr_10.out.lt Xr_10.out.1.2.2.2.2⟩⟩, Lib.hid (HF.out.bel)⟩
                  clear hK K hHeld
                  have hHeld := hNew
                  clear hNew
                  try simp only [Act.put, List.setIfInBounds_toArray, List.set_cons_zero, List.set_cons_succ]
                  refine takeH (i := 13) (v := ?_) rfl rfl (by kernel_rfl) (by kernel_rfl) (by kernel_rfl) (fun _ _ _ h => h) (by rfl) ?_ (by assumption) ?_
                  rotate_left 1
                  · intro w hSw
                    (try dsimp only at hSw)
                    go_simp
                    try with_reducible rfl
                  try simp only [List.setIfInBounds_toArray, List.set_cons_zero, List.set_cons_succ]
                  refine wpAnyH_done (by kernel_rfl) ?_ _
                  clear hHeld
                  go_wp2_with fail
                  go_meet
                  exact ⟨_, _, _, _, _, rfl, rfl, HF⟩
              · go_simp
                have be4 : Below wz3.heap.size wz3 (wz3.alloc (.cells #[.int .i64 0, .int .i64 0, .slice none 0 0, .int .i64 0, .slice none 0 0] 36)) := (Below.refl _ _).alloc (Nat.le_refl _) _
                have C_4 := Lib.hid (ownc_later C_3.out be4)
                have CD_4 := Lib.hid (ownc_later CD_3.out be4)
                have Z4 := Lib.hid (ownw_zero wz3 w10.heap.size hHeld.2.out.size)
                generalize wz3.alloc (.cells #[.int .i64 0, .int .i64 0, .slice none 0 0, .int .i64 0, .slice none 0 0] 36) = wz4 at *
                refine hK.out _ _ ?_ (fun hNew => ?_)
                · exact ⟨⟨⟨vcell_far (next hHeld.2.out be4) (AtL.lt Ac_10.out (by show 0 < 8; omega)) Ac_10.out.z8.1.1, vcell_far (next hHeld.2.out be4) (AtL.lt Ac_10.out (by show 0 < 8; omega)) Ac_10.out.z8.1.2.1, vcell_far (next hHeld.2.out be4) (AtL.lt Ac_10.out (by show 0 < 8; omega)) Ac_10.out.z8.1.2.2.1, vcell_far (next hHeld.2.out be4) (AtL.lt Ac_10.out (by show 0 < 8; omega)) Ac_10.out.z8.1.2.2.2.1, vcell_far (next hHeld.2.out be4) (AtL.lt Ac_10.out (by show 0 < 8; omega)) Ac_10.out.z8.1.2.2.2.2.1, vcell_far (next hHeld.2.out be4) (AtL.lt Ac_10.out (by show 0 < 8; omega)) Ac_10.out.z8.1.2.2.2.2.2.1, vcell_far (next hHeld.2.out be4) (AtL.lt Ac_10.out (by show 0 < 8; omega)) Ac_10.out.z8.1.2.2.2.2.2.2.1, vcell_far (next hHeld.2.out be4) (AtL.lt Ac_10.out (by show 0 < 8; omega)) Ac_10.out.z8.1.2.2.2.2.2.2.2⟩, ⟨vcell_far (next hHeld.2.out be4) Xr_10.out.lt Xr_10.out.1.1, vcell_far (next hHeld.2.out be4) Xr_10.out.lt Xr_10.out.1.2.1, vcell_far (next hHeld.2.out be4) Xr_10.out.lt Xr_10.out.1.2.2.1, vcell_far (next hHeld.2.out be4) Xr_10.out.lt Xr_10.out.1.2.2.2.1, vcell_far (next hHeld.2.out be4) Xr_10.out.lt Xr_10.out.1.2.2.2.2⟩⟩, Lib.hid (next hHeld.2.out be4)⟩
                clear hK K hHeld
                have hHeld := hNew
                clear hNew
                try simp only [Act.put, List.setIfInBounds_toArray, List.set_cons_zero, List.set_cons_succ]
                refine wpAnyH_ready (rs := [5]) (by kernel_rfl) (by simp) ?_
                refine AllReadyH.cons rfl (fun K hK => ?_) (AllReadyH.nil)
                refine wp_appC (.tmp 80) (.tmp 82) rfl w10.heap.size (.slice a2 Lp.length c2) Lp (by simp [Act.eval]) C_4.out (some ⟨wz2.heap.size, 0, none⟩) 1 1 [⟨5, 1 + (s : Int), 0, 0, false, 7, 0, 0⟩] rfl (by simp [Act.eval]) (OwnC.cs CD_4.out) (by first | omega | (simp; done) | (simp; omega)) hHeld.2.out.size ?_
                intro v5 w905 own5 grow5
                have b5 : Below w10.heap.size w10 w905 := Below.grown hHeld.2.out grow5 hHeld.2.out.size (fun k e => (World.ownsRow.lt C_4.out k e).1)
                have Z5 := Lib.hid (World.ownsRow.kept Z4.out grow5 (rows_apart Z4.out C_4.out (by decide)))
                rw [← HL.out] at own5
                replace own5 : OwnC w905 w10.heap.size v5 L2 := own5
                obtain ⟨a5, c5, rfl, _, _⟩ := OwnC.tab own5
                have C_5 := Lib.hid own5
                clear own5 grow5
                generalize w905 = wz5 at *
                try simp only [List.getElem_toArray, List.getElem_cons_succ, List.getElem_cons_zero]
                refine hK.out _ _ ?_ (fun hNew => ?_)
                · exact ⟨⟨⟨vcell_far (b5) (AtL.lt Ac_10.out (by show 0 < 8; omega)) Ac_10.out.z8.1.1, vcell_far (b5) (AtL.lt Ac_10.out (by show 0 < 8; omega)) Ac_10.out.z8.1.2.1, vcell_far (b5) (AtL.lt Ac_10.out (by show 0 < 8; omega)) Ac_10.out.z8.1.2.2.1, vcell_far (b5) (AtL.lt Ac_10.out (by show 0 < 8; omega)) Ac_10.out.z8.1.2.2.2.1, vcell_far (b5) (AtL.lt Ac_10.out (by show 0 < 8; omega)) Ac_10.out.z8.1.2.2.2.2.1, vcell_far (b5) (AtL.lt Ac_10.out (by show 0 < 8; omega)) Ac_10.out.z8.1.2.2.2.2.2.1, vcell_far (b5) (AtL.lt Ac_10.out (by show 0 < 8; omega)) Ac_10.out.z8.1.2.2.2.2.2.2.1, vcell_far (b5) (AtL.lt Ac_10.out (by show 0 < 8; omega)) Ac_10.out.z8.1.2.2.2.2.2.2.2⟩, ⟨vcell_far (b5) Xr_10.out.lt Xr_10.out.1.1, vcell_far (b5) Xr_10.out.lt Xr_10.out.1.2.1, vcell_far (b5) Xr_10.out.lt Xr_10.out.1.2.2.1, vcell_far (b5) Xr_10.out.lt Xr_10.out.1.2.2.2.1, vcell_far (b5) Xr_10.out.lt Xr_10.out.1.2.2.2.2⟩⟩, Lib.hid (b5)⟩
                clear hK K hHeld
                have hHeld := hNew
                clear hNew
                try simp only [Act.put, List.setIfInBounds_toArray, List.set_cons_zero, List.set_cons_succ]
                refine wpAnyH_ready (rs := [7]) (by kernel_rfl) (by simp) ?_
                refine AllReadyH.cons rfl (fun K hK => ?_) (AllReadyH.nil)
                go_simp
                refine (ipoldo_is L2 a5 _ c5 fr br arp crp (Pr) lr arm crm (Mr) HV.out _ p rfl (OwnC.cs C_5.out) (by omega) (HRM.out.below hHeld.2.out) (HE.out.below (HB10.out.trans (hHeld.2.out.mono HB10.out.size)))).mono ?_
                rintro en wz6 ⟨pv, mv, rfl, S, o, bP, o2, hS, b⟩
                replace o : OwnI wz6 wz5.heap.size pv PV := o
                replace o2 : OwnI wz6 S mv MV := o2
                obtain ⟨ayp, cyp, rfl, _, _⟩ := OwnI.tab o
                obtain ⟨aym, cym, rfl, _, _⟩ := OwnI.tab o2
                have Z6 := Lib.hid (ownw_later Z5.out b)
                have C_6 := Lib.hid (ownc_later C_5.out b)
                have P6 := Lib.hid (owni_mono o hHeld.2.out.size)
                have M6 := Lib.hid (owni_mono o2 (Nat.le_trans hHeld.2.out.size hS))
                have b6 := next hHeld.2.out b
                clear o o2 bP hS b
                go_wp2_with fail
                refine hK.out _ _ ?_ (fun hNew => ?_)
                · exact ⟨⟨⟨vcell_far (b6) (AtL.lt Ac_10.out (by show 0 < 8; omega)) Ac_10.out.z8.1.1, vcell_far (b6) (AtL.lt Ac_10.out (by show 0 < 8; omega)) Ac_10.out.z8.1.2.1, vcell_far (b6) (AtL.lt Ac_10.out (by show 0 < 8; omega)) Ac_10.out.z8.1.2.2.1, vcell_far (b6) (AtL.lt Ac_10.out (by show 0 < 8; omega)) Ac_10.out.z8.1.2.2.2.1, vcell_far (b6) (AtL.lt Ac_10.out (by show 0 < 8; omega)) Ac_10.out.z8.1.2.2.2.2.1, vcell_far (b6) (AtL.lt Ac_10.out (by show 0 < 8; omega)) Ac_10.out.z8.1.2.2.2.2.2.1, vcell_far (b6) (AtL.lt Ac_10.out (by show 0 < 8; omega)) Ac_10.out.z8.1.2.2.2.2.2.2.1, vcell_far (b6) (AtL.lt Ac_10.out (by show 0 < 8; omega)) Ac_10.out.z8.1.2.2.2.2.2.2.2⟩, ⟨vcell_far (b6) Xr_10.out.lt Xr_10.out.1.1, vcell_far (b6) Xr_10.out.lt Xr_10.out.1.2.1, vcell_far (b6) Xr_10.out.lt Xr_10.out.1.2.2.1, vcell_far (b6) Xr_10.out.lt Xr_10.out.1.2.2.2.1, vcell_far (b6) Xr_10.out.lt Xr_10.out.1.2.2.2.2⟩⟩, Lib.hid (b6)⟩
                clear hK K hHeld
                have hHeld := hNew
                clear hNew
                try simp only [Act.put, List.setIfInBounds_toArray, List.set_cons_zero, List.set_cons_succ]
                refine takeH (i := 8) (v := ?_) rfl rfl (by kernel_rfl) (by kernel_rfl) (by kernel_rfl) (fun _ _ _ h => h) (by rfl) ?_ (by assumption) ?_
                rotate_left 1
                · intro w hSw
                  (try dsimp only at hSw)
                  go_simp
                  try with_reducible rfl
                try simp only [List.setIfInBounds_toArray, List.set_cons_zero, List.set_cons_succ]
                refine takeH (i := 9) (v := ?_) rfl rfl (by kernel_rfl) (by kernel_rfl) (by kernel_rfl) (fun _ _ _ h => h) (by rfl) ?_ (by assumption) ?_
                rotate_left 1
                · intro w hSw
                  (try dsimp only at hSw)
                  go_simp
                  try with_reducible rfl
                try simp only [List.setIfInBounds_toArray, List.set_cons_zero, List.set_cons_succ]
                refine takeH (i := 10) (v := ?_) rfl rfl (by kernel_rfl) (by kernel_rfl) (by kernel_rfl) (fun _ _ _ h => h) (by rfl) ?_ (by assumption) ?_
                rotate_left 1
                · intro w hSw
                  (try dsimp only at hSw)
                  go_simp
                  try with_reducible rfl
                try simp only [List.setIfInBounds_toArray, List.set_cons_zero, List.set_cons_succ]
                refine wpAnyH_ready (rs := [12]) (by kernel_rfl) (by simp) ?_
                refine AllReadyH.cons rfl (fun K hK => ?_) (AllReadyH.nil)
                refine wp_stA 36 (.tmp 12) (.tmp 86) rfl (wz3.heap.size) #[.int .i64 fV, .int .i64 bV, .slice ayp PV.length cyp, .int .i64 lV, .slice aym MV.length cym] (by simp [Act.eval]) (by simp [Act.eval]) (one5a _ _ _ _ _ _ _ _ _) infoR5 _ (OwnW.atl Z6.out) rfl ?_
                intro wz7 aa gg
                have HF : Hid (CutY w10 (wz3.heap.size) fV bV lV PV MV ayp cyp aym cym wz7) := Lib.hid (CutY.mk' hHeld.2.out Z6.out P6.out M6.out aa gg)
                clear aa gg
                try simp only [List.getElem_toArray, List.getElem_cons_succ, List.getElem_cons_zero]
                refine hK.out _ _ ?_ (fun hNew => ?_)
                · exact ⟨⟨⟨vcell_far (HF.out.bel) (AtL.lt Ac_10.out (by show 0 < 8; omega)) Ac_10.out.z8.1.1, vcell_far (HF.out.bel) (AtL.lt Ac_10.out (by show 0 < 8; omega)) Ac_10.out.z8.1.2.1, vcell_far (HF.out.bel) (AtL.lt Ac_10.out (by show 0 < 8; omega)) Ac_10.out.z8.1.2.2.1, vcell_far (HF.out.bel) (AtL.lt Ac_10.out (by show 0 < 8; omega)) Ac_10.out.z8.1.2.2.2.1, vcell_far (HF.out.bel) (AtL.lt Ac_10.out (by show 0 < 8; omega)) Ac_10.out.z8.1.2.2.2.2.1, vcell_far (HF.out.bel) (AtL.lt Ac_10.out (by show 0 < 8; omega)) Ac_10.out.z8.1.2.2.2.2.2.1, vcell_far (HF.out.bel) (AtL.lt Ac_10.out (by show 0 < 8; omega)) Ac_10.out.z8.1.2.2.2.2.2.2.1, vcell_far (HF.out.bel) (AtL.lt Ac_10.out (by show 0 < 8; omega)) Ac_10.out.z8.1.2.2.2.2.2.2.2⟩, ⟨vcell_far (HF.out.bel) Xr_10.out.lt Xr_10.out.1.1, vcell_far (HF.out.bel) Xr_10.out.lt Xr_10.out.1.2.1, vcell_far (HF.out.bel) Xr_10.out.lt Xr_10.out.1.2.2.1, vcell_far (HF.out.bel) Xr_10.out.lt Xr_10.out.1.2.2.2.1, vcell_far (HF.out.bel) Xr_10.out.lt Xr_10.out.1.2.2.2.2⟩⟩, Lib.hid (HF.out.bel)⟩
                clear hK K hHeld
                have hHeld := hNew
                clear hNew
                try simp only [Act.put, List.setIfInBounds_toArray, List.set_cons_zero, List.set_cons_succ]
                refine takeH (i := 13) (v := ?_) rfl rfl (by kernel_rfl) (by kernel_rfl) (by kernel_rfl) (fun _ _ _ h => h) (by rfl) ?_ (by assumption) ?_
                rotate_left 1
                · intro w hSw
                  (try dsimp only at hSw)
                  go_simp
                  try with_reducible rfl
                try simp only [List.setIfInBounds_toArray, List.set_cons_zero, List.set_cons_succ]
                refine wpAnyH_done (by kernel_rfl) ?_ _
                clear hHeld
                go_wp2_with fail
                go_meet
                exact ⟨_, _, _, _, _, rfl, rfl, HF⟩
            · go_simp
              have be3 : Below wz2.heap.size wz2 (wz2.alloc (.cells #[.int .i64 0, .int .i64 0, .slice none 0 0, .int .i64 0, .slice none 0 0] 36)) := (Below.refl _ _).alloc (Nat.le_refl _) _
              have C_3 := Lib.hid (ownc_later C_2.out be3)
              have Z3 := Lib.hid (ownw_zero wz2 w10.heap.size hHeld.2.out.size)
              generalize wz2.alloc (.cells #[.int .i64 0, .int .i64 0, .slice none 0 0, .int .i64 0, .slice none 0 0] 36) = wz3 at *
              refine hK.out _ _ ?_ (fun hNew => ?_)
              · exact ⟨⟨⟨vcell_far (next hHeld.2.out be3) (AtL.lt Ac_10.out (by show 0 < 8; omega)) Ac_10.out.z8.1.1, vcell_far (next hHeld.2.out be3) (AtL.lt Ac_10.out (by show 0 < 8; omega)) Ac_10.out.z8.1.2.1, vcell_far (next hHeld.2.out be3) (AtL.lt Ac_10.out (by show 0 < 8; omega)) Ac_10.out.z8.1.2.2.1, vcell_far (next hHeld.2.out be3) (AtL.lt Ac_10.out (by show 0 < 8; omega)) Ac_10.out.z8.1.2.2.2.1, vcell_far (next hHeld.2.out be3) (AtL.lt Ac_10.out (by show 0 < 8; omega)) Ac_10.out.z8.1.2.2.2.2.1, vcell_far (next hHeld.2.out be3) (AtL.lt Ac_10.out (by show 0 < 8; omega)) Ac_10.out.z8.1.2.2.2.2.2.1, vcell_far (next hHeld.2.out be3) (AtL.lt Ac_10.out (by show 0 < 8; omega)) Ac_10.out.z8.1.2.2.2.2.2.2.1, vcell_far (next hHeld.2.out be3) (AtL.lt Ac_10.out (by show 0 < 8; omega)) Ac_10.out.z8.1.2.2.2.2.2.2.2⟩, ⟨vcell_far (next hHeld.2.out be3) Xr_10.out.lt Xr_10.out.1.1, vcell_far (next hHeld.2.out be3) Xr_10.out.lt Xr_10.out.1.2.1, vcell_far (next hHeld.2.out be3) Xr_10.out.lt Xr_10.out.1.2.2.1, vcell_far (next hHeld.2.out be3) Xr_10.out.lt Xr_10.out.1.2.2.2.1, vcell_far (next hHeld.2.out be3) Xr_10.out.lt Xr_10.out.1.2.2.2.2⟩⟩, Lib.hid (next hHeld.2.out be3)⟩
              clear hK K hHeld
              have hHeld := hNew
              clear hNew
              try simp only [Act.put, List.setIfInBounds_toArray, List.set_cons_zero, List.set_cons_succ]
              refine wpAnyH_ready (rs := [4]) (by kernel_rfl) (by simp) ?_
              refine AllReadyH.cons rfl (fun K hK => ?_) (AllReadyH.nil)
              go_simp
              have be4 : Below wz3.heap.size wz3 (wz3.alloc (.cells #[.int .i64 5, .int .i64 (1 + (s : Int)), .int .i64 0, .int .i64 0, .bool false, .int .i64 7, .int .i64 0, .int .i64 0] 33)) := (Below.refl _ _).alloc (Nat.le_refl _) _
              have Z4 := Lib.hid (ownw_later Z3.out be4)
              have C_4 := Lib.hid (ownc_later C_3.out be4)
              have CD_4 := Lib.hid (ownc_one wz3 w10.heap.size hHeld.2.out.size ⟨5, 1 + (s : Int), 0, 0, false, 7, 0, 0⟩)
              change Hid (OwnC (wz3.alloc (.cells #[.int .i64 5, .int .i64 (1 + (s : Int)), .int .i64 0, .int .i64 0, .bool false, .int .i64 7, .int .i64 0, .int .i64 0] 33)) _ _ _) at CD_4
              generalize wz3.alloc (.cells #[.int .i64 5, .int .i64 (1 + (s : Int)), .int .i64 0, .int .i64 0, .bool false, .int .i64 7, .int .i64 0, .int .i64 0] 33) = wz4 at *
              refine hK.out _ _ ?_ (fun hNew => ?_)
              · exact ⟨⟨⟨vcell_far (next hHeld.2.out be4) (AtL.lt Ac_10.out (by show 0 < 8; omega)) Ac_10.out.z8.1.1, vcell_far (next hHeld.2.out be4) (AtL.lt Ac_10.out (by show 0 < 8; omega)) Ac_10.out.z8.1.2.1, vcell_far (next hHeld.2.out be4) (AtL.lt Ac_10.out (by show 0 < 8; omega)) Ac_10.out.z8.1.2.2.1, vcell_far (next hHeld.2.out be4) (AtL.lt Ac_10.out (by show 0 < 8; omega)) Ac_10.out.z8.1.2.2.2.1, vcell_far (next hHeld.2.out be4) (AtL.lt Ac_10.out (by show 0 < 8; omega)) Ac_10.out.z8.1.2.2.2.2.1, vcell_far (next hHeld.2.out be4) (AtL.lt Ac_10.out (by show 0 < 8; omega)) Ac_10.out.z8.1.2.2.2.2.2.1, vcell_far (next hHeld.2.out be4) (AtL.lt Ac_10.out (by show 0 < 8; omega)) Ac_10.out.z8.1.2.2.2.2.2.2.1, vcell_far (next hHeld.2.out be4) (AtL.lt Ac_10.out (by show 0 < 8; omega)) Ac_10.out.z8.1.2.2.2.2.2.2.2⟩, ⟨vcell_far (next hHeld.2.out be4) Xr_10.out.lt Xr_10.out.1.1, vcell_far (next hHeld.2.out be4) Xr_10.out.lt Xr_10.out.1.2.1, vcell_far (next hHeld.2.out be4) Xr_10.out.lt Xr_10.out.1.2.2.1, vcell_far (next hHeld.2.out be4) Xr_10.out.lt Xr_10.out.1.2.2.2.1, vcell_far (next hHeld.2.out be4) Xr_10.out.lt Xr_10.out.1.2.2.2.2⟩⟩, Lib.hid (next hHeld.2.out be4)⟩
              clear hK K hHeld
              have hHeld := hNew
              clear hNew
              try simp only [Act.put, List.setIfInBounds_toArray, List.set_cons_zero, List.set_cons_succ]
              refine wpAnyH_ready (rs := [5]) (by kernel_rfl) (by simp) ?_
              refine AllReadyH.cons rfl (fun K hK => ?_) (AllReadyH.nil)
              refine wp_appC (.tmp 80) (.tmp 82) rfl w10.heap.size (.slice a2 Lp.length c2) Lp (by simp [Act.eval]) C_4.out (some ⟨wz3.heap.size, 0, none⟩) 1 1 [⟨5, 1 + (s : Int), 0, 0, false, 7, 0, 0⟩] rfl (by simp [Act.eval]) (OwnC.cs CD_4.out) (by first | omega | (simp; done) | (simp; omega)) hHeld.2.out.size ?_
              intro v5 w905 own5 grow5
              have b5 : Below w10.heap.size w10 w905 := Below.grown hHeld.2.out grow5 hHeld.2.out.size (fun k e => (World.ownsRow.lt C_4.out k e).1)
              have Z5 := Lib.hid (World.ownsRow.kept Z4.out grow5 (rows_apart Z4.out C_4.out (by decide)))
              rw [← HL.out] at own5
              replace own5 : OwnC w905 w10.heap.size v5 L2 := own5
              obtain ⟨a5, c5, rfl, _, _⟩ := OwnC.tab own5
              have C_5 := Lib.hid own5
              clear own5 grow5
              generalize w905 = wz5 at *
              try simp only [List.getElem_toArray, List.getElem_cons_succ, List.getElem_cons_zero]
              refine hK.out _ _ ?_ (fun hNew => ?_)
              · exact ⟨⟨⟨vcell_far (b5) (AtL.lt Ac_10.out (by show 0 < 8; omega)) Ac_10.out.z8.1.1, vcell_far (b5) (AtL.lt Ac_10.out (by show 0 < 8; omega)) Ac_10.out.z8.1.2.1, vcell_far (b5) (AtL.lt Ac_10.out (by show 0 < 8; omega)) Ac_10.out.z8.1.2.2.1, vcell_far (b5) (AtL.lt Ac_10.out (by show 0 < 8; omega)) Ac_10.out.z8.1.2.2.2.1, vcell_far (b5) (AtL.lt Ac_10.out (by show 0 < 8; omega)) Ac_10.out.z8.1.2.2.2.2.1, vcell_far (b5) (AtL.lt Ac_10.out (by show 0 < 8; omega)) Ac_10.out.z8.1.2.2.2.2.2.1, vcell_far (b5) (AtL.lt Ac_10.out (by show 0 < 8; omega)) Ac_10.out.z8.1.2.2.2.2.2.2.1, vcell_far (b5) (AtL.lt Ac_10.out (by show 0 < 8; omega)) Ac_10.out.z8.1.2.2.2.2.2.2.2⟩, ⟨vcell_far (b5) Xr_10.out.lt Xr_10.out.1.1, vcell_far (b5) Xr_10.out.lt Xr_10.out.1.2.1, vcell_far (b5) Xr_10.out.lt Xr_10.out.1.2.2.1, vcell_far (b5) Xr_10.out.lt Xr_10.out.1.2.2.2.1, vcell_far (b5) Xr_10.out.lt Xr_10.out.1.2.2.2.2⟩⟩, Lib.hid (b5)⟩
              clear hK K hHeld
              have hHeld := hNew
              clear hNew
              try simp only [Act.put, List.setIfInBounds_toArray, List.set_cons_zero, List.set_cons_succ]
              refine wpAnyH_ready (rs := [7]) (by kernel_rfl) (by simp) ?_
              refine AllReadyH.cons rfl (fun K hK => ?_) (AllReadyH.nil)
              go_simp
              refine (ipoldo_is L2 a5 _ c5 fr br arp crp (Pr) lr arm crm (Mr) HV.out _ p rfl (OwnC.cs C_5.out) (by omega) (HRM.out.below hHeld.2.out) (HE.out.below (HB10.out.trans (hHeld.2.out.mono HB10.out.size)))).mono ?_
              rintro en wz6 ⟨pv, mv, rfl, S, o, bP, o2, hS, b⟩
              replace o : OwnI wz6 wz5.heap.size pv PV := o
              replace o2 : OwnI wz6 S mv MV := o2
              obtain ⟨ayp, cyp, rfl, _, _⟩ := OwnI.tab o
              obtain ⟨aym, cym, rfl, _, _⟩ := OwnI.tab o2
              have Z6 := Lib.hid (ownw_later Z5.out b)
              have C_6 := Lib.hid (ownc_later C_5.out b)
              have P6 := Lib.hid (owni_mono o hHeld.2.out.size)
              have M6 := Lib.hid (owni_mono o2 (Nat.le_trans hHeld.2.out.size hS))
              have b6 := next hHeld.2.out b
              clear o o2 bP hS b
              go_wp2_with fail
              refine hK.out _ _ ?_ (fun hNew => ?_)
              · exact ⟨⟨⟨vcell_far (b6) (AtL.lt Ac_10.out (by show 0 < 8; omega)) Ac_10.out.z8.1.1, vcell_far (b6) (AtL.lt Ac_10.out (by show 0 < 8; omega)) Ac_10.out.z8.1.2.1, vcell_far (b6) (AtL.lt Ac_10.out (by show 0 < 8; omega)) Ac_10.out.z8.1.2.2.1, vcell_far (b6) (AtL.lt Ac_10.out (by show 0 < 8; omega)) Ac_10.out.z8.1.2.2.2.1, vcell_far (b6) (AtL.lt Ac_10.out (by show 0 < 8; omega)) Ac_10.out.z8.1.2.2.2.2.1, vcell_far (b6) (AtL.lt Ac_10.out (by show 0 < 8; omega)) Ac_10.out.z8.1.2.2.2.2.2.1, vcell_far (b6) (AtL.lt Ac_10.out (by show 0 < 8; omega)) Ac_10.out.z8.1.2.2.2.2.2.2.1, vcell_far (b6) (AtL.lt Ac_10.out (by show 0 < 8; omega)) Ac_10.out.z8.1.2.2.2.2.2.2.2⟩, ⟨vcell_far (b6) Xr_10.out.lt Xr_10.out.1.1, vcell_far (b6) Xr_10.out.lt Xr_10.out.1.2.1, vcell_far (b6) Xr_10.out.lt Xr_10.out.1.2.2.1, vcell_far (b6) Xr_10.out.lt Xr_10.out.1.2.2.2.1, vcell_far (b6) Xr_10.out.lt Xr_10.out.1.2.2.2.2⟩⟩, Lib.hid (b6)⟩
              clear hK K hHeld
              have hHeld := hNew
              clear hNew
              try simp only [Act.put, List.setIfInBounds_toArray, List.set_cons_zero, List.set_cons_succ]
              refine takeH (i := 8) (v := ?_) rfl rfl (by kernel_rfl) (by kernel_rfl) (by kernel_rfl) (fun _ _ _ h => h) (by rfl) ?_ (by assumption) ?_
              rotate_left 1
              · intro w hSw
                (try dsimp only at hSw)
                go_simp
                try with_reducible rfl
              try simp only [List.setIfInBounds_toArray, List.set_cons_zero, List.set_cons_succ]
              refine takeH (i := 9) (v := ?_) rfl rfl (by kernel_rfl) (by kernel_rfl) (by kernel_rfl) (fun _ _ _ h => h) (by rfl) ?_ (by assumption) ?_
              rotate_left 1
              · intro w hSw
                (try dsimp only at hSw)
                go_simp
                try with_reducible rfl
              try simp only [List.setIfInBounds_toArray, List.set_cons_zero, List.set_cons_succ]
              refine takeH (i := 10) (v := ?_) rfl rfl (by kernel_rfl) (by kernel_rfl) (by kernel_rfl) (fun _ _ _ h => h) (by rfl) ?_ (by assumption) ?_
              rotate_left 1
              · intro w hSw
                (try dsimp only at hSw)
                go_simp
                try with_reducible rfl
              try simp only [List.setIfInBounds_toArray, List.set_cons_zero, List.set_cons_succ]
              refine wpAnyH_ready (rs := [12]) (by kernel_rfl) (by simp) ?_
              refine AllReadyH.cons rfl (fun K hK => ?_) (AllReadyH.nil)
              refine wp_stA 36 (.tmp 12) (.tmp 86) rfl (wz2.heap.size) #[.int .i64 fV, .int .i64 bV, .slice ayp PV.length cyp, .int .i64 lV, .slice aym MV.length cym] (by simp [Act.eval]) (by simp [Act.eval]) (one5a _ _ _ _ _ _ _ _ _) infoR5 _ (OwnW.atl Z6.out) rfl ?_
              intro wz7 aa gg
              have HF : Hid (CutY w10 (wz2.heap.size) fV bV lV PV MV ayp cyp aym cym wz7) := Lib.hid (CutY.mk' hHeld.2.out Z6.out P6.out M6.out aa gg)
              clear aa gg
              try simp only [List.getElem_toArray, List.getElem_cons_succ, List.getElem_cons_zero]
              refine hK.out _ _ ?_ (fun hNew => ?_)
              · exact ⟨⟨⟨vcell_far (HF.out.bel) (AtL.lt Ac_10.out (by show 0 < 8; omega)) Ac_10.out.z8.1.1, vcell_far (HF.out.bel) (AtL.lt Ac_10.out (by show 0 < 8; omega)) Ac_10.out.z8.1.2.1, vcell_far (HF.out.bel) (AtL.lt Ac_10.out (by show 0 < 8; omega)) Ac_10.out.z8.1.2.2.1, vcell_far (HF.out.bel) (AtL.lt Ac_10.out (by show 0 < 8; omega)) Ac_10.out.z8.1.2.2.2.1, vcell_far (HF.out.bel) (AtL.lt Ac_10.out (by show 0 < 8; omega)) Ac_10.out.z8.1.2.2.2.2.1, vcell_far (HF.out.bel) (AtL.lt Ac_10.out (by show 0 < 8; omega)) Ac_10.out.z8.1.2.2.2.2.2.1, vcell_far (HF.out.bel) (AtL.lt Ac_10.out (by show 0 < 8; omega)) Ac_10.out.z8.1.2.2.2.2.2.2.1, vcell_far (HF.out.bel) (AtL.lt Ac_10.out (by show 0 < 8; omega)) Ac_10.out.z8.1.2.2.2.2.2.2.2⟩, ⟨vcell_far (HF.out.bel) Xr_10.out.lt Xr_10.out.1.1, vcell_far (HF.out.bel) Xr_10.out.lt Xr_10.out.1.2.1, vcell_far (HF.out.bel) Xr_10.out.lt Xr_10.out.1.2.2.1, vcell_far (HF.out.bel) Xr_10.out.lt Xr_10.out.1.2.2.2.1, vcell_far (HF.out.bel) Xr_10.out.lt Xr_10.out.1.2.2.2.2⟩⟩, Lib.hid (HF.out.bel)⟩
              clear hK K hHeld
              have hHeld := hNew
              clear hNew
              try simp only [Act.put, List.setIfInBounds_toArray, List.set_cons_zero, List.set_cons_succ]
              refine takeH (i := 13) (v := ?_) rfl rfl (by kernel_rfl) (by kernel_rfl) (by kernel_rfl) (fun _ _ _ h => h) (by rfl) ?_ (by assumption) ?_
              rotate_left 1
              · intro w hSw
                (try dsimp only at hSw)
                go_simp
                try with_reducible rfl
              try simp only [List.setIfInBounds_toArray, List.set_cons_zero, List.set_cons_succ]
              refine wpAnyH_done (by kernel_rfl) ?_ _
              clear hHeld
              go_wp2_with fail
              go_meet
              exact ⟨_, _, _, _, _, rfl, rfl, HF⟩
          · go_simp
            have be2 : Below wz1.heap.size wz1 (wz1.alloc (.cells #[.int .i64 5, .int .i64 (1 + (s : Int)), .int .i64 0, .int .i64 0, .bool false, .int .i64 7, .int .i64 0, .int .i64 0] 33)) := (Below.refl _ _).alloc (Nat.le_refl _) _
            have C_2 := Lib.hid (ownc_later C_1.out be2)
            have neCD : wz1.heap.size ≠ wz0.heap.size := by have h0 := (World.ownsRow.lt C_1.out _ rfl).2; simp only [World.size_alloc] at h0; omega
            have CD_2 := Lib.hid (ownc_one wz1 w10.heap.size hHeld.2.out.size ⟨5, 1 + (s : Int), 0, 0, false, 7, 0, 0⟩)
            change Hid (OwnC (wz1.alloc (.cells #[.int .i64 5, .int .i64 (1 + (s : Int)), .int .i64 0, .int .i64 0, .bool false, .int .i64 7, .int .i64 0, .int .i64 0] 33)) _ _ _) at CD_2
            generalize wz1.alloc (.cells #[.int .i64 5, .int .i64 (1 + (s : Int)), .int .i64 0, .int .i64 0, .bool false, .int .i64 7, .int .i64 0, .int .i64 0] 33) = wz2 at *
            refine hK.out _ _ ?_ (fun hNew => ?_)
            · exact ⟨⟨⟨vcell_far (next hHeld.2.out be2) (AtL.lt Ac_10.out (by show 0 < 8; omega)) Ac_10.out.z8.1.1, vcell_far (next hHeld.2.out be2) (AtL.lt Ac_10.out (by show 0 < 8; omega)) Ac_10.out.z8.1.2.1, vcell_far (next hHeld.2.out be2) (AtL.lt Ac_10.out (by show 0 < 8; omega)) Ac_10.out.z8.1.2.2.1, vcell_far (next hHeld.2.out be2) (AtL.lt Ac_10.out (by show 0 < 8; omega)) Ac_10.out.z8.1.2.2.2.1, vcell_far (next hHeld.2.out be2) (AtL.lt Ac_10.out (by show 0 < 8; omega)) Ac_10.out.z8.1.2.2.2.2.1, vcell_far (next hHeld.2.out be2) (AtL.lt Ac_10.out (by show 0 < 8; omega)) Ac_10.out.z8.1.2.2.2.2.2.1, vcell_far (next hHeld.2.out be2) (AtL.lt Ac_10.out (by show 0 < 8; omega)) Ac_10.out.z8.1.2.2.2.2.2.2.1, vcell_far (next hHeld.2.out be2) (AtL.lt Ac_10.out (by show 0 < 8; omega)) Ac_10.out.z8.1.2.2.2.2.2.2.2⟩, ⟨vcell_far (next hHeld.2.out be2) Xr_10.out.lt Xr_10.out.1.1, vcell_far (next hHeld.2.out be2) Xr_10.out.lt Xr_10.out.1.2.1, vcell_far (next hHeld.2.out be2) Xr_10.out.lt Xr_10.out.1.2.2.1, vcell_far (next hHeld.2.out be2) Xr_10.out.lt Xr_10.out.1.2.2.2.1, vcell_far (next hHeld.2.out be2) Xr_10.out.lt Xr_10.out.1.2.2.2.2⟩⟩, Lib.hid (next hHeld.2.out be2)⟩
            clear hK K hHeld
            have hHeld := hNew
            clear hNew
            try simp only [Act.put, List.setIfInBounds_toArray, List.set_cons_zero, List.set_cons_succ]
            refine wpAnyH_ready (rs := [2, 11]) (by kernel_rfl) (by simp) ?_
            refine AllReadyH.cons rfl (fun K hK => ?_) (AllReadyH.cons rfl (fun K hK => ?_) (AllReadyH.nil))
            · refine wp_appC (.tmp 78) (.tmp 79) rfl w10.heap.size (.slice (some ⟨wz0.heap.size, 0, none⟩) 0 0) [] (by simp [Act.eval]) C_2.out ap Lp.length cp Lp rfl (by simp [Act.eval]) ((OwnC.cs Cp_10.out).below hHeld.2.out) (by first | omega | (simp; done) | (simp; omega)) hHeld.2.out.size ?_
              intro v3 w903 own3 grow3
              have b3 : Below w10.heap.size w10 w903 := Below.grown hHeld.2.out grow3 hHeld.2.out.size (fun k e => (World.ownsRow.lt C_2.out k e).1)
              have CD_3 := Lib.hid (World.ownsRow.kept CD_2.out grow3 (.inr (fun e => neCD (by simpa [Value.ownBlock] using e))))
              replace own3 : OwnC w903 w10.heap.size v3 Lp := own3
              obtain ⟨a3, c3, rfl, _, _⟩ := OwnC.tab own3
              have C_3 := Lib.hid own3
              clear own3 grow3
              generalize w903 = wz3 at *
              try simp only [List.getElem_toArray, List.getElem_cons_succ, List.getElem_cons_zero]
              refine hK.out _ _ ?_ (fun hNew => ?_)
              · exact ⟨⟨⟨vcell_far (b3) (AtL.lt Ac_10.out (by show 0 < 8; omega)) Ac_10.out.z8.1.1, vcell_far (b3) (AtL.lt Ac_10.out (by show 0 < 8; omega)) Ac_10.out.z8.1.2.1, vcell_far (b3) (AtL.lt Ac_10.out (by show 0 < 8; omega)) Ac_10.out.z8.1.2.2.1, vcell_far (b3) (AtL.lt Ac_10.out (by show 0 < 8; omega)) Ac_10.out.z8.1.2.2.2.1, vcell_far (b3) (AtL.lt Ac_10.out (by show 0 < 8; omega)) Ac_10.out.z8.1.2.2.2.2.1, vcell_far (b3) (AtL.lt Ac_10.out (by show 0 < 8; omega)) Ac_10.out.z8.1.2.2.2.2.2.1, vcell_far (b3) (AtL.lt Ac_10.out (by show 0 < 8; omega)) Ac_10.out.z8.1.2.2.2.2.2.2.1, vcell_far (b3) (AtL.lt Ac_10.out (by show 0 < 8; omega)) Ac_10.out.z8.1.2.2.2.2.2.2.2⟩, ⟨vcell_far (b3) Xr_10.out.lt Xr_10.out.1.1, vcell_far (b3) Xr_10.out.lt Xr_10.out.1.2.1, vcell_far (b3) Xr_10.out.lt Xr_10.out.1.2.2.1, vcell_far (b3) Xr_10.out.lt Xr_10.out.1.2.2.2.1, vcell_far (b3) Xr_10.out.lt Xr_10.out.1.2.2.2.2⟩⟩, Lib.hid (b3)⟩
              clear hK K hHeld
              have hHeld := hNew
              clear hNew
              try simp only [Act.put, List.setIfInBounds_toArray, List.set_cons_zero, List.set_cons_succ]
              refine wpAnyH_ready (rs := [5, 11]) (by kernel_rfl) (by simp) ?_
              refine AllReadyH.cons rfl (fun K hK => ?_) (AllReadyH.cons rfl (fun K hK => ?_) (AllReadyH.nil))
              · refine wp_appC (.tmp 80) (.tmp 82) rfl w10.heap.size (.slice a3 Lp.length c3) Lp (by simp [Act.eval]) C_3.out (some ⟨wz1.heap.size, 0, none⟩) 1 1 [⟨5, 1 + (s : Int), 0, 0, false, 7, 0, 0⟩] rfl (by simp [Act.eval]) (OwnC.cs CD_3.out) (by first | omega | (simp; done) | (simp; omega)) hHeld.2.out.size ?_
                intro v4 w904 own4 grow4
                have b4 : Below w10.heap.size w10 w904 := Below.grown hHeld.2.out grow4 hHeld.2.out.size (fun k e => (World.ownsRow.lt C_3.out k e).1)
                rw [← HL.out] at own4
                replace own4 : OwnC w904 w10.heap.size v4 L2 := own4
                obtain ⟨a4, c4, rfl, _, _⟩ := OwnC.tab own4
                have C_4 := Lib.hid own4
                clear own4 grow4
                generalize w904 = wz4 at *
                try simp only [List.getElem_toArray, List.getElem_cons_succ, List.getElem_cons_zero]
                refine hK.out _ _ ?_ (fun hNew => ?_)
                · exact ⟨⟨⟨vcell_far (b4) (AtL.lt Ac_10.out (by show 0 < 8; omega)) Ac_10.out.z8.1.1, vcell_far (b4) (AtL.lt Ac_10.out (by show 0 < 8; omega)) Ac_10.out.z8.1.2.1, vcell_far (b4) (AtL.lt Ac_10.out (by show 0 < 8; omega)) Ac_10.out.z8.1.2.2.1, vcell_far (b4) (AtL.lt Ac_10.out (by show 0 < 8; omega)) Ac_10.out.z8.1.2.2.2.1, vcell_far (b4) (AtL.lt Ac_10.out (by show 0 < 8; omega)) Ac_10.out.z8.1.2.2.2.2.1, vcell_far (b4) (AtL.lt Ac_10.out (by show 0 < 8; omega)) Ac_10.out.z8.1.2.2.2.2.2.1, vcell_far (b4) (AtL.lt Ac_10.out (by show 0 < 8; omega)) Ac_10.out.z8.1.2.2.2.2.2.2.1, vcell_far (b4) (AtL.lt Ac_10.out (by show 0 < 8; omega)) Ac_10.out.z8.1.2.2.2.2.2.2.2⟩, ⟨vcell_far (b4) Xr_10.out.lt Xr_10.out.1.1, vcell_far (b4) Xr_10.out.lt Xr_10.out.1.2.1, vcell_far (b4) Xr_10.out.lt Xr_10.out.1.2.2.1, vcell_far (b4) Xr_10.out.lt Xr_10.out.1.2.2.2.1, vcell_far (b4) Xr_10.out.lt Xr_10.out.1.2.2.2.2⟩⟩, Lib.hid (b4)⟩
                clear hK K hHeld
                have hHeld := hNew
                clear hNew
                try simp only [Act.put, List.setIfInBounds_toArray, List.set_cons_zero, List.set_cons_succ]
                refine wpAnyH_ready (rs := [7, 11]) (by kernel_rfl) (by simp) ?_
                refine AllReadyH.cons rfl (fun K hK => ?_) (AllReadyH.cons rfl (fun K hK => ?_) (AllReadyH.nil))
                · go_simp
                  refine (ipoldo_is L2 a4 _ c4 fr br arp crp (Pr) lr arm crm (Mr) HV.out _ p rfl (OwnC.cs C_4.out) (by omega) (HRM.out.below hHeld.2.out) (HE.out.below (HB10.out.trans (hHeld.2.out.mono HB10.out.size)))).mono ?_
                  rintro en wz5 ⟨pv, mv, rfl, S, o, bP, o2, hS, b⟩
                  replace o : OwnI wz5 wz4.heap.size pv PV := o
                  replace o2 : OwnI wz5 S mv MV := o2
                  obtain ⟨ayp, cyp, rfl, _, _⟩ := OwnI.tab o
                  obtain ⟨aym, cym, rfl, _, _⟩ := OwnI.tab o2
                  have C_5 := Lib.hid (ownc_later C_4.out b)
                  have P5 := Lib.hid (owni_mono o hHeld.2.out.size)
                  have M5 := Lib.hid (owni_mono o2 (Nat.le_trans hHeld.2.out.size hS))
                  have b5 := next hHeld.2.out b
                  clear o o2 bP hS b
                  go_wp2_with fail
                  refine hK.out _ _ ?_ (fun hNew => ?_)
                  · exact ⟨⟨⟨vcell_far (b5) (AtL.lt Ac_10.out (by show 0 < 8; omega)) Ac_10.out.z8.1.1, vcell_far (b5) (AtL.lt Ac_10.out (by show 0 < 8; omega)) Ac_10.out.z8.1.2.1, vcell_far (b5) (AtL.lt Ac_10.out (by show 0 < 8; omega)) Ac_10.out.z8.1.2.2.1, vcell_far (b5) (AtL.lt Ac_10.out (by show 0 < 8; omega)) Ac_10.out.z8.1.2.2.2.1, vcell_far (b5) (AtL.lt Ac_10.out (by show 0 < 8; omega)) Ac_10.out.z8.1.2.2.2.2.1, vcell_far (b5) (AtL.lt Ac_10.out (by show 0 < 8; omega)) Ac_10.out.z8.1.2.2.2.2.2.1, vcell_far (b5) (AtL.lt Ac_10.out (by show 0 < 8; omega)) Ac_10.out.z8.1.2.2.2.2.2.2.1, vcell_far (b5) (AtL.lt Ac_10.out (by show 0 < 8; omega)) Ac_10.out.z8.1.2.2.2.2.2.2.2⟩, ⟨vcell_far (b5) Xr_10.out.lt Xr_10.out.1.1, vcell_far (b5) Xr_10.out.lt Xr_10.out.1.2.1, vcell_far (b5) Xr_10.out.lt Xr_10.out.1.2.2.1, vcell_far (b5) Xr_10.out.lt Xr_10.out.1.2.2.2.1, vcell_far (b5) Xr_10.out.lt Xr_10.out.1.2.2.2.2⟩⟩, Lib.hid (b5)⟩
                  clear hK K hHeld
                  have hHeld := hNew
                  clear hNew
                  try simp only [Act.put, List.setIfInBounds_toArray, List.set_cons_zero, List.set_cons_succ]
                  refine takeH (i := 8) (v := ?_) rfl rfl (by kernel_rfl) (by kernel_rfl) (by kernel_rfl) (fun _ _ _ h => h) (by rfl) ?_ (by assumption) ?_
                  rotate_left 1
                  · intro w hSw
                    (try dsimp only at hSw)
                    go_simp
                    try with_reducible rfl
                  try simp only [List.setIfInBounds_toArray, List.set_cons_zero, List.set_cons_succ]
                  refine takeH (i := 9) (v := ?_) rfl rfl (by kernel_rfl) (by kernel_rfl) (by kernel_rfl) (fun _ _ _ h => h) (by rfl) ?_ (by assumption) ?_
                  rotate_left 1
                  · intro w hSw
                    (try dsimp only at hSw)
                    go_simp
                    try with_reducible rfl
                  try simp only [List.setIfInBounds_toArray, List.set_cons_zero, List.set_cons_succ]
                  refine takeH (i := 10) (v := ?_) rfl rfl (by kernel_rfl) (by kernel_rfl) (by kernel_rfl) (fun _ _ _ h => h) (by rfl) ?_ (by assumption) ?_
                  rotate_left 1
                  · intro w hSw
                    (try dsimp only at hSw)
                    go_simp
                    try with_reducible rfl
                  try simp only [List.setIfInBounds_toArray, List.set_cons_zero, List.set_cons_succ]
                  refine wpAnyH_ready (rs := [11]) (by kernel_rfl) (by simp) ?_
                  refine AllReadyH.cons rfl (fun K hK => ?_) (AllReadyH.nil)
                  go_simp
                  have be6 : Below wz5.heap.size wz5 (wz5.alloc (.cells #[.int .i64 0, .int .i64 0, .slice none 0 0, .int .i64 0, .slice none 0 0] 36)) := (Below.refl _ _).alloc (Nat.le_refl _) _
                  have C_6 := Lib.hid (ownc_later C_5.out be6)
                  have P6 := Lib.hid (owni_later P5.out be6)
                  have M6 := Lib.hid (owni_later M5.out be6)
                  have Z6 := Lib.hid (ownw_zero wz5 w10.heap.size hHeld.2.out.size)
                  generalize wz5.alloc (.cells #[.int .i64 0, .int .i64 0, .slice none 0 0, .int .i64 0, .slice none 0 0] 36) = wz6 at *
                  refine hK.out _ _ ?_ (fun hNew => ?_)
                  · exact ⟨⟨⟨vcell_far (next hHeld.2.out be6) (AtL.lt Ac_10.out (by show 0 < 8; omega)) Ac_10.out.z8.1.1, vcell_far (next hHeld.2.out be6) (AtL.lt Ac_10.out (by show 0 < 8; omega)) Ac_10.out.z8.1.2.1, vcell_far (next hHeld.2.out be6) (AtL.lt Ac_10.out (by show 0 < 8; omega)) Ac_10.out.z8.1.2.2.1, vcell_far (next hHeld.2.out be6) (AtL.lt Ac_10.out (by show 0 < 8; omega)) Ac_10.out.z8.1.2.2.2.1, vcell_far (next hHeld.2.out be6) (AtL.lt Ac_10.out (by show 0 < 8; omega)) Ac_10.out.z8.1.2.2.2.2.1, vcell_far (next hHeld.2.out be6) (AtL.lt Ac_10.out (by show 0 < 8; omega)) Ac_10.out.z8.1.2.2.2.2.2.1, vcell_far (next hHeld.2.out be6) (AtL.lt Ac_10.out (by show 0 < 8; omega)) Ac_10.out.z8.1.2.2.2.2.2.2.1, vcell_far (next hHeld.2.out be6) (AtL.lt Ac_10.out (by show 0 < 8; omega)) Ac_10.out.z8.1.2.2.2.2.2.2.2⟩, ⟨vcell_far (next hHeld.2.out be6) Xr_10.out.lt Xr_10.out.1.1, vcell_far (next hHeld.2.out be6) Xr_10.out.lt Xr_10.out.1.2.1, vcell_far (next hHeld.2.out be6) Xr_10.out.lt Xr_10.out.1.2.2.1, vcell_far (next hHeld.2.out be6) Xr_10.out.lt Xr_10.out.1.2.2.2.1, vcell_far (next hHeld.2.out be6) Xr_10.out.lt Xr_10.out.1.2.2.2.2⟩⟩, Lib.hid (next hHeld.2.out be6)⟩
                  clear hK K hHeld
                  have hHeld := hNew
                  clear hNew
                  try simp only [Act.put, List.setIfInBounds_toArray, List.set_cons_zero, List.set_cons_succ]
                  refine wpAnyH_ready (rs := [12]) (by kernel_rfl) (by simp) ?_
                  refine AllReadyH.cons rfl (fun K hK => ?_) (AllReadyH.nil)
                  refine wp_stA 36 (.tmp 12) (.tmp 86) rfl (wz5.heap.size) #[.int .i64 fV, .int .i64 bV, .slice ayp PV.length cyp, .int .i64 lV, .slice aym MV.length cym] (by simp [Act.eval]) (by simp [Act.eval]) (one5a _ _ _ _ _ _ _ _ _) infoR5 _ (OwnW.atl Z6.out) rfl ?_
                  intro wz7 aa gg
                  have HF : Hid (CutY w10 (wz5.heap.size) fV bV lV PV MV ayp cyp aym cym wz7) := Lib.hid (CutY.mk' hHeld.2.out Z6.out P6.out M6.out aa gg)
                  clear aa gg
                  try simp only [List.getElem_toArray, List.getElem_cons_succ, List.getElem_cons_zero]
                  refine hK.out _ _ ?_ (fun hNew => ?_)
                  · exact ⟨⟨⟨vcell_far (HF.out.bel) (AtL.lt Ac_10.out (by show 0 < 8; omega)) Ac_10.out.z8.1.1, vcell_far (HF.out.bel) (AtL.lt Ac_10.out (by show 0 < 8; omega)) Ac_10.out.z8.1.2.1, vcell_far (HF.out.bel) (AtL.lt Ac_10.out (by show 0 < 8; omega)) Ac_10.out.z8.1.2.2.1, vcell_far (HF.out.bel) (AtL.lt Ac_10.out (by show 0 < 8; omega)) Ac_10.out.z8.1.2.2.2.1, vcell_far (HF.out.bel) (AtL.lt Ac_10.out (by show 0 < 8; omega)) Ac_10.out.z8.1.2.2.2.2.1, vcell_far (HF.out.bel) (AtL.lt Ac_10.out (by show 0 < 8; omega)) Ac_10.out.z8.1.2.2.2.2.2.1, vcell_far (HF.out.bel) (AtL.lt Ac_10.out (by show 0 < 8; omega)) Ac_10.out.z8.1.2.2.2.2.2.2.1, vcell_far (HF.out.bel) (AtL.lt Ac_10.out (by show 0 < 8; omega)) Ac_10.out.z8.1.2.2.2.2.2.2.2⟩, ⟨vcell_far (HF.out.bel) Xr_10.out.lt Xr_10.out.1.1, vcell_far (HF.out.bel) Xr_10.out.lt Xr_10.out.1.2.1, vcell_far (HF.out.bel) Xr_10.out.lt Xr_10.out.1.2.2.1, vcell_far (HF.out.bel) Xr_10.out.lt Xr_10.out.1.2.2.2.1, vcell_far (HF.out.bel) Xr_10.out.lt Xr_10.out.1.2.2.2.2⟩⟩, Lib.hid (HF.out.bel)⟩
                  clear hK K hHeld
                  have hHeld := hNew
                  clear hNew
                  try simp only [Act.put, List.setIfInBounds_toArray, List.set_cons_zero, List.set_cons_succ]
                  refine takeH (i := 13) (v := ?_) rfl rfl (by kernel_rfl) (by kernel_rfl) (by kernel_rfl) (fun _ _ _ h => h) (by rfl) ?_ (by assumption) ?_
                  rotate_left 1
                  · intro w hSw
                    (try dsimp only at hSw)
                    go_simp
                    try with_reducible rfl
                  try simp only [List.setIfInBounds_toArray, List.set_cons_zero, List.set_cons_succ]
                  refine wpAnyH_done (by kernel_rfl) ?_ _
                  clear hHeld
                  go_wp2_with fail
                  go_meet
                  exact ⟨_, _, _, _, _, rfl, rfl, HF⟩
                · go_simp
                  have be5 : Below wz4.heap.size wz4 (wz4.alloc (.cells #[.int .i64 0, .int .i64 0, .slice none 0 0, .int .i64 0, .slice none 0 0] 36)) := (Below.refl _ _).alloc (Nat.le_refl _) _
                  have C_5 := Lib.hid (ownc_later C_4.out be5)
                  have Z5 := Lib.hid (ownw_zero wz4 w10.heap.size hHeld.2.out.size)
                  generalize wz4.alloc (.cells #[.int .i64 0, .int .i64 0, .slice none 0 0, .int .i64 0, .slice none 0 0] 36) = wz5 at *
                  refine hK.out _ _ ?_ (fun hNew => ?_)
                  · exact ⟨⟨⟨vcell_far (next hHeld.2.out be5) (AtL.lt Ac_10.out (by show 0 < 8; omega)) Ac_10.out.z8.1.1, vcell_far (next hHeld.2.out be5) (AtL.lt Ac_10.out (by show 0 < 8; omega)) Ac_10.out.z8.1.2.1, vcell_far (next hHeld.2.out be5) (AtL.lt Ac_10.out (by show 0 < 8; omega)) Ac_10.out.z8.1.2.2.1, vcell_far (next hHeld.2.out be5) (AtL.lt Ac_10.out (by show 0 < 8; omega)) Ac_10.out.z8.1.2.2.2.1, vcell_far (next hHeld.2.out be5) (AtL.lt Ac_10.out (by show 0 < 8; omega)) Ac_10.out.z8.1.2.2.2.2.1, vcell_far (next hHeld.2.out be5) (AtL.lt Ac_10.out (by show 0 < 8; omega)) Ac_10.out.z8.1.2.2.2.2.2.1, vcell_far (next hHeld.2.out be5) (AtL.lt Ac_10.out (by show 0 < 8; omega)) Ac_10.out.z8.1.2.2.2.2.2.2.1, vcell_far (next hHeld.2.out be5) (AtL.lt Ac_10.out (by show 0 < 8; omega)) Ac_10.out.z8.1.2.2.2.2.2.2.2⟩, ⟨vcell_far (next hHeld.2.out be5) Xr_10.out.lt Xr_10.out.1.1, vcell_far (next hHeld.2.out be5) Xr_10.out.lt Xr_10.out.1.2.1, vcell_far (next hHeld.2.out be5) Xr_10.out.lt Xr_10.out.1.2.2.1, vcell_far (next hHeld.2.out be5) Xr_10.out.lt Xr_10.out.1.2.2.2.1, vcell_far (next hHeld.2.out be5) Xr_10.out.lt Xr_10.out.1.2.2.2.2⟩⟩, Lib.hid (next hHeld.2.out be5)⟩
                  clear hK K hHeld
                  have hHeld := hNew
                  clear hNew
                  try simp only [Act.put, List.setIfInBounds_toArray, List.set_cons_zero, List.set_cons_succ]
                  refine wpAnyH_ready (rs := [7]) (by kernel_rfl) (by simp) ?_
                  refine AllReadyH.cons rfl (fun K hK => ?_) (AllReadyH.nil)
                  go_simp
                  refine (ipoldo_is L2 a4 _ c4 fr br arp crp (Pr) lr arm crm (Mr) HV.out _ p rfl (OwnC.cs C_5.out) (by omega) (HRM.out.below hHeld.2.out) (HE.out.below (HB10.out.trans (hHeld.2.out.mono HB10.out.size)))).mono ?_
                  rintro en wz6 ⟨pv, mv, rfl, S, o, bP, o2, hS, b⟩
                  replace o : OwnI wz6 wz5.heap.size pv PV := o
                  replace o2 : OwnI wz6 S mv MV := o2
                  obtain ⟨ayp, cyp, rfl, _, _⟩ := OwnI.tab o
                  obtain ⟨aym, cym, rfl, _, _⟩ := OwnI.tab o2
                  have Z6 := Lib.hid (ownw_later Z5.out b)
                  have C_6 := Lib.hid (ownc_later C_5.out b)
                  have P6 := Lib.hid (owni_mono o hHeld.2.out.size)
                  have M6 := Lib.hid (owni_mono o2 (Nat.le_trans hHeld.2.out.size hS))
                  have b6 := next hHeld.2.out b
                  clear o o2 bP hS b
                  go_wp2_with fail
                  refine hK.out _ _ ?_ (fun hNew => ?_)
                  · exact ⟨⟨⟨vcell_far (b6) (AtL.lt Ac_10.out (by show 0 < 8; omega)) Ac_10.out.z8.1.1, vcell_far (b6) (AtL.lt Ac_10.out (by show 0 < 8; omega)) Ac_10.out.z8.1.2.1, vcell_far (b6) (AtL.lt Ac_10.out (by show 0 < 8; omega)) Ac_10.out.z8.1.2.2.1, vcell_far (b6) (AtL.lt Ac_10.out (by show 0 < 8; omega)) Ac_10.out.z8.1.2.2.2.1, vcell_far (b6) (AtL.lt Ac_10.out (by show 0 < 8; omega)) Ac_10.out.z8.1.2.2.2.2.1, vcell_far (b6) (AtL.lt Ac_10.out (by show 0 < 8; omega)) Ac_10.out.z8.1.2.2.2.2.2.1, vcell_far (b6) (AtL.lt Ac_10.out (by show 0 < 8; omega)) Ac_10.out.z8.1.2.2.2.2.2.2.1, vcell_far (b6) (AtL.lt Ac_10.out (by show 0 < 8; omega)) Ac_10.out.z8.1.2.2.2.2.2.2.2⟩, ⟨vcell_far (b6) Xr_10.out.lt Xr_10.out.1.1, vcell_far (b6) Xr_10.out.lt Xr_10.out.1.2.1, vcell_far (b6) Xr_10.out.lt Xr_10.out.1.2.2.1, vcell_far (b6) Xr_10.out.lt Xr_10.out.1.2.2.2.1, vcell_far (b6) Xr_10.out.lt Xr_10.out.1.2.2.2.2⟩⟩, Lib.hid (b6)⟩
                  clear hK K hHeld
                  have hHeld := hNew
                  clear hNew
                  try simp only [Act.put, List.setIfInBounds_toArray, List.set_cons_zero, List.set_cons_succ]
                  refine takeH (i := 8) (v := ?_) rfl rfl (by kernel_rfl) (by kernel_rfl) (by kernel_rfl) (fun _ _ _ h => h) (by rfl) ?_ (by assumption) ?_
                  rotate_left 1
                  · intro w hSw
                    (try dsimp only at hSw)
                    go_simp
                    try with_reducible rfl
                  try simp only [List.setIfInBounds_toArray, List.set_cons_zero, List.set_cons_succ]
                  refine takeH (i := 9) (v := ?_) rfl rfl (by kernel_rfl) (by kernel_rfl) (by kernel_rfl) (fun _ _ _ h => h) (by rfl) ?_ (by assumption) ?_
                  rotate_left 1
                  · intro w hSw
                    (try dsimp only at hSw)
                    go_simp
                    try with_reducible rfl
                  try simp only [List.setIfInBounds_toArray, List.set_cons_zero, List.set_cons_succ]
                  refine takeH (i := 10) (v := ?_) rfl rfl (by kernel_rfl) (by kernel_rfl) (by kernel_rfl) (fun _ _ _ h => h) (by rfl) ?_ (by assumption) ?_
                  rotate_left 1
                  · intro w hSw
                    (try dsimp only at hSw)
                    go_simp
                    try with_reducible rfl
                  try simp only [List.setIfInBounds_toArray, List.set_cons_zero, List.set_cons_succ]
                  refine wpAnyH_ready (rs := [12]) (by kernel_rfl) (by simp) ?_
                  refine AllReadyH.cons rfl (fun K hK => ?_) (AllReadyH.nil)
                  refine wp_stA 36 (.tmp 12) (.tmp 86) rfl (wz4.heap.size) #[.int .i64 fV, .int .i64 bV, .slice ayp PV.length cyp, .int .i64 lV, .slice aym MV.length cym] (by simp [Act.eval]) (by simp [Act.eval]) (one5a _ _ _ _ _ _ _ _ _) infoR5 _ (OwnW.atl Z6.out) rfl ?_
                  intro wz7 aa gg
                  have HF : Hid (CutY w10 (wz4.heap.size) fV bV lV PV MV ayp cyp aym cym wz7) := Lib.hid (CutY.mk' hHeld.2.out Z6.out P6.out M6.out aa gg)
                  clear aa gg
                  try simp only [List.getElem_toArray, List.getElem_cons_succ, List.getElem_cons_zero]
                  refine hK.out _ _ ?_ (fun hNew => ?_)
                  · exact ⟨⟨⟨vcell_far (HF.out.bel) (AtL.lt Ac_10.out (by show 0 < 8; omega)) Ac_10.out.z8.1.1, vcell_far (HF.out.bel) (AtL.lt Ac_10.out (by show 0 < 8; omega)) Ac_10.out.z8.1.2.1, vcell_far (HF.out.bel) (AtL.lt Ac_10.out (by show 0 < 8; omega)) Ac_10.out.z8.1.2.2.1, vcell_far (HF.out.bel) (AtL.lt Ac_10.out (by show 0 < 8; omega)) Ac_10.out.z8.1.2.2.2.1, vcell_far (HF.out.bel) (AtL.lt Ac_10.out (by show 0 < 8; omega)) Ac_10.out.z8.1.2.2.2.2.1, vcell_far (HF.out.bel) (AtL.lt Ac_10.out (by show 0 < 8; omega)) Ac_10.out.z8.1.2.2.2.2.2.1, vcell_far (HF.out.bel) (AtL.lt Ac_10.out (by show 0 < 8; omega)) Ac_10.out.z8.1.2.2.2.2.2.2.1, vcell_far (HF.out.bel) (AtL.lt Ac_10.out (by show 0 < 8; omega)) Ac_10.out.z8.1.2.2.2.2.2.2.2⟩, ⟨vcell_far (HF.out.bel) Xr_10.out.lt Xr_10.out.1.1, vcell_far (HF.out.bel) Xr_10.out.lt Xr_10.out.1.2.1, vcell_far (HF.out.bel) Xr_10.out.lt Xr_10.out.1.2.2.1, vcell_far (HF.out.bel) Xr_10.out.lt Xr_10.out.1.2.2.2.1, vcell_far (HF.out.bel) Xr_10.out.lt Xr_10.out.1.2.2.2.2⟩⟩, Lib.hid (HF.out.bel)⟩
                  clear hK K hHeld
                  have hHeld := hNew
                  clear hNew
                  try simp only [Act.put, List.setIfInBounds_toArray, List.set_cons_zero, List.set_cons_succ]
                  refine takeH (i := 13) (v := ?_) rfl rfl (by kernel_rfl) (by kernel_rfl) (by kernel_rfl) (fun _ _ _ h => h) (by rfl) ?_ (by assumption) ?_
                  rotate_left 1
                  · intro w hSw
                    (try dsimp only at hSw)
                    go_simp
                    try with_reducible rfl
                  try simp only [List.setIfInBounds_toArray, List.set_cons_zero, List.set_cons_succ]
                  refine wpAnyH_done (by kernel_rfl) ?_ _
                  clear hHeld
                  go_wp2_with fail
                  go_meet
                  exact ⟨_, _, _, _, _, rfl, rfl, HF⟩
              · go_simp
                have be4 : Below wz3.heap.size wz3 (wz3.alloc (.cells #[.int .i64 0, .int .i64 0, .slice none 0 0, .int .i64 0, .slice none 0 0] 36)) := (Below.refl _ _).alloc (Nat.le_refl _) _
                have C_4 := Lib.hid (ownc_later C_3.out be4)
                have CD_4 := Lib.hid (ownc_later CD_3.out be4)
                have Z4 := Lib.hid (ownw_zero wz3 w10.heap.size hHeld.2.out.size)
                generalize wz3.alloc (.cells #[.int .i64 0, .int .i64 0, .slice none 0 0, .int .i64 0, .slice none 0 0] 36) = wz4 at *
                refine hK.out _ _ ?_ (fun hNew => ?_)
                · exact ⟨⟨⟨vcell_far (next hHeld.2.out be4) (AtL.lt Ac_10.out (by show 0 < 8; omega)) Ac_10.out.z8.1.1, vcell_far (next hHeld.2.out be4) (AtL.lt Ac_10.out (by show 0 < 8; omega)) Ac_10.out.z8.1.2.1, vcell_far (next hHeld.2.out be4) (AtL.lt Ac_10.out (by show 0 < 8; omega)) Ac_10.out.z8.1.2.2.1, vcell_far (next hHeld.2.out be4) (AtL.lt Ac_10.out (by show 0 < 8; omega)) Ac_10.out.z8.1.2.2.2.1, vcell_far (next hHeld.2.out be4) (AtL.lt Ac_10.out (by show 0 < 8; omega)) Ac_10.out.z8.1.2.2.2.2.1, vcell_far (next hHeld.2.out be4) (AtL.lt Ac_10.out (by show 0 < 8; omega)) Ac_10.out.z8.1.2.2.2.2.2.1, vcell_far (next hHeld.2.out be4) (AtL.lt Ac_10.out (by show 0 < 8; omega)) Ac_10.out.z8.1.2.2.2.2.2.2.1, vcell_far (next hHeld.2.out be4) (AtL.lt Ac_10.out (by show 0 < 8; omega)) Ac_10.out.z8.1.2.2.2.2.2.2.2⟩, ⟨vcell_far (next hHeld.2.out be4) Xr_10.out.lt Xr_10.out.1.1, vcell_far (next hHeld.2.out be4) Xr_10.out.lt Xr_10.out.1.2.1, vcell_far (next hHeld.2.out be4) Xr_10.out.lt Xr_10.out.1.2.2.1, vcell_far (next hHeld.2.out be4) Xr_10.out.lt Xr_10.out.1.2.2.2.1, vcell_far (next hHeld.2.out be4) Xr_10.out.lt Xr_10.out.1.2.2.2.2⟩⟩, Lib.hid (next hHeld.2.out be4)⟩
                clear hK K hHeld
                have hHeld := hNew
                clear hNew
                try simp only [Act.put, List.setIfInBounds_toArray, List.set_cons_zero, List.set_cons_succ]
                refine wpAnyH_ready (rs := [5]) (by kernel_rfl) (by simp) ?_
                refine AllReadyH.cons rfl (fun K hK => ?_) (AllReadyH.nil)
                refine wp_appC (.tmp 80) (.tmp 82) rfl w10.heap.size (.slice a3 Lp.length c3) Lp (by simp [Act.eval]) C_4.out (some ⟨wz1.heap.size, 0, none⟩) 1 1 [⟨5, 1 + (s : Int), 0, 0, false, 7, 0, 0⟩] rfl (by simp [Act.eval]) (OwnC.cs CD_4.out) (by first | omega | (simp; done) | (simp; omega)) hHeld.2.out.size ?_
                intro v5 w905 own5 grow5
                have b5 : Below w10.heap.size w10 w905 := Below.grown hHeld.2.out grow5 hHeld.2.out.size (fun k e => (World.ownsRow.lt C_4.out k e).1)
                have Z5 := Lib.hid (World.ownsRow.kept Z4.out grow5 (rows_apart Z4.out C_4.out (by decide)))
                rw [← HL.out] at own5
                replace own5 : OwnC w905 w10.heap.size v5 L2 := own5
                obtain ⟨a5, c5, rfl, _, _⟩ := OwnC.tab own5
                have C_5 := Lib.hid own5
                clear own5 grow5
                generalize w905 = wz5 at *
                try simp only [List.getElem_toArray, List.getElem_cons_succ, List.getElem_cons_zero]
                refine hK.out _ _ ?_ (fun hNew => ?_)
                · exact ⟨⟨⟨vcell_far (b5) (AtL.lt Ac_10.out (by show 0 < 8; omega)) Ac_10.out.z8.1.1, vcell_far (b5) (AtL.lt Ac_10.out (by show 0 < 8; omega)) Ac_10.out.z8.1.2.1, vcell_far (b5) (AtL.lt Ac_10.out (by show 0 < 8; omega)) Ac_10.out.z8.1.2.2.1, vcell_far (b5) (AtL.lt Ac_10.out (by show 0 < 8; omega)) Ac_10.out.z8.1.2.2.2.1, vcell_far (b5) (AtL.lt Ac_10.out (by show 0 < 8; omega)) Ac_10.out.z8.1.2.2.2.2.1, vcell_far (b5) (AtL.lt Ac_10.out (by show 0 < 8; omega)) Ac_10.out.z8.1.2.2.2.2.2.1, vcell_far (b5) (AtL.lt Ac_10.out (by show 0 < 8; omega)) Ac_10.out.z8.1.2.2.2.2.2.2.1, vcell_far (b5) (AtL.lt Ac_10.out (by show 0 < 8; omega)) Ac_10.out.z8.1.2.2.2.2.2.2.2⟩, ⟨vcell_far (b5) Xr_10.out.lt Xr_10.out.1.1, vcell_far (b5) Xr_10.out.lt Xr_10.out.1.2.1, vcell_far (b5) Xr_10.out.lt Xr_10.out.1.2.2.1, vcell_far (b5) Xr_10.out.lt Xr_10.out.1.2.2.2.1, vcell_far (b5) Xr_10.out.lt Xr_10.out.1.2.2.2.2⟩⟩, Lib.hid (b5)⟩
                clear hK K hHeld
                have hHeld := hNew
                clear hNew
                try simp only [Act.put, List.setIfInBounds_toArray, List.set_cons_zero, List.set_cons_succ]
                refine wpAnyH_ready (rs := [7]) (by kernel_rfl) (by simp) ?_
                refine AllReadyH.cons rfl (fun K hK => ?_) (AllReadyH.nil)
                go_simp
                refine (ipoldo_is L2 a5 _ c5 fr br arp crp (Pr) lr arm crm (Mr) HV.out _ p rfl (OwnC.cs C_5.out) (by omega) (HRM.out.below hHeld.2.out) (HE.out.below (HB10.out.trans (hHeld.2.out.mono HB10.out.size)))).mono ?_
                rintro en wz6 ⟨pv, mv, rfl, S, o, bP, o2, hS, b⟩
                replace o : OwnI wz6 wz5.heap.size pv PV := o
                replace o2 : OwnI wz6 S mv MV := o2
                obtain ⟨ayp, cyp, rfl, _, _⟩ := OwnI.tab o
                obtain ⟨aym, cym, rfl, _, _⟩ := OwnI.tab o2
                have Z6 := Lib.hid (ownw_later Z5.out b)
                have C_6 := Lib.hid (ownc_later C_5.out b)
                have P6 := Lib.hid (owni_mono o hHeld.2.out.size)
                have M6 := Lib.hid (owni_mono o2 (Nat.le_trans hHeld.2.out.size hS))
                have b6 := next hHeld.2.out b
                clear o o2 bP hS b
                go_wp2_with fail
                refine hK.out _ _ ?_ (fun hNew => ?_)
                · exact ⟨⟨⟨vcell_far (b6) (AtL.lt Ac_10.out (by show 0 < 8; omega)) Ac_10.out.z8.1.1, vcell_far (b6) (AtL.lt Ac_10.out (by show 0 < 8; omega)) Ac_10.out.z8.1.2.1, vcell_far (b6) (AtL.lt Ac_10.out (by show 0 < 8; omega)) Ac_10.out.z8.1.2.2.1, vcell_far (b6) (AtL.lt Ac_10.out (by show 0 < 8; omega)) Ac_10.out.z8.1.2.2.2.1, vcell_far (b6) (AtL.lt Ac_10.out (by show 0 < 8; omega)) Ac_10.out.z8.1.2.2.2.2.1, vcell_far (b6) (AtL.lt Ac_10.out (by show 0 < 8; omega)) Ac_10.out.z8.1.2.2.2.2.2.1, vcell_far (b6) (AtL.lt Ac_10.out (by show 0 < 8; omega)) Ac_10.out.z8.1.2.2.2.2.2.2.1, vcell_far (b6) (AtL.lt Ac_10.out (by show 0 < 8; omega)) Ac_10.out.z8.1.2.2.2.2.2.2.2⟩, ⟨vcell_far (b6) Xr_10.out.lt Xr_10.out.1.1, vcell_far (b6) Xr_10.out.lt Xr_10.out.1.2.1, vcell_far (b6) Xr_10.out.lt Xr_10.out.1.2.2.1, vcell_far (b6) Xr_10.out.lt Xr_10.out.1.2.2.2.1, vcell_far (b6) Xr_10.out.lt Xr_10.out.1.2.2.2.2⟩⟩, Lib.hid (b6)⟩
                clear hK K hHeld
                have hHeld := hNew
                clear hNew
                try simp only [Act.put, List.setIfInBounds_toArray, List.set_cons_zero, List.set_cons_succ]
                refine takeH (i := 8) (v := ?_) rfl rfl (by kernel_rfl) (by kernel_rfl) (by kernel_rfl) (fun _ _ _ h => h) (by rfl) ?_ (by assumption) ?_
                rotate_left 1
                · intro w hSw
                  (try dsimp only at hSw)
                  go_simp
                  try with_reducible rfl
                try simp only [List.setIfInBounds_toArray, List.set_cons_zero, List.set_cons_succ]
                refine takeH (i := 9) (v := ?_) rfl rfl (by kernel_rfl) (by kernel_rfl) (by kernel_rfl) (fun _ _ _ h => h) (by rfl) ?_ (by assumption) ?_
                rotate_left 1
                · intro w hSw
                  (try dsimp only at hSw)
                  go_simp
                  try with_reducible rfl
                try simp only [List.setIfInBounds_toArray, List.set_cons_zero, List.set_cons_succ]
                refine takeH (i := 10) (v := ?_) rfl rfl (by kernel_rfl) (by kernel_rfl) (by kernel_rfl) (fun _ _ _ h => h) (by rfl) ?_ (by assumption) ?_
                rotate_left 1
                · intro w hSw
                  (try dsimp only at hSw)
                  go_simp
                  try with_reducible rfl
                try simp only [List.setIfInBounds_toArray, List.set_cons_zero, List.set_cons_succ]
                refine wpAnyH_ready (rs := [12]) (by kernel_rfl) (by simp) ?_
                refine AllReadyH.cons rfl (fun K hK => ?_) (AllReadyH.nil)
                refine wp_stA 36 (.tmp 12) (.tmp 86) rfl (wz3.heap.size) #[.int .i64 fV, .int .i64 bV, .slice ayp PV.length cyp, .int .i64 lV, .slice aym MV.length cym] (by simp [Act.eval]) (by simp [Act.eval]) (one5a _ _ _ _ _ _ _ _ _) infoR5 _ (OwnW.atl Z6.out) rfl ?_
                intro wz7 aa gg
                have HF : Hid (CutY w10 (wz3.heap.size) fV bV lV PV MV ayp cyp aym cym wz7) := Lib.hid (CutY.mk' hHeld.2.out Z6.out P6.out M6.out aa gg)
                clear aa gg
                try simp only [List.getElem_toArray, List.getElem_cons_succ, List.getElem_cons_zero]
                refine hK.out _ _ ?_ (fun hNew => ?_)
                · exact ⟨⟨⟨vcell_far (HF.out.bel) (AtL.lt Ac_10.out (by show 0 < 8; omega)) Ac_10.out.z8.1.1, vcell_far (HF.out.bel) (AtL.lt Ac_10.out (by show 0 < 8; omega)) Ac_10.out.z8.1.2.1, vcell_far (HF.out.bel) (AtL.lt Ac_10.out (by show 0 < 8; omega)) Ac_10.out.z8.1.2.2.1, vcell_far (HF.out.bel) (AtL.lt Ac_10.out (by show 0 < 8; omega)) Ac_10.out.z8.1.2.2.2.1, vcell_far (HF.out.bel) (AtL.lt Ac_10.out (by show 0 < 8; omega)) Ac_10.out.z8.1.2.2.2.2.1, vcell_far (HF.out.bel) (AtL.lt Ac_10.out (by show 0 < 8; omega)) Ac_10.out.z8.1.2.2.2.2.2.1, vcell_far (HF.out.bel) (AtL.lt Ac_10.out (by show 0 < 8; omega)) Ac_10.out.z8.1.2.2.2.2.2.2.1, vcell_far (HF.out.bel) (AtL.lt Ac_10.out (by show 0 < 8; omega)) Ac_10.out.z8.1.2.2.2.2.2.2.2⟩, ⟨vcell_far (HF.out.bel) Xr_10.out.lt Xr_10.out.1.1, vcell_far (HF.out.bel) Xr_10.out.lt Xr_10.out.1.2.1, vcell_far (HF.out.bel) Xr_10.out.lt Xr_10.out.1.2.2.1, vcell_far (HF.out.bel) Xr_10.out.lt Xr_10.out.1.2.2.2.1, vcell_far (HF.out.bel) Xr_10.out.lt Xr_10.out.1.2.2.2.2⟩⟩, Lib.hid (HF.out.bel)⟩
                clear hK K hHeld
                have hHeld := hNew
                clear hNew
                try simp only [Act.put, List.setIfInBounds_toArray, List.set_cons_zero, List.set_cons_succ]
                refine takeH (i := 13) (v := ?_) rfl rfl (by kernel_rfl) (by kernel_rfl) (by kernel_rfl) (fun _ _ _ h => h) (by rfl) ?_ (by assumption) ?_
                rotate_left 1
                · intro w hSw
                  (try dsimp only at hSw)
                  go_simp
                  try with_reducible rfl
                try simp only [List.setIfInBounds_toArray, List.set_cons_zero, List.set_cons_succ]
                refine wpAnyH_done (by kernel_rfl) ?_ _
                clear hHeld
                go_wp2_with fail
                go_meet
                exact ⟨_, _, _, _, _, rfl, rfl, HF⟩
            · go_simp
              have be3 : Below wz2.heap.size wz2 (wz2.alloc (.cells #[.int .i64 0, .int .i64 0, .slice none 0 0, .int .i64 0, .slice none 0 0] 36)) := (Below.refl _ _).alloc (Nat.le_refl _) _
              have C_3 := Lib.hid (ownc_later C_2.out be3)
              have CD_3 := Lib.hid (ownc_later CD_2.out be3)
              have Z3 := Lib.hid (ownw_zero wz2 w10.heap.size hHeld.2.out.size)
              generalize wz2.alloc (.cells #[.int .i64 0, .int .i64 0, .slice none 0 0, .int .i64 0, .slice none 0 0] 36) = wz3 at *
              refine hK.out _ _ ?_ (fun hNew => ?_)
              · exact ⟨⟨⟨vcell_far (next hHeld.2.out be3) (AtL.lt Ac_10.out (by show 0 < 8; omega)) Ac_10.out.z8.1.1, vcell_far (next hHeld.2.out be3) (AtL.lt Ac_10.out (by show 0 < 8; omega)) Ac_10.out.z8.1.2.1, vcell_far (next hHeld.2.out be3) (AtL.lt Ac_10.out (by show 0 < 8; omega)) Ac_10.out.z8.1.2.2.1, vcell_far (next hHeld.2.out be3) (AtL.lt Ac_10.out (by show 0 < 8; omega)) Ac_10.out.z8.1.2.2.2.1, vcell_far (next hHeld.2.out be3) (AtL.lt Ac_10.out (by show 0 < 8; omega)) Ac_10.out.z8.1.2.2.2.2.1, vcell_far (next hHeld.2.out be3) (AtL.lt Ac_10.out (by show 0 < 8; omega)) Ac_10.out.z8.1.2.2.2.2.2.1, vcell_far (next hHeld.2.out be3) (AtL.lt Ac_10.out (by show 0 < 8; omega)) Ac_10.out.z8.1.2.2.2.2.2.2.1, vcell_far (next hHeld.2.out be3) (AtL.lt Ac_10.out (by show 0 < 8; omega)) Ac_10.out.z8.1.2.2.2.2.2.2.2⟩, ⟨vcell_far (next hHeld.2.out be3) Xr_10.out.lt Xr_10.out.1.1, vcell_far (next hHeld.2.out be3) Xr_10.out.lt Xr_10.out.1.2.1, vcell_far (next hHeld.2.out be3) Xr_10.out.lt Xr_10.out.1.2.2.1, vcell_far (next hHeld.2.out be3) Xr_10.out.lt Xr_10.out.1.2.2.2.1, vcell_far (next hHeld.2.out be3) Xr_10.out.lt Xr_10.out.1.2.2.2.2⟩⟩, Lib.hid (next hHeld.2.out be3)⟩
              clear hK K hHeld
              have hHeld := hNew
              clear hNew
              try simp only [Act.put, List.setIfInBounds_toArray, List.set_cons_zero, List.set_cons_succ]
              refine wpAnyH_ready (rs := [2]) (by kernel_rfl) (by simp) ?_
              refine AllReadyH.cons rfl (fun K hK => ?_) (AllReadyH.nil)
              refine wp_appC (.tmp 78) (.tmp 79) rfl w10.heap.size (.slice (some ⟨wz0.heap.size, 0, none⟩) 0 0) [] (by simp [Act.eval]) C_3.out ap Lp.length cp Lp rfl (by simp [Act.eval]) ((OwnC.cs Cp_10.out).below hHeld.2.out) (by first | omega | (simp; done) | (simp; omega)) hHeld.2.out.size ?_
              intro v4 w904 own4 grow4
              have b4 : Below w10.heap.size w10 w904 := Below.grown hHeld.2.out grow4 hHeld.2.out.size (fun k e => (World.ownsRow.lt C_3.out k e).1)
              have Z4 := Lib.hid (World.ownsRow.kept Z3.out grow4 (rows_apart Z3.out C_3.out (by decide)))
              have CD_4 := Lib.hid (World.ownsRow.kept CD_3.out grow4 (.inr (fun e => neCD (by simpa [Value.ownBlock] using e))))
              replace own4 : OwnC w904 w10.heap.size v4 Lp := own4
              obtain ⟨a4, c4, rfl, _, _⟩ := OwnC.tab own4
              have C_4 := Lib.hid own4
              clear own4 grow4
              generalize w904 = wz4 at *
              try simp only [List.getElem_toArray, List.getElem_cons_succ, List.getElem_cons_zero]
              refine hK.out _ _ ?_ (fun hNew => ?_)
              · exact ⟨⟨⟨vcell_far (b4) (AtL.lt Ac_10.out (by show 0 < 8; omega)) Ac_10.out.z8.1.1, vcell_far (b4) (AtL.lt Ac_10.out (by show 0 < 8; omega)) Ac_10.out.z8.1.2.1, vcell_far (b4) (AtL.lt Ac_10.out (by show 0 < 8; omega)) Ac_10.out.z8.1.2.2.1, vcell_far (b4) (AtL.lt Ac_10.out (by show 0 < 8; omega)) Ac_10.out.z8.1.2.2.2.1, vcell_far (b4) (AtL.lt Ac_10.out (by show 0 < 8; omega)) Ac_10.out.z8.1.2.2.2.2.1, vcell_far (b4) (AtL.lt Ac_10.out (by show 0 < 8; omega)) Ac_10.out.z8.1.2.2.2.2.2.1, vcell_far (b4) (AtL.lt Ac_10.out (by show 0 < 8; omega)) Ac_10.out.z8.1.2.2.2.2.2.2.1, vcell_far (b4) (AtL.lt Ac_10.out (by show 0 < 8; omega)) Ac_10.out.z8.1.2.2.2.2.2.2.2⟩, ⟨vcell_far (b4) Xr_10.out.lt Xr_10.out.1.1, vcell_far (b4) Xr_10.out.lt Xr_10.out.1.2.1, vcell_far (b4) Xr_10.out.lt Xr_10.out.1.2.2.1, vcell_far (b4) Xr_10.out.lt Xr_10.out.1.2.2.2.1, vcell_far (b4) Xr_10.out.lt Xr_10.out.1.2.2.2.2⟩⟩, Lib.hid (b4)⟩
              clear hK K hHeld
              have hHeld := hNew
              clear hNew
              try simp only [Act.put, List.setIfInBounds_toArray, List.set_cons_zero, List.set_cons_succ]
              refine wpAnyH_ready (rs := [5]) (by kernel_rfl) (by simp) ?_
              refine AllReadyH.cons rfl (fun K hK => ?_) (AllReadyH.nil)
              refine wp_appC (.tmp 80) (.tmp 82) rfl w10.heap.size (.slice a4 Lp.length c4) Lp (by simp [Act.eval]) C_4.out (some ⟨wz1.heap.size, 0, none⟩) 1 1 [⟨5, 1 + (s : Int), 0, 0, false, 7, 0, 0⟩] rfl (by simp [Act.eval]) (OwnC.cs CD_4.out) (by first | omega | (simp; done) | (simp; omega)) hHeld.2.out.size ?_
              intro v5 w905 own5 grow5
              have b5 : Below w10.heap.size w10 w905 := Below.grown hHeld.2.out grow5 hHeld.2.out.size (fun k e => (World.ownsRow.lt C_4.out k e).1)
              have Z5 := Lib.hid (World.ownsRow.kept Z4.out grow5 (rows_apart Z4.out C_4.out (by decide)))
              rw [← HL.out] at own5
              replace own5 : OwnC w905 w10.heap.size v5 L2 := own5
              obtain ⟨a5, c5, rfl, _, _⟩ := OwnC.tab own5
              have C_5 := Lib.hid own5
              clear own5 grow5
              generalize w905 = wz5 at *
              try simp only [List.getElem_toArray, List.getElem_cons_succ, List.getElem_cons_zero]
              refine hK.out _ _ ?_ (fun hNew => ?_)
              · exact ⟨⟨⟨vcell_far (b5) (AtL.lt Ac_10.out (by show 0 < 8; omega)) Ac_10.out.z8.1.1, vcell_far (b5) (AtL.lt Ac_10.out (by show 0 < 8; omega)) Ac_10.out.z8.1.2.1, vcell_far (b5) (AtL.lt Ac_10.out (by show 0 < 8; omega)) Ac_10.out.z8.1.2.2.1, vcell_far (b5) (AtL.lt Ac_10.out (by show 0 < 8; omega)) Ac_10.out.z8.1.2.2.2.1, vcell_far (b5) (AtL.lt Ac_10.out (by show 0 < 8; omega)) Ac_10.out.z8.1.2.2.2.2.1, vcell_far (b5) (AtL.lt Ac_10.out (by show 0 < 8; omega)) Ac_10.out.z8.1.2.2.2.2.2.1, vcell_far (b5) (AtL.lt Ac_10.out (by show 0 < 8; omega)) Ac_10.out.z8.1.2.2.2.2.2.2.1, vcell_far (b5) (AtL.lt Ac_10.out (by show 0 < 8; omega)) Ac_10.out.z8.1.2.2.2.2.2.2.2⟩, ⟨vcell_far (b5) Xr_10.out.lt Xr_10.out.1.1, vcell_far (b5) Xr_10.out.lt Xr_10.out.1.2.1, vcell_far (b5) Xr_10.out.lt Xr_10.out.1.2.2.1, vcell_far (b5) Xr_10.out.lt Xr_10.out.1.2.2.2.1, vcell_far (b5) Xr_10.out.lt Xr_10.out.1.2.2.2.2⟩⟩, Lib.hid (b5)⟩
              clear hK K hHeld
              have hHeld := hNew
              clear hNew
              try simp only [Act.put, List.setIfInBounds_toArray, List.set_cons_zero, List.set_cons_succ]
              refine wpAnyH_ready (rs := [7]) (by kernel_rfl) (by simp) ?_
              refine AllReadyH.cons rfl (fun K hK => ?_) (AllReadyH.nil)
              go_simp
              refine (ipoldo_is L2 a5 _ c5 fr br arp crp (Pr) lr arm crm (Mr) HV.out _ p rfl (OwnC.cs C_5.out) (by omega) (HRM.out.below hHeld.2.out) (HE.out.below (HB10.out.trans (hHeld.2.out.mono HB10.out.size)))).mono ?_
              rintro en wz6 ⟨pv, mv, rfl, S, o, bP, o2, hS, b⟩
              replace o : OwnI wz6 wz5.heap.size pv PV := o
              replace o2 : OwnI wz6 S mv MV := o2
              obtain ⟨ayp, cyp, rfl, _, _⟩ := OwnI.tab o
              obtain ⟨aym, cym, rfl, _, _⟩ := OwnI.tab o2
              have Z6 := Lib.hid (ownw_later Z5.out b)
              have C_6 := Lib.hid (ownc_later C_5.out b)
              have P6 := Lib.hid (owni_mono o hHeld.2.out.size)
              have M6 := Lib.hid (owni_mono o2 (Nat.le_trans hHeld.2.out.size hS))
              have b6 := next hHeld.2.out b
              clear o o2 bP hS b
              go_wp2_with fail
              refine hK.out _ _ ?_ (fun hNew => ?_)
              · exact ⟨⟨⟨vcell_far (b6) (AtL.lt Ac_10.out (by show 0 < 8; omega)) Ac_10.out.z8.1.1, vcell_far (b6) (AtL.lt Ac_10.out (by show 0 < 8; omega)) Ac_10.out.z8.1.2.1, vcell_far (b6) (AtL.lt Ac_10.out (by show 0 < 8; omega)) Ac_10.out.z8.1.2.2.1, vcell_far (b6) (AtL.lt Ac_10.out (by show 0 < 8; omega)) Ac_10.out.z8.1.2.2.2.1, vcell_far (b6) (AtL.lt Ac_10.out (by show 0 < 8; omega)) Ac_10.out.z8.1.2.2.2.2.1, vcell_far (b6) (AtL.lt Ac_10.out (by show 0 < 8; omega)) Ac_10.out.z8.1.2.2.2.2.2.1, vcell_far (b6) (AtL.lt Ac_10.out (by show 0 < 8; omega)) Ac_10.out.z8.1.2.2.2.2.2.2.1, vcell_far (b6) (AtL.lt Ac_10.out (by show 0 < 8; omega)) Ac_10.out.z8.1.2.2.2.2.2.2.2⟩, ⟨vcell_far (b6) Xr_10.out.lt Xr_10.out.1.1, vcell_far (b6) Xr_10.out.lt Xr_10.out.1.2.1, vcell_far (b6) Xr_10.out.lt Xr_10.out.1.2.2.1, vcell_far (b6) Xr_10.out.lt Xr_10.out.1.2.2.2.1, vcell_far (b6) Xr_10.out.lt Xr_10.out.1.2.2.2.2⟩⟩, Lib.hid (b6)⟩
              clear hK K hHeld
              have hHeld := hNew
              clear hNew
              try simp only [Act.put, List.setIfInBounds_toArray, List.set_cons_zero, List.set_cons_succ]
              refine takeH (i := 8) (v := ?_) rfl rfl (by kernel_rfl) (by kernel_rfl) (by kernel_rfl) (fun _ _ _ h => h) (by rfl) ?_ (by assumption) ?_
              rotate_left 1
              · intro w hSw
                (try dsimp only at hSw)
                go_simp
                try with_reducible rfl
              try simp only [List.setIfInBounds_toArray, List.set_cons_zero, List.set_cons_succ]
              refine takeH (i := 9) (v := ?_) rfl rfl (by kernel_rfl) (by kernel_rfl) (by kernel_rfl) (fun _ _ _ h => h) (by rfl) ?_ (by assumption) ?_
              rotate_left 1
              · intro w hSw
                (try dsimp only at hSw)
                go_simp
                try with_reducible rfl
              try simp only [List.setIfInBounds_toArray, List.set_cons_zero, List.set_cons_succ]
              refine takeH (i := 10) (v := ?_) rfl rfl (by kernel_rfl) (by kernel_rfl) (by kernel_rfl) (fun _ _ _ h => h) (by rfl) ?_ (by assumption) ?_
              rotate_left 1
              · intro w hSw
                (try dsimp only at hSw)
                go_simp
                try with_reducible rfl
              try simp only [List.setIfInBounds_toArray, List.set_cons_zero, List.set_cons_succ]
              refine wpAnyH_ready (rs := [12]) (by kernel_rfl) (by simp) ?_
              refine AllReadyH.cons rfl (fun K hK => ?_) (AllReadyH.nil)
              refine wp_stA 36 (.tmp 12) (.tmp 86) rfl (wz2.heap.size) #[.int .i64 fV, .int .i64 bV, .slice ayp PV.length cyp, .int .i64 lV, .slice aym MV.length cym] (by simp [Act.eval]) (by simp [Act.eval]) (one5a _ _ _ _ _ _ _ _ _) infoR5 _ (OwnW.atl Z6.out) rfl ?_
              intro wz7 aa gg
              have HF : Hid (CutY w10 (wz2.heap.size) fV bV lV PV MV ayp cyp aym cym wz7) := Lib.hid (CutY.mk' hHeld.2.out Z6.out P6.out M6.out aa gg)
              clear aa gg
              try simp only [List.getElem_toArray, List.getElem_cons_succ, List.getElem_cons_zero]
              refine hK.out _ _ ?_ (fun hNew => ?_)
              · exact ⟨⟨⟨vcell_far (HF.out.bel) (AtL.lt Ac_10.out (by show 0 < 8; omega)) Ac_10.out.z8.1.1, vcell_far (HF.out.bel) (AtL.lt Ac_10.out (by show 0 < 8; omega)) Ac_10.out.z8.1.2.1, vcell_far (HF.out.bel) (AtL.lt Ac_10.out (by show 0 < 8; omega)) Ac_10.out.z8.1.2.2.1, vcell_far (HF.out.bel) (AtL.lt Ac_10.out (by show 0 < 8; omega)) Ac_10.out.z8.1.2.2.2.1, vcell_far (HF.out.bel) (AtL.lt Ac_10.out (by show 0 < 8; omega)) Ac_10.out.z8.1.2.2.2.2.1, vcell_far (HF.out.bel) (AtL.lt Ac_10.out (by show 0 < 8; omega)) Ac_10.out.z8.1.2.2.2.2.2.1, vcell_far (HF.out.bel) (AtL.lt Ac_10.out (by show 0 < 8; omega)) Ac_10.out.z8.1.2.2.2.2.2.2.1, vcell_far (HF.out.bel) (AtL.lt Ac_10.out (by show 0 < 8; omega)) Ac_10.out.z8.1.2.2.2.2.2.2.2⟩, ⟨vcell_far (HF.out.bel) Xr_10.out.lt Xr_10.out.1.1, vcell_far (HF.out.bel) Xr_10.out.lt Xr_10.out.1.2.1, vcell_far (HF.out.bel) Xr_10.out.lt Xr_10.out.1.2.2.1, vcell_far (HF.out.bel) Xr_10.out.lt Xr_10.out.1.2.2.2.1, vcell_far (HF.out.bel) Xr_10.out.lt Xr_10.out.1.2.2.2.2⟩⟩, Lib.hid (HF.out.bel)⟩
              clear hK K hHeld
              have hHeld := hNew
              clear hNew
              try simp only [Act.put, List.setIfInBounds_toArray, List.set_cons_zero, List.set_cons_succ]
              refine takeH (i := 13) (v := ?_) rfl rfl (by kernel_rfl) (by kernel_rfl) (by kernel_rfl) (fun _ _ _ h => h) (by rfl) ?_ (by assumption) ?_
              rotate_left 1
              · intro w hSw
                (try dsimp only at hSw)
                go_simp
                try with_reducible rfl
              try simp only [List.setIfInBounds_toArray, List.set_cons_zero, List.set_cons_succ]
              refine wpAnyH_done (by kernel_rfl) ?_ _
              clear hHeld
              go_wp2_with fail
              go_meet
              exact ⟨_, _, _, _, _, rfl, rfl, HF⟩
          · go_simp
            have be2 : Below wz1.heap.size wz1 (wz1.alloc (.cells #[.int .i64 0, .int .i64 0, .slice none 0 0, .int .i64 0, .slice none 0 0] 36)) := (Below.refl _ _).alloc (Nat.le_refl _) _
            have C_2 := Lib.hid (ownc_later C_1.out be2)
            have Z2 := Lib.hid (ownw_zero wz1 w10.heap.size hHeld.2.out.size)
            generalize wz1.alloc (.cells #[.int .i64 0, .int .i64 0, .slice none 0 0, .int .i64 0, .slice none 0 0] 36) = wz2 at *
            refine hK.out _ _ ?_ (fun hNew => ?_)
            · exact ⟨⟨⟨vcell_far (next hHeld.2.out be2) (AtL.lt Ac_10.out (by show 0 < 8; omega)) Ac_10.out.z8.1.1, vcell_far (next hHeld.2.out be2) (AtL.lt Ac_10.out (by show 0 < 8; omega)) Ac_10.out.z8.1.2.1, vcell_far (next hHeld.2.out be2) (AtL.lt Ac_10.out (by show 0 < 8; omega)) Ac_10.out.z8.1.2.2.1, vcell_far (next hHeld.2.out be2) (AtL.lt Ac_10.out (by show 0 < 8; omega)) Ac_10.out.z8.1.2.2.2.1, vcell_far (next hHeld.2.out be2) (AtL.lt Ac_10.out (by show 0 < 8; omega)) Ac_10.out.z8.1.2.2.2.2.1, vcell_far (next hHeld.2.out be2) (AtL.lt Ac_10.out (by show 0 < 8; omega)) Ac_10.out.z8.1.2.2.2.2.2.1, vcell_far (next hHeld.2.out be2) (AtL.lt Ac_10.out (by show 0 < 8; omega)) Ac_10.out.z8.1.2.2.2.2.2.2.1, vcell_far (next hHeld.2.out be2) (AtL.lt Ac_10.out (by show 0 < 8; omega)) Ac_10.out.z8.1.2.2.2.2.2.2.2⟩, ⟨vcell_far (next hHeld.2.out be2) Xr_10.out.lt Xr_10.out.1.1, vcell_far (next hHeld.2.out be2) Xr_10.out.lt Xr_10.out.1.2.1, vcell_far (next hHeld.2.out be2) Xr_10.out.lt Xr_10.out.1.2.2.1, vcell_far (next hHeld.2.out be2) Xr_10.out.lt Xr_10.out.1.2.2.2.1, vcell_far (next hHeld.2.out be2) Xr_10.out.lt Xr_10.out.1.2.2.2.2⟩⟩, Lib.hid (next hHeld.2.out be2)⟩
            clear hK K hHeld
            have hHeld := hNew
            clear hNew
            try simp only [Act.put, List.setIfInBounds_toArray, List.set_cons_zero, List.set_cons_succ]
            refine wpAnyH_ready (rs := [2, 4]) (by kernel_rfl) (by simp) ?_
            refine AllReadyH.cons rfl (fun K hK => ?_) (AllReadyH.cons rfl (fun K hK => ?_) (AllReadyH.nil))
            · refine wp_appC (.tmp 78) (.tmp 79) rfl w10.heap.size (.slice (some ⟨wz0.heap.size, 0, none⟩) 0 0) [] (by simp [Act.eval]) C_2.out ap Lp.length cp Lp rfl (by simp [Act.eval]) ((OwnC.cs Cp_10.out).below hHeld.2.out) (by first | omega | (simp; done) | (simp; omega)) hHeld.2.out.size ?_
              intro v3 w903 own3 grow3
              have b3 : Below w10.heap.size w10 w903 := Below.grown hHeld.2.out grow3 hHeld.2.out.size (fun k e => (World.ownsRow.lt C_2.out k e).1)
              have Z3 := Lib.hid (World.ownsRow.kept Z2.out grow3 (rows_apart Z2.out C_2.out (by decide)))
              replace own3 : OwnC w903 w10.heap.size v3 Lp := own3
              obtain ⟨a3, c3, rfl, _, _⟩ := OwnC.tab own3
              have C_3 := Lib.hid own3
              clear own3 grow3
              generalize w903 = wz3 at *
              try simp only [List.getElem_toArray, List.getElem_cons_succ, List.getElem_cons_zero]
              refine hK.out _ _ ?_ (fun hNew => ?_)
              · exact ⟨⟨⟨vcell_far (b3) (AtL.lt Ac_10.out (by show 0 < 8; omega)) Ac_10.out.z8.1.1, vcell_far (b3) (AtL.lt Ac_10.out (by show 0 < 8; omega)) Ac_10.out.z8.1.2.1, vcell_far (b3) (AtL.lt Ac_10.out (by show 0 < 8; omega)) Ac_10.out.z8.1.2.2.1, vcell_far (b3) (AtL.lt Ac_10.out (by show 0 < 8; omega)) Ac_10.out.z8.1.2.2.2.1, vcell_far (b3) (AtL.lt Ac_10.out (by show 0 < 8; omega)) Ac_10.out.z8.1.2.2.2.2.1, vcell_far (b3) (AtL.lt Ac_10.out (by show 0 < 8; omega)) Ac_10.out.z8.1.2.2.2.2.2.1, vcell_far (b3) (AtL.lt Ac_10.out (by show 0 < 8; omega)) Ac_10.out.z8.1.2.2.2.2.2.2.1, vcell_far (b3) (AtL.lt Ac_10.out (by show 0 < 8; omega)) Ac_10.out.z8.1.2.2.2.2.2.2.2⟩, ⟨vcell_far (b3) Xr_10.out.lt Xr_10.out.1.1, vcell_far (b3) Xr_10.out.lt Xr_10.out.1.2.1, vcell_far (b3) Xr_10.out.lt Xr_10.out.1.2.2.1, vcell_far (b3) Xr_10.out.lt Xr_10.out.1.2.2.2.1, vcell_far (b3) Xr_10.out.lt Xr_10.out.1.2.2.2.2⟩⟩, Lib.hid (b3)⟩
              clear hK K hHeld
              have hHeld := hNew
              clear hNew
              try simp only [Act.put, List.setIfInBounds_toArray, List.set_cons_zero, List.set_cons_succ]
              refine wpAnyH_ready (rs := [4]) (by kernel_rfl) (by simp) ?_
              refine AllReadyH.cons rfl (fun K hK => ?_) (AllReadyH.nil)
              go_simp
              have be4 : Below wz3.heap.size wz3 (wz3.alloc (.cells #[.int .i64 5, .int .i64 (1 + (s : Int)), .int .i64 0, .int .i64 0, .bool false, .int .i64 7, .int .i64 0, .int .i64 0] 33)) := (Below.refl _ _).alloc (Nat.le_refl _) _
              have Z4 := Lib.hid (ownw_later Z3.out be4)
              have C_4 := Lib.hid (ownc_later C_3.out be4)
              have CD_4 := Lib.hid (ownc_one wz3 w10.heap.size hHeld.2.out.size ⟨5, 1 + (s : Int), 0, 0, false, 7, 0, 0⟩)
              change Hid (OwnC (wz3.alloc (.cells #[.int .i64 5, .int .i64 (1 + (s : Int)), .int .i64 0, .int .i64 0, .bool false, .int .i64 7, .int .i64 0, .int .i64 0] 33)) _ _ _) at CD_4
              generalize wz3.alloc (.cells #[.int .i64 5, .int .i64 (1 + (s : Int)), .int .i64 0, .int .i64 0, .bool false, .int .i64 7, .int .i64 0, .int .i64 0] 33) = wz4 at *
              refine hK.out _ _ ?_ (fun hNew => ?_)
              · exact ⟨⟨⟨vcell_far (next hHeld.2.out be4) (AtL.lt Ac_10.out (by show 0 < 8; omega)) Ac_10.out.z8.1.1, vcell_far (next hHeld.2.out be4) (AtL.lt Ac_10.out (by show 0 < 8; omega)) Ac_10.out.z8.1.2.1, vcell_far (next hHeld.2.out be4) (AtL.lt Ac_10.out (by show 0 < 8; omega)) Ac_10.out.z8.1.2.2.1, vcell_far (next hHeld.2.out be4) (AtL.lt Ac_10.out (by show 0 < 8; omega)) Ac_10.out.z8.1.2.2.2.1, vcell_far (next hHeld.2.out be4) (AtL.lt Ac_10.out (by show 0 < 8; omega)) Ac_10.out.z8.1.2.2.2.2.1, vcell_far (next hHeld.2.out be4) (AtL.lt Ac_10.out (by show 0 < 8; omega)) Ac_10.out.z8.1.2.2.2.2.2.1, vcell_far (next hHeld.2.out be4) (AtL.lt Ac_10.out (by show 0 < 8; omega)) Ac_10.out.z8.1.2.2.2.2.2.2.1, vcell_far (next hHeld.2.out be4) (AtL.lt Ac_10.out (by show 0 < 8; omega)) Ac_10.out.z8.1.2.2.2.2.2.2.2⟩, ⟨vcell_far (next hHeld.2.out be4) Xr_10.out.lt Xr_10.out.1.1, vcell_far (next hHeld.2.out be4) Xr_10.out.lt Xr_10.out.1.2.1, vcell_far (next hHeld.2.out be4) Xr_10.out.lt Xr_10.out.1.2.2.1, vcell_far (next hHeld.2.out be4) Xr_10.out.lt Xr_10.out.1.2.2.2.1, vcell_far (next hHeld.2.out be4) Xr_10.out.lt Xr_10.out.1.2.2.2.2⟩⟩, Lib.hid (next hHeld.2.out be4)⟩
              clear hK K hHeld
              have hHeld := hNew
              clear hNew
              try simp only [Act.put, List.setIfInBounds_toArray, List.set_cons_zero, List.set_cons_succ]
              refine wpAnyH_ready (rs := [5]) (by kernel_rfl) (by simp) ?_
              refine AllReadyH.cons rfl (fun K hK => ?_) (AllReadyH.nil)
              refine wp_appC (.tmp 80) (.tmp 82) rfl w10.heap.size (.slice a3 Lp.length c3) Lp (by simp [Act.eval]) C_4.out (some ⟨wz3.heap.size, 0, none⟩) 1 1 [⟨5, 1 + (s : Int), 0, 0, false, 7, 0, 0⟩] rfl (by simp [Act.eval]) (OwnC.cs CD_4.out) (by first | omega | (simp; done) | (simp; omega)) hHeld.2.out.size ?_
              intro v5 w905 own5 grow5
              have b5 : Below w10.heap.size w10 w905 := Below.grown hHeld.2.out grow5 hHeld.2.out.size (fun k e => (World.ownsRow.lt C_4.out k e).1)
              have Z5 := Lib.hid (World.ownsRow.kept Z4.out grow5 (rows_apart Z4.out C_4.out (by decide)))
              rw [← HL.out] at own5
              replace own5 : OwnC w905 w10.heap.size v5 L2 := own5
              obtain ⟨a5, c5, rfl, _, _⟩ := OwnC.tab own5
              have C_5 := Lib.hid own5
              clear own5 grow5
              generalize w905 = wz5 at *
              try simp only [List.getElem_toArray, List.getElem_cons_succ, List.getElem_cons_zero]
              refine hK.out _ _ ?_ (fun hNew => ?_)
              · exact ⟨⟨⟨vcell_far (b5) (AtL.lt Ac_10.out (by show 0 < 8; omega)) Ac_10.out.z8.1.1, vcell_far (b5) (AtL.lt Ac_10.out (by show 0 < 8; omega)) Ac_10.out.z8.1.2.1, vcell_far (b5) (AtL.lt Ac_10.out (by show 0 < 8; omega)) Ac_10.out.z8.1.2.2.1, vcell_far (b5) (AtL.lt Ac_10.out (by show 0 < 8; omega)) Ac_10.out.z8.1.2.2.2.1, vcell_far (b5) (AtL.lt Ac_10.out (by show 0 < 8; omega)) Ac_10.out.z8.1.2.2.2.2.1, vcell_far (b5) (AtL.lt Ac_10.out (by show 0 < 8; omega)) Ac_10.out.z8.1.2.2.2.2.2.1, vcell_far (b5) (AtL.lt Ac_10.out (by show 0 < 8; omega)) Ac_10.out.z8.1.2.2.2.2.2.2.1, vcell_far (b5) (AtL.lt Ac_10.out (by show 0 < 8; omega)) Ac_10.out.z8.1.2.2.2.2.2.2.2⟩, ⟨vcell_far (b5) Xr_10.out.lt Xr_10.out.1.1, vcell_far (b5) Xr_10.out.lt Xr_10.out.1.2.1, vcell_far (b5) Xr_10.out.lt Xr_10.out.1.2.2.1, vcell_far (b5) Xr_10.out.lt Xr_10.out.1.2.2.2.1, vcell_far (b5) Xr_10.out.lt Xr_10.out.1.2.2.2.2⟩⟩, Lib.hid (b5)⟩
              clear hK K hHeld
              have hHeld := hNew
              clear hNew
              try simp only [Act.put, List.setIfInBounds_toArray, List.set_cons_zero, List.set_cons_succ]
              refine wpAnyH_ready (rs := [7]) (by kernel_rfl) (by simp) ?_
              refine AllReadyH.cons rfl (fun K hK => ?_) (AllReadyH.nil)
              go_simp
              refine (ipoldo_is L2 a5 _ c5 fr br arp crp (Pr) lr arm crm (Mr) HV.out _ p rfl (OwnC.cs C_5.out) (by omega) (HRM.out.below hHeld.2.out) (HE.out.below (HB10.out.trans (hHeld.2.out.mono HB10.out.size)))).mono ?_
              rintro en wz6 ⟨pv, mv, rfl, S, o, bP, o2, hS, b⟩
              replace o : OwnI wz6 wz5.heap.size pv PV := o
              replace o2 : OwnI wz6 S mv MV := o2
              obtain ⟨ayp, cyp, rfl, _, _⟩ := OwnI.tab o
              obtain ⟨aym, cym, rfl, _, _⟩ := OwnI.tab o2
              have Z6 := Lib.hid (ownw_later Z5.out b)
              have C_6 := Lib.hid (ownc_later C_5.out b)
              have P6 := Lib.hid (owni_mono o hHeld.2.out.size)
              have M6 := Lib.hid (owni_mono o2 (Nat.le_trans hHeld.2.out.size hS))
              have b6 := next hHeld.2.out b
              clear o o2 bP hS b
              go_wp2_with fail
              refine hK.out _ _ ?_ (fun hNew => ?_)
              · exact ⟨⟨⟨vcell_far (b6) (AtL.lt Ac_10.out (by show 0 < 8; omega)) Ac_10.out.z8.1.1, vcell_far (b6) (AtL.lt Ac_10.out (by show 0 < 8; omega)) Ac_10.out.z8.1.2.1, vcell_far (b6) (AtL.lt Ac_10.out (by show 0 < 8; omega)) Ac_10.out.z8.1.2.2.1, vcell_far (b6) (AtL.lt Ac_10.out (by show 0 < 8; omega)) Ac_10.out.z8.1.2.2.2.1, vcell_far (b6) (AtL.lt Ac_10.out (by show 0 < 8; omega)) Ac_10.out.z8.1.2.2.2.2.1, vcell_far (b6) (AtL.lt Ac_10.out (by show 0 < 8; omega)) Ac_10.out.z8.1.2.2.2.2.2.1, vcell_far (b6) (AtL.lt Ac_10.out (by show 0 < 8; omega)) Ac_10.out.z8.1.2.2.2.2.2.2.1, vcell_far (b6) (AtL.lt Ac_10.out (by show 0 < 8; omega)) Ac_10.out.z8.1.2.2.2.2.2.2.2⟩, ⟨vcell_far (b6) Xr_10.out.lt Xr_10.out.1.1, vcell_far (b6) Xr_10.out.lt Xr_10.out.1.2.1, vcell_far (b6) Xr_10.out.lt Xr_10.out.1.2.2.1, vcell_far (b6) Xr_10.out.lt Xr_10.out.1.2.2.2.1, vcell_far (b6) Xr_10.out.lt Xr_10.out.1.2.2.2.2⟩⟩, Lib.hid (b6)⟩
              clear hK K hHeld
              have hHeld := hNew
              clear hNew
              try simp only [Act.put, List.setIfInBounds_toArray, List.set_cons_zero, List.set_cons_succ]
              refine takeH (i := 8) (v := ?_) rfl rfl (by kernel_rfl) (by kernel_rfl) (by kernel_rfl) (fun _ _ _ h => h) (by rfl) ?_ (by assumption) ?_
              rotate_left 1
              · intro w hSw
                (try dsimp only at hSw)
                go_simp
                try with_reducible rfl
              try simp only [List.setIfInBounds_toArray, List.set_cons_zero, List.set_cons_succ]
              refine takeH (i := 9) (v := ?_) rfl rfl (by kernel_rfl) (by kernel_rfl) (by kernel_rfl) (fun _ _ _ h => h) (by rfl) ?_ (by assumption) ?_
              rotate_left 1
              · intro w hSw
                (try dsimp only at hSw)
                go_simp
                try with_reducible rfl
              try simp only [List.setIfInBounds_toArray, List.set_cons_zero, List.set_cons_succ]
              refine takeH (i := 10) (v := ?_) rfl rfl (by kernel_rfl) (by kernel_rfl) (by kernel_rfl) (fun _ _ _ h => h) (by rfl) ?_ (by assumption) ?_
              rotate_left 1
              · intro w hSw
                (try dsimp only at hSw)
                go_simp
                try with_reducible rfl
              try simp only [List.setIfInBounds_toArray, List.set_cons_zero, List.set_cons_succ]
              refine wpAnyH_ready (rs := [12]) (by kernel_rfl) (by simp) ?_
              refine AllReadyH.cons rfl (fun K hK => ?_) (AllReadyH.nil)
              refine wp_stA 36 (.tmp 12) (.tmp 86) rfl (wz1.heap.size) #[.int .i64 fV, .int .i64 bV, .slice ayp PV.length cyp, .int .i64 lV, .slice aym MV.length cym] (by simp [Act.eval]) (by simp [Act.eval]) (one5a _ _ _ _ _ _ _ _ _) infoR5 _ (OwnW.atl Z6.out) rfl ?_
              intro wz7 aa gg
              have HF : Hid (CutY w10 (wz1.heap.size) fV bV lV PV MV ayp cyp aym cym wz7) := Lib.hid (CutY.mk' hHeld.2.out Z6.out P6.out M6.out aa gg)
              clear aa gg
              try simp only [List.getElem_toArray, List.getElem_cons_succ, List.getElem_cons_zero]
              refine hK.out _ _ ?_ (fun hNew => ?_)
              · exact ⟨⟨⟨vcell_far (HF.out.bel) (AtL.lt Ac_10.out (by show 0 < 8; omega)) Ac_10.out.z8.1.1, vcell_far (HF.out.bel) (AtL.lt Ac_10.out (by show 0 < 8; omega)) Ac_10.out.z8.1.2.1, vcell_far (HF.out.bel) (AtL.lt Ac_10.out (by show 0 < 8; omega)) Ac_10.out.z8.1.2.2.1, vcell_far (HF.out.bel) (AtL.lt Ac_10.out (by show 0 < 8; omega)) Ac_10.out.z8.1.2.2.2.1, vcell_far (HF.out.bel) (AtL.lt Ac_10.out (by show 0 < 8; omega)) Ac_10.out.z8.1.2.2.2.2.1, vcell_far (HF.out.bel) (AtL.lt Ac_10.out (by show 0 < 8; omega)) Ac_10.out.z8.1.2.2.2.2.2.1, vcell_far (HF.out.bel) (AtL.lt Ac_10.out (by show 0 < 8; omega)) Ac_10.out.z8.1.2.2.2.2.2.2.1, vcell_far (HF.out.bel) (AtL.lt Ac_10.out (by show 0 < 8; omega)) Ac_10.out.z8.1.2.2.2.2.2.2.2⟩, ⟨vcell_far (HF.out.bel) Xr_10.out.lt Xr_10.out.1.1, vcell_far (HF.out.bel) Xr_10.out.lt Xr_10.out.1.2.1, vcell_far (HF.out.bel) Xr_10.out.lt Xr_10.out.1.2.2.1, vcell_far (HF.out.bel) Xr_10.out.lt Xr_10.out.1.2.2.2.1, vcell_far (HF.out.bel) Xr_10.out.lt Xr_10.out.1.2.2.2.2⟩⟩, Lib.hid (HF.out.bel)⟩
              clear hK K hHeld
              have hHeld := hNew
              clear hNew
              try simp only [Act.put, List.setIfInBounds_toArray, List.set_cons_zero, List.set_cons_succ]
              refine takeH (i := 13) (v := ?_) rfl rfl (by kernel_rfl) (by kernel_rfl) (by kernel_rfl) (fun _ _ _ h => h) (by rfl) ?_ (by assumption) ?_
              rotate_left 1
              · intro w hSw
                (try dsimp only at hSw)
                go_simp
                try with_reducible rfl
              try simp only [List.setIfInBounds_toArray, List.set_cons_zero, List.set_cons_succ]
              refine wpAnyH_done (by kernel_rfl) ?_ _
              clear hHeld
              go_wp2_with fail
              go_meet
              exact ⟨_, _, _, _, _, rfl, rfl, HF⟩
            · go_simp
              have be3 : Below wz2.heap.size wz2 (wz2.alloc (.cells #[.int .i64 5, .int .i64 (1 + (s : Int)), .int .i64 0, .int .i64 0, .bool false, .int .i64 7, .int .i64 0, .int .i64 0] 33)) := (Below.refl _ _).alloc (Nat.le_refl _) _
              have Z3 := Lib.hid (ownw_later Z2.out be3)
              have C_3 := Lib.hid (ownc_later C_2.out be3)
              have neCD : wz2.heap.size ≠ wz0.heap.size := by have h0 := (World.ownsRow.lt C_2.out _ rfl).2; simp only [World.size_alloc] at h0; omega
              have CD_3 := Lib.hid (ownc_one wz2 w10.heap.size hHeld.2.out.size ⟨5, 1 + (s : Int), 0, 0, false, 7, 0, 0⟩)
              change Hid (OwnC (wz2.alloc (.cells #[.int .i64 5, .int .i64 (1 + (s : Int)), .int .i64 0, .int .i64 0, .bool false, .int .i64 7, .int .i64 0, .int .i64 0] 33)) _ _ _) at CD_3
              generalize wz2.alloc (.cells #[.int .i64 5, .int .i64 (1 + (s : Int)), .int .i64 0, .int .i64 0, .bool false, .int .i64 7, .int .i64 0, .int .i64 0] 33) = wz3 at *
              refine hK.out _ _ ?_ (fun hNew => ?_)
              · exact ⟨⟨⟨vcell_far (next hHeld.2.out be3) (AtL.lt Ac_10.out (by show 0 < 8; omega)) Ac_10.out.z8.1.1, vcell_far (next hHeld.2.out be3) (AtL.lt Ac_10.out (by show 0 < 8; omega)) Ac_10.out.z8.1.2.1, vcell_far (next hHeld.2.out be3) (AtL.lt Ac_10.out (by show 0 < 8; omega)) Ac_10.out.z8.1.2.2.1, vcell_far (next hHeld.2.out be3) (AtL.lt Ac_10.out (by show 0 < 8; omega)) Ac_10.out.z8.1.2.2.2.1, vcell_far (next hHeld.2.out be3) (AtL.lt Ac_10.out (by show 0 < 8; omega)) Ac_10.out.z8.1.2.2.2.2.1, vcell_far (next hHeld.2.out be3) (AtL.lt Ac_10.out (by show 0 < 8; omega)) Ac_10.out.z8.1.2.2.2.2.2.1, vcell_far (next hHeld.2.out be3) (AtL.lt Ac_10.out (by show 0 < 8; omega)) Ac_10.out.z8.1.2.2.2.2.2.2.1, vcell_far (next hHeld.2.out be3) (AtL.lt Ac_10.out (by show 0 < 8; omega)) Ac_10.out.z8.1.2.2.2.2.2.2.2⟩, ⟨vcell_far (next hHeld.2.out be3) Xr_10.out.lt Xr_10.out.1.1, vcell_far (next hHeld.2.out be3) Xr_10.out.lt Xr_10.out.1.2.1, vcell_far (next hHeld.2.out be3) Xr_10.out.lt Xr_10.out.1.2.2.1, vcell_far (next hHeld.2.out be3) Xr_10.out.lt Xr_10.out.1.2.2.2.1, vcell_far (next hHeld.2.out be3) Xr_10.out.lt Xr_10.out.1.2.2.2.2⟩⟩, Lib.hid (next hHeld.2.out be3)⟩
              clear hK K hHeld
              have hHeld := hNew
              clear hNew
              try simp only [Act.put, List.setIfInBounds_toArray, List.set_cons_zero, List.set_cons_succ]
              refine wpAnyH_ready (rs := [2]) (by kernel_rfl) (by simp) ?_
              refine AllReadyH.cons rfl (fun K hK => ?_) (AllReadyH.nil)
              refine wp_appC (.tmp 78) (.tmp 79) rfl w10.heap.size (.slice (some ⟨wz0.heap.size, 0, none⟩) 0 0) [] (by simp [Act.eval]) C_3.out ap Lp.length cp Lp rfl (by simp [Act.eval]) ((OwnC.cs Cp_10.out).below hHeld.2.out) (by first | omega | (simp; done) | (simp; omega)) hHeld.2.out.size ?_
              intro v4 w904 own4 grow4
              have b4 : Below w10.heap.size w10 w904 := Below.grown hHeld.2.out grow4 hHeld.2.out.size (fun k e => (World.ownsRow.lt C_3.out k e).1)
              have Z4 := Lib.hid (World.ownsRow.kept Z3.out grow4 (rows_apart Z3.out C_3.out (by decide)))
              have CD_4 := Lib.hid (World.ownsRow.kept CD_3.out grow4 (.inr (fun e => neCD (by simpa [Value.ownBlock] using e))))
              replace own4 : OwnC w904 w10.heap.size v4 Lp := own4
              obtain ⟨a4, c4, rfl, _, _⟩ := OwnC.tab own4
              have C_4 := Lib.hid own4
              clear own4 grow4
              generalize w904 = wz4 at *
              try simp only [List.getElem_toArray, List.getElem_cons_succ, List.getElem_cons_zero]
              refine hK.out _ _ ?_ (fun hNew => ?_)
              · exact ⟨⟨⟨vcell_far (b4) (AtL.lt Ac_10.out (by show 0 < 8; omega)) Ac_10.out.z8.1.1, vcell_far (b4) (AtL.lt Ac_10.out (by show 0 < 8; omega)) Ac_10.out.z8.1.2.1, vcell_far (b4) (AtL.lt Ac_10.out (by show 0 < 8; omega)) Ac_10.out.z8.1.2.2.1, vcell_far (b4) (AtL.lt Ac_10.out (by show 0 < 8; omega)) Ac_10.out.z8.1.2.2.2.1, vcell_far (b4) (AtL.lt Ac_10.out (by show 0 < 8; omega)) Ac_10.out.z8.1.2.2.2.2.1, vcell_far (b4) (AtL.lt Ac_10.out (by show 0 < 8; omega)) Ac_10.out.z8.1.2.2.2.2.2.1, vcell_far (b4) (AtL.lt Ac_10.out (by show 0 < 8; omega)) Ac_10.out.z8.1.2.2.2.2.2.2.1, vcell_far (b4) (AtL.lt Ac_10.out (by show 0 < 8; omega)) Ac_10.out.z8.1.2.2.2.2.2.2.2⟩, ⟨vcell_far (b4) Xr_10.out.lt Xr_10.out.1.1, vcell_far (b4) Xr_10.out.lt Xr_10.out.1.2.1, vcell_far (b4) Xr_10.out.lt Xr_10.out.1.2.2.1, vcell_far (b4) Xr_10.out.lt Xr_10.out.1.2.2.2.1, vcell_far (b4) Xr_10.out.lt Xr_10.out.1.2.2.2.2⟩⟩, Lib.hid (b4)⟩
              clear hK K hHeld
              have hHeld := hNew
              clear hNew
              try simp only [Act.put, List.setIfInBounds_toArray, List.set_cons_zero, List.set_cons_succ]
              refine wpAnyH_ready (rs := [5]) (by kernel_rfl) (by simp) ?_
              refine AllReadyH.cons rfl (fun K hK => ?_) (AllReadyH.nil)
              refine wp_appC (.tmp 80) (.tmp 82) rfl w10.heap.size (.slice a4 Lp.length c4) Lp (by simp [Act.eval]) C_4.out (some ⟨wz2.heap.size, 0, none⟩) 1 1 [⟨5, 1 + (s : Int), 0, 0, false, 7, 0, 0⟩] rfl (by simp [Act.eval]) (OwnC.cs CD_4.out) (by first | omega | (simp; done) | (simp; omega)) hHeld.2.out.size ?_
              intro v5 w905 own5 grow5
              have b5 : Below w10.heap.size w10 w905 := Below.grown hHeld.2.out grow5 hHeld.2.out.size (fun k e => (World.ownsRow.lt C_4.out k e).1)
              have Z5 := Lib.hid (World.ownsRow.kept Z4.out grow5 (rows_apart Z4.out C_4.out (by decide)))
              rw [← HL.out] at own5
              replace own5 : OwnC w905 w10.heap.size v5 L2 := own5
              obtain ⟨a5, c5, rfl, _, _⟩ := OwnC.tab own5
              have C_5 := Lib.hid own5
              clear own5 grow5
              generalize w905 = wz5 at *
              try simp only [List.getElem_toArray, List.getElem_cons_succ, List.getElem_cons_zero]
              refine hK.out _ _ ?_ (fun hNew => ?_)
              · exact ⟨⟨⟨vcell_far (b5) (AtL.lt Ac_10.out (by show 0 < 8; omega)) Ac_10.out.z8.1.1, vcell_far (b5) (AtL.lt Ac_10.out (by show 0 < 8; omega)) Ac_10.out.z8.1.2.1, vcell_far (b5) (AtL.lt Ac_10.out (by show 0 < 8; omega)) Ac_10.out.z8.1.2.2.1, vcell_far (b5) (AtL.lt Ac_10.out (by show 0 < 8; omega)) Ac_10.out.z8.1.2.2.2.1, vcell_far (b5) (AtL.lt Ac_10.out (by show 0 < 8; omega)) Ac_10.out.z8.1.2.2.2.2.1, vcell_far (b5) (AtL.lt Ac_10.out (by show 0 < 8; omega)) Ac_10.out.z8.1.2.2.2.2.2.1, vcell_far (b5) (AtL.lt Ac_10.out (by show 0 < 8; omega)) Ac_10.out.z8.1.2.2.2.2.2.2.1, vcell_far (b5) (AtL.lt Ac_10.out (by show 0 < 8; omega)) Ac_10.out.z8.1.2.2.2.2.2.2.2⟩, ⟨vcell_far (b5) Xr_10.out.lt Xr_10.out.1.1, vcell_far (b5) Xr_10.out.lt Xr_10.out.1.2.1, vcell_far (b5) Xr_10.out.lt Xr_10.out.1.2.2.1, vcell_far (b5) Xr_10.out.lt Xr_10.out.1.2.2.2.1, vcell_far (b5) Xr_10.out.lt Xr_10.out.1.2.2.2.2⟩⟩, Lib.hid (b5)⟩
              clear hK K hHeld
              have hHeld := hNew
              clear hNew
              try simp only [Act.put, List.setIfInBounds_toArray, List.set_cons_zero, List.set_cons_succ]
              refine wpAnyH_ready (rs := [7]) (by kernel_rfl) (by simp) ?_
              refine AllReadyH.cons rfl (fun K hK => ?_) (AllReadyH.nil)
              go_simp
              refine (ipoldo_is L2 a5 _ c5 fr br arp crp (Pr) lr arm crm (Mr) HV.out _ p rfl (OwnC.cs C_5.out) (by omega) (HRM.out.below hHeld.2.out) (HE.out.below (HB10.out.trans (hHeld.2.out.mono HB10.out.size)))).mono ?_
              rintro en wz6 ⟨pv, mv, rfl, S, o, bP, o2, hS, b⟩
              replace o : OwnI wz6 wz5.heap.size pv PV := o
              replace o2 : OwnI wz6 S mv MV := o2
              obtain ⟨ayp, cyp, rfl, _, _⟩ := OwnI.tab o
              obtain ⟨aym, cym, rfl, _, _⟩ := OwnI.tab o2
              have Z6 := Lib.hid (ownw_later Z5.out b)
              have C_6 := Lib.hid (ownc_later C_5.out b)
              have P6 := Lib.hid (owni_mono o hHeld.2.out.size)
              have M6 := Lib.hid (owni_mono o2 (Nat.le_trans hHeld.2.out.size hS))
              have b6 := next hHeld.2.out b
              clear o o2 bP hS b
              go_wp2_with fail
              refine hK.out _ _ ?_ (fun hNew => ?_)
              · exact ⟨⟨⟨vcell_far (b6) (AtL.lt Ac_10.out (by show 0 < 8; omega)) Ac_10.out.z8.1.1, vcell_far (b6) (AtL.lt Ac_10.out (by show 0 < 8; omega)) Ac_10.out.z8.1.2.1, vcell_far (b6) (AtL.lt Ac_10.out (by show 0 < 8; omega)) Ac_10.out.z8.1.2.2.1, vcell_far (b6) (AtL.lt Ac_10.out (by show 0 < 8; omega)) Ac_10.out.z8.1.2.2.2.1, vcell_far (b6) (AtL.lt Ac_10.out (by show 0 < 8; omega)) Ac_10.out.z8.1.2.2.2.2.1, vcell_far (b6) (AtL.lt Ac_10.out (by show 0 < 8; omega)) Ac_10.out.z8.1.2.2.2.2.2.1, vcell_far (b6) (AtL.lt Ac_10.out (by show 0 < 8; omega)) Ac_10.out.z8.1.2.2.2.2.2.2.1, vcell_far (b6) (AtL.lt Ac_10.out (by show 0 < 8; omega)) Ac_10.out.z8.1.2.2.2.2.2.2.2⟩, ⟨vcell_far (b6) Xr_10.out.lt Xr_10.out.1.1, vcell_far (b6) Xr_10.out.lt Xr_10.out.1.2.1, vcell_far (b6) Xr_10.out.lt Xr_10.out.1.2.2.1, vcell_far (b6) Xr_10.out.lt Xr_10.out.1.2.2.2.1, vcell_far (b6) Xr_10.out.lt Xr_10.out.1.2.2.2.2⟩⟩, Lib.hid (b6)⟩
              clear hK K hHeld
              have hHeld := hNew
              clear hNew
              try simp only [Act.put, List.setIfInBounds_toArray, List.set_cons_zero, List.set_cons_succ]
              refine takeH (i := 8) (v := ?_) rfl rfl (by kernel_rfl) (by kernel_rfl) (by kernel_rfl) (fun _ _ _ h => h) (by rfl) ?_ (by assumption) ?_
              rotate_left 1
              · intro w hSw
                (try dsimp only at hSw)
                go_simp
                try with_reducible rfl
              try simp only [List.setIfInBounds_toArray, List.set_cons_zero, List.set_cons_succ]
              refine takeH (i := 9) (v := ?_) rfl rfl (by kernel_rfl) (by kernel_rfl) (by kernel_rfl) (fun _ _ _ h => h) (by rfl) ?_ (by assumption) ?_
              rotate_left 1
              · intro w hSw
                (try dsimp only at hSw)
                go_simp
                try with_reducible rfl
              try simp only [List.setIfInBounds_toArray, List.set_cons_zero, List.set_cons_succ]
              refine takeH (i := 10) (v := ?_) rfl rfl (by kernel_rfl) (by kernel_rfl) (by kernel_rfl) (fun _ _ _ h => h) (by rfl) ?_ (by assumption) ?_
              rotate_left 1
              · intro w hSw
                (try dsimp only at hSw)
                go_simp
                try with_reducible rfl
              try simp only [List.setIfInBounds_toArray, List.set_cons_zero, List.set_cons_succ]
              refine wpAnyH_ready (rs := [12]) (by kernel_rfl) (by simp) ?_
              refine AllReadyH.cons rfl (fun K hK => ?_) (AllReadyH.nil)
              refine wp_stA 36 (.tmp 12) (.tmp 86) rfl (wz1.heap.size) #[.int .i64 fV, .int .i64 bV, .slice ayp PV.length cyp, .int .i64 lV, .slice aym MV.length cym] (by simp [Act.eval]) (by simp [Act.eval]) (one5a _ _ _ _ _ _ _ _ _) infoR5 _ (OwnW.atl Z6.out) rfl ?_
              intro wz7 aa gg
              have HF : Hid (CutY w10 (wz1.heap.size) fV bV lV PV MV ayp cyp aym cym wz7) := Lib.hid (CutY.mk' hHeld.2.out Z6.out P6.out M6.out aa gg)
              clear aa gg
              try simp only [List.getElem_toArray, List.getElem_cons_succ, List.getElem_cons_zero]
              refine hK.out _ _ ?_ (fun hNew => ?_)
              · exact ⟨⟨⟨vcell_far (HF.out.bel) (AtL.lt Ac_10.out (by show 0 < 8; omega)) Ac_10.out.z8.1.1, vcell_far (HF.out.bel) (AtL.lt Ac_10.out (by show 0 < 8; omega)) Ac_10.out.z8.1.2.1, vcell_far (HF.out.bel) (AtL.lt Ac_10.out (by show 0 < 8; omega)) Ac_10.out.z8.1.2.2.1, vcell_far (HF.out.bel) (AtL.lt Ac_10.out (by show 0 < 8; omega)) Ac_10.out.z8.1.2.2.2.1, vcell_far (HF.out.bel) (AtL.lt Ac_10.out (by show 0 < 8; omega)) Ac_10.out.z8.1.2.2.2.2.1, vcell_far (HF.out.bel) (AtL.lt Ac_10.out (by show 0 < 8; omega)) Ac_10.out.z8.1.2.2.2.2.2.1, vcell_far (HF.out.bel) (AtL.lt Ac_10.out (by show 0 < 8; omega)) Ac_10.out.z8.1.2.2.2.2.2.2.1, vcell_far (HF.out.bel) (AtL.lt Ac_10.out (by show 0 < 8; omega)) Ac_10.out.z8.1.2.2.2.2.2.2.2⟩, ⟨vcell_far (HF.out.bel) Xr_10.out.lt Xr_10.out.1.1, vcell_far (HF.out.bel) Xr_10.out.lt Xr_10.out.1.2.1, vcell_far (HF.out.bel) Xr_10.out.lt Xr_10.out.1.2.2.1, vcell_far (HF.out.bel) Xr_10.out.lt Xr_10.out.1.2.2.2.1, vcell_far (HF.out.bel) Xr_10.out.lt Xr_10.out.1.2.2.2.2⟩⟩, Lib.hid (HF.out.bel)⟩
              clear hK K hHeld
              have hHeld := hNew
              clear hNew
              try simp only [Act.put, List.setIfInBounds_toArray, List.set_cons_zero, List.set_cons_succ]
              refine takeH (i := 13) (v := ?_) rfl rfl (by kernel_rfl) (by kernel_rfl) (by kernel_rfl) (fun _ _ _ h => h) (by rfl) ?_ (by assumption) ?_
              rotate_left 1
              · intro w hSw
                (try dsimp only at hSw)
                go_simp
                try with_reducible rfl
              try simp only [List.setIfInBounds_toArray, List.set_cons_zero, List.set_cons_succ]
              refine wpAnyH_done (by kernel_rfl) ?_ _
              clear hHeld
              go_wp2_with fail
              go_meet
              exact ⟨_, _, _, _, _, rfl, rfl, HF⟩
        · generalize w10.drew = wz0 at *
          go_simp
          have be1 : Below wz0.heap.size wz0 (wz0.alloc (.cells #[.int .i64 5, .int .i64 (1 + (s : Int)), .int .i64 0, .int .i64 0, .bool false, .int .i64 7, .int .i64 0, .int .i64 0] 33)) := (Below.refl _ _).alloc (Nat.le_refl _) _
          have CD_1 := Lib.hid (ownc_one wz0 w10.heap.size hHeld.2.out.size ⟨5, 1 + (s : Int), 0, 0, false, 7, 0, 0⟩)
          change Hid (OwnC (wz0.alloc (.cells #[.int .i64 5, .int .i64 (1 + (s : Int)), .int .i64 0, .int .i64 0, .bool false, .int .i64 7, .int .i64 0, .int .i64 0] 33)) _ _ _) at CD_1
          generalize wz0.alloc (.cells #[.int .i64 5, .int .i64 (1 + (s : Int)), .int .i64 0, .int .i64 0, .bool false, .int .i64 7, .int .i64 0, .int .i64 0] 33) = wz1 at *
          refine hK.out _ _ ?_ (fun hNew => ?_)
          · exact ⟨⟨⟨vcell_far (next hHeld.2.out be1) (AtL.lt Ac_10.out (by show 0 < 8; omega)) Ac_10.out.z8.1.1, vcell_far (next hHeld.2.out be1) (AtL.lt Ac_10.out (by show 0 < 8; omega)) Ac_10.out.z8.1.2.1, vcell_far (next hHeld.2.out be1) (AtL.lt Ac_10.out (by show 0 < 8; omega)) Ac_10.out.z8.1.2.2.1, vcell_far (next hHeld.2.out be1) (AtL.lt Ac_10.out (by show 0 < 8; omega)) Ac_10.out.z8.1.2.2.2.1, vcell_far (next hHeld.2.out be1) (AtL.lt Ac_10.out (by show 0 < 8; omega)) Ac_10.out.z8.1.2.2.2.2.1, vcell_far (next hHeld.2.out be1) (AtL.lt Ac_10.out (by show 0 < 8; omega)) Ac_10.out.z8.1.2.2.2.2.2.1, vcell_far (next hHeld.2.out be1) (AtL.lt Ac_10.out (by show 0 < 8; omega)) Ac_10.out.z8.1.2.2.2.2.2.2.1, vcell_far (next hHeld.2.out be1) (AtL.lt Ac_10.out (by show 0 < 8; omega)) Ac_10.out.z8.1.2.2.2.2.2.2.2⟩, ⟨vcell_far (next hHeld.2.out be1) Xr_10.out.lt Xr_10.out.1.1, vcell_far (next hHeld.2.out be1) Xr_10.out.lt Xr_10.out.1.2.1, vcell_far (next hHeld.2.out be1) Xr_10.out.lt Xr_10.out.1.2.2.1, vcell_far (next hHeld.2.out be1) Xr_10.out.lt Xr_10.out.1.2.2.2.1, vcell_far (next hHeld.2.out be1) Xr_10.out.lt Xr_10.out.1.2.2.2.2⟩⟩, Lib.hid (next hHeld.2.out be1)⟩
          clear hK K hHeld
          have hHeld := hNew
          clear hNew
          try simp only [Act.put, List.setIfInBounds_toArray, List.set_cons_zero, List.set_cons_succ]
          refine wpAnyH_ready (rs := [0, 11]) (by kernel_rfl) (by simp) ?_
          refine AllReadyH.cons rfl (fun K hK => ?_) (AllReadyH.cons rfl (fun K hK => ?_) (AllReadyH.nil))
          · go_simp
            have be2 : Below wz1.heap.size wz1 (wz1.alloc (.cells #[] 33)) := (Below.refl _ _).alloc (Nat.le_refl _) _
            have CD_2 := Lib.hid (ownc_later CD_1.out be2)
            have neC : wz1.heap.size ≠ wz0.heap.size := by have h0 := (World.ownsRow.lt CD_1.out _ rfl).2; simp only [World.size_alloc] at h0; omega
            have C_2 := Lib.hid (ownc_empty wz1 w10.heap.size hHeld.2.out.size)
            generalize wz1.alloc (.cells #[] 33) = wz2 at *
            refine hK.out _ _ ?_ (fun hNew => ?_)
            · exact ⟨⟨⟨vcell_far (next hHeld.2.out be2) (AtL.lt Ac_10.out (by show 0 < 8; omega)) Ac_10.out.z8.1.1, vcell_far (next hHeld.2.out be2) (AtL.lt Ac_10.out (by show 0 < 8; omega)) Ac_10.out.z8.1.2.1, vcell_far (next hHeld.2.out be2) (AtL.lt Ac_10.out (by show 0 < 8; omega)) Ac_10.out.z8.1.2.2.1, vcell_far (next hHeld.2.out be2) (AtL.lt Ac_10.out (by show 0 < 8; omega)) Ac_10.out.z8.1.2.2.2.1, vcell_far (next hHeld.2.out be2) (AtL.lt Ac_10.out (by show 0 < 8; omega)) Ac_10.out.z8.1.2.2.2.2.1, vcell_far (next hHeld.2.out be2) (AtL.lt Ac_10.out (by show 0 < 8; omega)) Ac_10.out.z8.1.2.2.2.2.2.1, vcell_far (next hHeld.2.out be2) (AtL.lt Ac_10.out (by show 0 < 8; omega)) Ac_10.out.z8.1.2.2.2.2.2.2.1, vcell_far (next hHeld.2.out be2) (AtL.lt Ac_10.out (by show 0 < 8; omega)) Ac_10.out.z8.1.2.2.2.2.2.2.2⟩, ⟨vcell_far (next hHeld.2.out be2) Xr_10.out.lt Xr_10.out.1.1, vcell_far (next hHeld.2.out be2) Xr_10.out.lt Xr_10.out.1.2.1, vcell_far (next hHeld.2.out be2) Xr_10.out.lt Xr_10.out.1.2.2.1, vcell_far (next hHeld.2.out be2) Xr_10.out.lt Xr_10.out.1.2.2.2.1, vcell_far (next hHeld.2.out be2) Xr_10.out.lt Xr_10.out.1.2.2.2.2⟩⟩, Lib.hid (next hHeld.2.out be2)⟩
            clear hK K hHeld
            have hHeld := hNew
            clear hNew
            try simp only [Act.put, List.setIfInBounds_toArray, List.set_cons_zero, List.set_cons_succ]
            refine wpAnyH_ready (rs := [2, 11]) (by kernel_rfl) (by simp) ?_
            refine AllReadyH.cons rfl (fun K hK => ?_) (AllReadyH.cons rfl (fun K hK => ?_) (AllReadyH.nil))
            · refine wp_appC (.tmp 78) (.tmp 79) rfl w10.heap.size (.slice (some ⟨wz1.heap.size, 0, none⟩) 0 0) [] (by simp [Act.eval]) C_2.out ap Lp.length cp Lp rfl (by simp [Act.eval]) ((OwnC.cs Cp_10.out).below hHeld.2.out) (by first | omega | (simp; done) | (simp; omega)) hHeld.2.out.size ?_
              intro v3 w903 own3 grow3
              have b3 : Below w10.heap.size w10 w903 := Below.grown hHeld.2.out grow3 hHeld.2.out.size (fun k e => (World.ownsRow.lt C_2.out k e).1)
              have CD_3 := Lib.hid (World.ownsRow.kept CD_2.out grow3 (.inr (fun e => neC (by symm; simpa [Value.ownBlock] using e))))
              replace own3 : OwnC w903 w10.heap.size v3 Lp := own3
              obtain ⟨a3, c3, rfl, _, _⟩ := OwnC.tab own3
              have C_3 := Lib.hid own3
              clear own3 grow3
              generalize w903 = wz3 at *
              try simp only [List.getElem_toArray, List.getElem_cons_succ, List.getElem_cons_zero]
              refine hK.out _ _ ?_ (fun hNew => ?_)
              · exact ⟨⟨⟨vcell_far (b3) (AtL.lt Ac_10.out (by show 0 < 8; omega)) Ac_10.out.z8.1.1, vcell_far (b3) (AtL.lt Ac_10.out (by show 0 < 8; omega)) Ac_10.out.z8.1.2.1, vcell_far (b3) (AtL.lt Ac_10.out (by show 0 < 8; omega)) Ac_10.out.z8.1.2.2.1, vcell_far (b3) (AtL.lt Ac_10.out (by show 0 < 8; omega)) Ac_10.out.z8.1.2.2.2.1, vcell_far (b3) (AtL.lt Ac_10.out (by show 0 < 8; omega)) Ac_10.out.z8.1.2.2.2.2.1, vcell_far (b3) (AtL.lt Ac_10.out (by show 0 < 8; omega)) Ac_10.out.z8.1.2.2.2.2.2.1, vcell_far (b3) (AtL.lt Ac_10.out (by show 0 < 8; omega)) Ac_10.out.z8.1.2.2.2.2.2.2.1, vcell_far (b3) (AtL.lt Ac_10.out (by show 0 < 8; omega)) Ac_10.out.z8.1.2.2.2.2.2.2.2⟩, ⟨vcell_far (b3) Xr_10.out.lt Xr_10.out.1.1, vcell_far (b3) Xr_10.out.lt Xr_10.out.1.2.1, vcell_far (b3) Xr_10.out.lt Xr_10.out.1.2.2.1, vcell_far (b3) Xr_10.out.lt Xr_10.out.1.2.2.2.1, vcell_far (b3) Xr_10.out.lt Xr_10.out.1.2.2.2.2⟩⟩, Lib.hid (b3)⟩
              clear hK K hHeld
              have hHeld := hNew
              clear hNew
              try simp only [Act.put, List.setIfInBounds_toArray, List.set_cons_zero, List.set_cons_succ]
              refine wpAnyH_ready (rs := [5, 11]) (by kernel_rfl) (by simp) ?_
              refine AllReadyH.cons rfl (fun K hK => ?_) (AllReadyH.cons rfl (fun K hK => ?_) (AllReadyH.nil))
              · refine wp_appC (.tmp 80) (.tmp 82) rfl w10.heap.size (.slice a3 Lp.length c3) Lp (by simp [Act.eval]) C_3.out (some ⟨wz0.heap.size, 0, none⟩) 1 1 [⟨5, 1 + (s : Int), 0, 0, false, 7, 0, 0⟩] rfl (by simp [Act.eval]) (OwnC.cs CD_3.out) (by first | omega | (simp; done) | (simp; omega)) hHeld.2.out.size ?_
                intro v4 w904 own4 grow4
                have b4 : Below w10.heap.size w10 w904 := Below.grown hHeld.2.out grow4 hHeld.2.out.size (fun k e => (World.ownsRow.lt C_3.out k e).1)
                rw [← HL.out] at own4
                replace own4 : OwnC w904 w10.heap.size v4 L2 := own4
                obtain ⟨a4, c4, rfl, _, _⟩ := OwnC.tab own4
                have C_4 := Lib.hid own4
                clear own4 grow4
                generalize w904 = wz4 at *
                try simp only [List.getElem_toArray, List.getElem_cons_succ, List.getElem_cons_zero]
                refine hK.out _ _ ?_ (fun hNew => ?_)
                · exact ⟨⟨⟨vcell_far (b4) (AtL.lt Ac_10.out (by show 0 < 8; omega)) Ac_10.out.z8.1.1, vcell_far (b4) (AtL.lt Ac_10.out (by show 0 < 8; omega)) Ac_10.out.z8.1.2.1, vcell_far (b4) (AtL.lt Ac_10.out (by show 0 < 8; omega)) Ac_10.out.z8.1.2.2.1, vcell_far (b4) (AtL.lt Ac_10.out (by show 0 < 8; omega)) Ac_10.out.z8.1.2.2.2.1, vcell_far (b4) (AtL.lt Ac_10.out (by show 0 < 8; omega)) Ac_10.out.z8.1.2.2.2.2.1, vcell_far (b4) (AtL.lt Ac_10.out (by show 0 < 8; omega)) Ac_10.out.z8.1.2.2.2.2.2.1, vcell_far (b4) (AtL.lt Ac_10.out (by show 0 < 8; omega)) Ac_10.out.z8.1.2.2.2.2.2.2.1, vcell_far (b4) (AtL.lt Ac_10.out (by show 0 < 8; omega)) Ac_10.out.z8.1.2.2.2.2.2.2.2⟩, ⟨vcell_far (b4) Xr_10.out.lt Xr_10.out.1.1, vcell_far (b4) Xr_10.out.lt Xr_10.out.1.2.1, vcell_far (b4) Xr_10.out.lt Xr_10.out.1.2.2.1, vcell_far (b4) Xr_10.out.lt Xr_10.out.1.2.2.2.1, vcell_far (b4) Xr_10.out.lt Xr_10.out.1.2.2.2.2⟩⟩, Lib.hid (b4)⟩
                clear hK K hHeld
                have hHeld := hNew
                clear hNew
                try simp only [Act.put, List.setIfInBounds_toArray, List.set_cons_zero, List.set_cons_succ]
                refine wpAnyH_ready (rs := [7, 11]) (by kernel_rfl) (by simp) ?_
                refine AllReadyH.cons rfl (fun K hK => ?_) (AllReadyH.cons rfl (fun K hK => ?_) (AllReadyH.nil))
                · go_simp
                  refine (ipoldo_is L2 a4 _ c4 fr br arp crp (Pr) lr arm crm (Mr) HV.out _ p rfl (OwnC.cs C_4.out) (by omega) (HRM.out.below hHeld.2.out) (HE.out.below (HB10.out.trans (hHeld.2.out.mono HB10.out.size)))).mono ?_
                  rintro en wz5 ⟨pv, mv, rfl, S, o, bP, o2, hS, b⟩
                  replace o : OwnI wz5 wz4.heap.size pv PV := o
                  replace o2 : OwnI wz5 S mv MV := o2
                  obtain ⟨ayp, cyp, rfl, _, _⟩ := OwnI.tab o
                  obtain ⟨aym, cym, rfl, _, _⟩ := OwnI.tab o2
                  have C_5 := Lib.hid (ownc_later C_4.out b)
                  have P5 := Lib.hid (owni_mono o hHeld.2.out.size)
                  have M5 := Lib.hid (owni_mono o2 (Nat.le_trans hHeld.2.out.size hS))
                  have b5 := next hHeld.2.out b
                  clear o o2 bP hS b
                  go_wp2_with fail
                  refine hK.out _ _ ?_ (fun hNew => ?_)
                  · exact ⟨⟨⟨vcell_far (b5) (AtL.lt Ac_10.out (by show 0 < 8; omega)) Ac_10.out.z8.1.1, vcell_far (b5) (AtL.lt Ac_10.out (by show 0 < 8; omega)) Ac_10.out.z8.1.2.1, vcell_far (b5) (AtL.lt Ac_10.out (by show 0 < 8; omega)) Ac_10.out.z8.1.2.2.1, vcell_far (b5) (AtL.lt Ac_10.out (by show 0 < 8; omega)) Ac_10.out.z8.1.2.2.2.1, vcell_far (b5) (AtL.lt Ac_10.out (by show 0 < 8; omega)) Ac_10.out.z8.1.2.2.2.2.1, vcell_far (b5) (AtL.lt Ac_10.out (by show 0 < 8; omega)) Ac_10.out.z8.1.2.2.2.2.2.1, vcell_far (b5) (AtL.lt Ac_10.out (by show 0 < 8; omega)) Ac_10.out.z8.1.2.2.2.2.2.2.1, vcell_far (b5) (AtL.lt Ac_10.out (by show 0 < 8; omega)) Ac_10.out.z8.1.2.2.2.2.2.2.2⟩, ⟨vcell_far (b5) Xr_10.out.lt Xr_10.out.1.1, vcell_far (b5) Xr_10.out.lt Xr_10.out.1.2.1, vcell_far (b5) Xr_10.out.lt Xr_10.out.1.2.2.1, vcell_far (b5) Xr_10.out.lt Xr_10.out.1.2.2.2.1, vcell_far (b5) Xr_10.out.lt Xr_10.out.1.2.2.2.2⟩⟩, Lib.hid (b5)⟩
                  clear hK K hHeld
                  have hHeld := hNew
                  clear hNew
                  try simp only [Act.put, List.setIfInBounds_toArray, List.set_cons_zero, List.set_cons_succ]
                  refine takeH (i := 8) (v := ?_) rfl rfl (by kernel_rfl) (by kernel_rfl) (by kernel_rfl) (fun _ _ _ h => h) (by rfl) ?_ (by assumption) ?_
                  rotate_left 1
                  · intro w hSw
                    (try dsimp only at hSw)
                    go_simp
                    try with_reducible rfl
                  try simp only [List.setIfInBounds_toArray, List.set_cons_zero, List.set_cons_succ]
                  refine takeH (i := 9) (v := ?_) rfl rfl (by kernel_rfl) (by kernel_rfl) (by kernel_rfl) (fun _ _ _ h => h) (by rfl) ?_ (by assumption) ?_
                  rotate_left 1
                  · intro w hSw
                    (try dsimp only at hSw)
                    go_simp
                    try with_reducible rfl
                  try simp only [List.setIfInBounds_toArray, List.set_cons_zero, List.set_cons_succ]
                  refine takeH (i := 10) (v := ?_) rfl rfl (by kernel_rfl) (by kernel_rfl) (by kernel_rfl) (fun _ _ _ h => h) (by rfl) ?_ (by assumption) ?_
                  rotate_left 1
                  · intro w hSw
                    (try dsimp only at hSw)
                    go_simp
                    try with_reducible rfl
                  try simp only [List.setIfInBounds_toArray, List.set_cons_zero, List.set_cons_succ]
                  refine wpAnyH_ready (rs := [11]) (by kernel_rfl) (by simp) ?_
                  refine AllReadyH.cons rfl (fun K hK => ?_) (AllReadyH.nil)
                  go_simp
                  have be6 : Below wz5.heap.size wz5 (wz5.alloc (.cells #[.int .i64 0, .int .i64 0, .slice none 0 0, .int .i64 0, .slice none 0 0] 36)) := (Below.refl _ _).alloc (Nat.le_refl _) _
                  have C_6 := Lib.hid (ownc_later C_5.out be6)
                  have P6 := Lib.hid (owni_later P5.out be6)
                  have M6 := Lib.hid (owni_later M5.out be6)
                  have Z6 := Lib.hid (ownw_zero wz5 w10.heap.size hHeld.2.out.size)
                  generalize wz5.alloc (.cells #[.int .i64 0, .int .i64 0, .slice none 0 0, .int .i64 0, .slice none 0 0] 36) = wz6 at *
                  refine hK.out _ _ ?_ (fun hNew => ?_)
                  · exact ⟨⟨⟨vcell_far (next hHeld.2.out be6) (AtL.lt Ac_10.out (by show 0 < 8; omega)) Ac_10.out.z8.1.1, vcell_far (next hHeld.2.out be6) (AtL.lt Ac_10.out (by show 0 < 8; omega)) Ac_10.out.z8.1.2.1, vcell_far (next hHeld.2.out be6) (AtL.lt Ac_10.out (by show 0 < 8; omega)) Ac_10.out.z8.1.2.2.1, vcell_far (next hHeld.2.out be6) (AtL.lt Ac_10.out (by show 0 < 8; omega)) Ac_10.out.z8.1.2.2.2.1, vcell_far (next hHeld.2.out be6) (AtL.lt Ac_10.out (by show 0 < 8; omega)) Ac_10.out.z8.1.2.2.2.2.1, vcell_far (next hHeld.2.out be6) (AtL.lt Ac_10.out (by show 0 < 8; omega)) Ac_10.out.z8.1.2.2.2.2.2.1, vcell_far (next hHeld.2.out be6) (AtL.lt Ac_10.out (by show 0 < 8; omega)) Ac_10.out.z8.1.2.2.2.2.2.2.1, vcell_far (next hHeld.2.out be6) (AtL.lt Ac_10.out (by show 0 < 8; omega)) Ac_10.out.z8.1.2.2.2.2.2.2.2⟩, ⟨vcell_far (next hHeld.2.out be6) Xr_10.out.lt Xr_10.out.1.1, vcell_far (next hHeld.2.out be6) Xr_10.out.lt Xr_10.out.1.2.1, vcell_far (next hHeld.2.out be6) Xr_10.out.lt Xr_10.out.1.2.2.1, vcell_far (next hHeld.2.out be6) Xr_10.out.lt Xr_10.out.1.2.2.2.1, vcell_far (next hHeld.2.out be6) Xr_10.out.lt Xr_10.out.1.2.2.2.2⟩⟩, Lib.hid (next hHeld.2.out be6)⟩
                  clear hK K hHeld
                  have hHeld := hNew
                  clear hNew
                  try simp only [Act.put, List.setIfInBounds_toArray, List.set_cons_zero, List.set_cons_succ]
                  refine wpAnyH_ready (rs := [12]) (by kernel_rfl) (by simp) ?_
                  refine AllReadyH.cons rfl (fun K hK => ?_) (AllReadyH.nil)
                  refine wp_stA 36 (.tmp 12) (.tmp 86) rfl (wz5.heap.size) #[.int .i64 fV, .int .i64 bV, .slice ayp PV.length cyp, .int .i64 lV, .slice aym MV.length cym] (by simp [Act.eval]) (by simp [Act.eval]) (one5a _ _ _ _ _ _ _ _ _) infoR5 _ (OwnW.atl Z6.out) rfl ?_
                  intro wz7 aa gg
                  have HF : Hid (CutY w10 (wz5.heap.size) fV bV lV PV MV ayp cyp aym cym wz7) := Lib.hid (CutY.mk' hHeld.2.out Z6.out P6.out M6.out aa gg)
                  clear aa gg
                  try simp only [List.getElem_toArray, List.getElem_cons_succ, List.getElem_cons_zero]
                  refine hK.out _ _ ?_ (fun hNew => ?_)
                  · exact ⟨⟨⟨vcell_far (HF.out.bel) (AtL.lt Ac_10.out (by show 0 < 8; omega)) Ac_10.out.z8.1.1, vcell_far (HF.out.bel) (AtL.lt Ac_10.out (by show 0 < 8; omega)) Ac_10.out.z8.1.2.1, vcell_far (HF.out.bel) (AtL.lt Ac_10.out (by show 0 < 8; omega)) Ac_10.out.z8.1.2.2.1, vcell_far (HF.out.bel) (AtL.lt Ac_10.out (by show 0 < 8; omega)) Ac_10.out.z8.1.2.2.2.1, vcell_far (HF.out.bel) (AtL.lt Ac_10.out (by show 0 < 8; omega)) Ac_10.out.z8.1.2.2.2.2.1, vcell_far (HF.out.bel) (AtL.lt Ac_10.out (by show 0 < 8; omega)) Ac_10.out.z8.1.2.2.2.2.2.1, vcell_far (HF.out.bel) (AtL.lt Ac_10.out (by show 0 < 8; omega)) Ac_10.out.z8.1.2.2.2.2.2.2.1, vcell_far (HF.out.bel) (AtL.lt Ac_10.out (by show 0 < 8; omega)) Ac_10.out.z8.1.2.2.2.2.2.2.2⟩, ⟨vcell_far (HF.out.bel) Xr_10.out.lt Xr_10.out.1.1, vcell_far (HF.out.bel) Xr_10.out.lt Xr_10.out.1.2.1, vcell_far (HF.out.bel) Xr_10.out.lt Xr_10.out.1.2.2.1, vcell_far (HF.out.bel) Xr_10.out.lt Xr_10.out.1.2.2.2.1, vcell_far (HF.out.bel) Xr_10.out.lt Xr_10.out.1.2.2.2.2⟩⟩, Lib.hid (HF.out.bel)⟩
                  clear hK K hHeld
                  have hHeld := hNew
                  clear hNew
                  try simp only [Act.put, List.setIfInBounds_toArray, List.set_cons_zero, List.set_cons_succ]
                  refine takeH (i := 13) (v := ?_) rfl rfl (by kernel_rfl) (by kernel_rfl) (by kernel_rfl) (fun _ _ _ h => h) (by rfl) ?_ (by assumption) ?_
                  rotate_left 1
                  · intro w hSw
                    (try dsimp only at hSw)
                    go_simp
                    try with_reducible rfl
                  try simp only [List.setIfInBounds_toArray, List.set_cons_zero, List.set_cons_succ]
                  refine wpAnyH_done (by kernel_rfl) ?_ _
                  clear hHeld
                  go_wp2_with fail
                  go_meet
                  exact ⟨_, _, _, _, _, rfl, rfl, HF⟩
                · go_simp
                  have be5 : Below wz4.heap.size wz4 (wz4.alloc (.cells #[.int .i64 0, .int .i64 0, .slice none 0 0, .int .i64 0, .slice none 0 0] 36)) := (Below.refl _ _).alloc (Nat.le_refl _) _
                  have C_5 := Lib.hid (ownc_later C_4.out be5)
                  have Z5 := Lib.hid (ownw_zero wz4 w10.heap.size hHeld.2.out.size)
                  generalize wz4.alloc (.cells #[.int .i64 0, .int .i64 0, .slice none 0 0, .int .i64 0, .slice none 0 0] 36) = wz5 at *
                  refine hK.out _ _ ?_ (fun hNew => ?_)
                  · exact ⟨⟨⟨vcell_far (next hHeld.2.out be5) (AtL.lt Ac_10.out (by show 0 < 8; omega)) Ac_10.out.z8.1.1, vcell_far (next hHeld.2.out be5) (AtL.lt Ac_10.out (by show 0 < 8; omega)) Ac_10.out.z8.1.2.1, vcell_far (next hHeld.2.out be5) (AtL.lt Ac_10.out (by show 0 < 8; omega)) Ac_10.out.z8.1.2.2.1, vcell_far (next hHeld.2.out be5) (AtL.lt Ac_10.out (by show 0 < 8; omega)) Ac_10.out.z8.1.2.2.2.1, vcell_far (next hHeld.2.out be5) (AtL.lt Ac_10.out (by show 0 < 8; omega)) Ac_10.out.z8.1.2.2.2.2.1, vcell_far (next hHeld.2.out be5) (AtL.lt Ac_10.out (by show 0 < 8; omega)) Ac_10.out.z8.1.2.2.2.2.2.1, vcell_far (next hHeld.2.out be5) (AtL.lt Ac_10.out (by show 0 < 8; omega)) Ac_10.out.z8.1.2.2.2.2.2.2.1, vcell_far (next hHeld.2.out be5) (AtL.lt Ac_10.out (by show 0 < 8; omega)) Ac_10.out.z8.1.2.2.2.2.2.2.2⟩, ⟨vcell_far (next hHeld.2.out be5) Xr_10.out.lt Xr_10.out.1.1, vcell_far (next hHeld.2.out be5) Xr_10.out.lt Xr_10.out.1.2.1, vcell_far (next hHeld.2.out be5) Xr_10.out.lt Xr_10.out.1.2.2.1, vcell_far (next hHeld.2.out be5) Xr_10.out.lt Xr_10.out.1.2.2.2.1, vcell_far (next hHeld.2.out be5) Xr_10.out.lt Xr_10.out.1.2.2.2.2⟩⟩, Lib.hid (next hHeld.2.out be5)⟩
                  clear hK K hHeld
                  have hHeld := hNew
                  clear hNew
                  try simp only [Act.put, List.setIfInBounds_toArray, List.set_cons_zero, List.set_cons_succ]
                  refine wpAnyH_ready (rs := [7]) (by kernel_rfl) (by simp) ?_
                  refine AllReadyH.cons rfl (fun K hK => ?_) (AllReadyH.nil)
                  go_simp
                  refine (ipoldo_is L2 a4 _ c4 fr br arp crp (Pr) lr arm crm (Mr) HV.out _ p rfl (OwnC.cs C_5.out) (by omega) (HRM.out.below hHeld.2.out) (HE.out.below (HB10.out.trans (hHeld.2.out.mono HB10.out.size)))).mono ?_
                  rintro en wz6 ⟨pv, mv, rfl, S, o, bP, o2, hS, b⟩
                  replace o : OwnI wz6 wz5.heap.size pv PV := o
                  replace o2 : OwnI wz6 S mv MV := o2
                  obtain ⟨ayp, cyp, rfl, _, _⟩ := OwnI.tab o
                  obtain ⟨aym, cym, rfl, _, _⟩ := OwnI.tab o2
                  have Z6 := Lib.hid (ownw_later Z5.out b)
                  have C_6 := Lib.hid (ownc_later C_5.out b)
                  have P6 := Lib.hid (owni_mono o hHeld.2.out.size)
                  have M6 := Lib.hid (owni_mono o2 (Nat.le_trans hHeld.2.out.size hS))
                  have b6 := next hHeld.2.out b
                  clear o o2 bP hS b
                  go_wp2_with fail
                  refine hK.out _ _ ?_ (fun hNew => ?_)
                  · exact ⟨⟨⟨vcell_far (b6) (AtL.lt Ac_10.out (by show 0 < 8; omega)) Ac_10.out.z8.1.1, vcell_far (b6) (AtL.lt Ac_10.out (by show 0 < 8; omega)) Ac_10.out.z8.1.2.1, vcell_far (b6) (AtL.lt Ac_10.out (by show 0 < 8; omega)) Ac_10.out.z8.1.2.2.1, vcell_far (b6) (AtL.lt Ac_10.out (by show 0 < 8; omega)) Ac_10.out.z8.1.2.2.2.1, vcell_far (b6) (AtL.lt Ac_10.out (by show 0 < 8; omega)) Ac_10.out.z8.1.2.2.2.2.1, vcell_far (b6) (AtL.lt Ac_10.out (by show 0 < 8; omega)) Ac_10.out.z8.1.2.2.2.2.2.1, vcell_far (b6) (AtL.lt Ac_10.out (by show 0 < 8; omega)) Ac_10.out.z8.1.2.2.2.2.2.2.1, vcell_far (b6) (AtL.lt Ac_10.out (by show 0 < 8; omega)) Ac_10.out.z8.1.2.2.2.2.2.2.2⟩, ⟨vcell_far (b6) Xr_10.out.lt Xr_10.out.1.1, vcell_far (b6) Xr_10.out.lt Xr_10.out.1.2.1, vcell_far (b6) Xr_10.out.lt Xr_10.out.1.2.2.1, vcell_far (b6) Xr_10.out.lt Xr_10.out.1.2.2.2.1, vcell_far (b6) Xr_10.out.lt Xr_10.out.1.2.2.2.2⟩⟩, Lib.hid (b6)⟩
                  clear hK K hHeld
                  have hHeld := hNew
                  clear hNew
                  try simp only [Act.put, List.setIfInBounds_toArray, List.set_cons_zero, List.set_cons_succ]
                  refine takeH (i := 8) (v := ?_) rfl rfl (by kernel_rfl) (by kernel_rfl) (by kernel_rfl) (fun _ _ _ h => h) (by rfl) ?_ (by assumption) ?_
                  rotate_left 1
                  · intro w hSw
                    (try dsimp only at hSw)
                    go_simp
                    try with_reducible rfl
                  try simp only [List.setIfInBounds_toArray, List.set_cons_zero, List.set_cons_succ]
                  refine takeH (i := 9) (v := ?_) rfl rfl (by kernel_rfl) (by kernel_rfl) (by kernel_rfl) (fun _ _ _ h => h) (by rfl) ?_ (by assumption) ?_
                  rotate_left 1
                  · intro w hSw
                    (try dsimp only at hSw)
                    go_simp
                    try with_reducible rfl
                  try simp only [List.setIfInBounds_toArray, List.set_cons_zero, List.set_cons_succ]
                  refine takeH (i := 10) (v := ?_) rfl rfl (by kernel_rfl) (by kernel_rfl) (by kernel_rfl) (fun _ _ _ h => h) (by rfl) ?_ (by assumption) ?_
                  rotate_left 1
                  · intro w hSw
                    (try dsimp only at hSw)
                    go_simp
                    try with_reducible rfl
                  try simp only [List.setIfInBounds_toArray, List.set_cons_zero, List.set_cons_succ]
                  refine wpAnyH_ready (rs := [12]) (by kernel_rfl) (by simp) ?_
                  refine AllReadyH.cons rfl (fun K hK => ?_) (AllReadyH.nil)
                  refine wp_stA 36 (.tmp 12) (.tmp 86) rfl (wz4.heap.size) #[.int .i64 fV, .int .i64 bV, .slice ayp PV.length cyp, .int .i64 lV, .slice aym MV.length cym] (by simp [Act.eval]) (by simp [Act.eval]) (one5a _ _ _ _ _ _ _ _ _) infoR5 _ (OwnW.atl Z6.out) rfl ?_
                  intro wz7 aa gg
                  have HF : Hid (CutY w10 (wz4.heap.size) fV bV lV PV MV ayp cyp aym cym wz7) := Lib.hid (CutY.mk' hHeld.2.out Z6.out P6.out M6.out aa gg)
                  clear aa gg
                  try simp only [List.getElem_toArray, List.getElem_cons_succ, List.getElem_cons_zero]
                  refine hK.out _ _ ?_ (fun hNew => ?_)
                  · exact ⟨⟨⟨vcell_far (HF.out.bel) (AtL.lt Ac_10.out (by show 0 < 8; omega)) Ac_10.out.z8.1.1, vcell_far (HF.out.bel) (AtL.lt Ac_10.out (by show 0 < 8; omega)) Ac_10.out.z8.1.2.1, vcell_far (HF.out.bel) (AtL.lt Ac_10.out (by show 0 < 8; omega)) Ac_10.out.z8.1.2.2.1, vcell_far (HF.out.bel) (AtL.lt Ac_10.out (by show 0 < 8; omega)) Ac_10.out.z8.1.2.2.2.1, vcell_far (HF.out.bel) (AtL.lt Ac_10.out (by show 0 < 8; omega)) Ac_10.out.z8.1.2.2.2.2.1, vcell_far (HF.out.bel) (AtL.lt Ac_10.out (by show 0 < 8; omega)) Ac_10.out.z8.1.2.2.2.2.2.1, vcell_far (HF.out.bel) (AtL.lt Ac_10.out (by show 0 < 8; omega)) Ac_10.out.z8.1.2.2.2.2.2.2.1, vcell_far (HF.out.bel) (AtL.lt Ac_10.out (by show 0 < 8; omega)) Ac_10.out.z8.1.2.2.2.2.2.2.2⟩, ⟨vcell_far (HF.out.bel) Xr_10.out.lt Xr_10.out.1.1, vcell_far (HF.out.bel) Xr_10.out.lt Xr_10.out.1.2.1, vcell_far (HF.out.bel) Xr_10.out.lt Xr_10.out.1.2.2.1, vcell_far (HF.out.bel) Xr_10.out.lt Xr_10.out.1.2.2.2.1, vcell_far (HF.out.bel) Xr_10.out.lt Xr_10.out.1.2.2.2.2⟩⟩, Lib.hid (HF.out.bel)⟩
                  clear hK K hHeld
                  have hHeld := hNew
                  clear hNew
                  try simp only [Act.put, List.setIfInBounds_toArray, List.set_cons_zero, List.set_cons_succ]
                  refine takeH (i := 13) (v := ?_) rfl rfl (by kernel_rfl) (by kernel_rfl) (by kernel_rfl) (fun _ _ _ h => h) (by rfl) ?_ (by assumption) ?_
                  rotate_left 1
                  · intro w hSw
                    (try dsimp only at hSw)
                    go_simp
                    try with_reducible rfl
                  try simp only [List.setIfInBounds_toArray, List.set_cons_zero, List.set_cons_succ]
                  refine wpAnyH_done (by kernel_rfl) ?_ _
                  clear hHeld
                  go_wp2_with fail
                  go_meet
                  exact ⟨_, _, _, _, _, rfl, rfl, HF⟩
              · go_simp
                have be4 : Below wz3.heap.size wz3 (wz3.alloc (.cells #[.int .i64 0, .int .i64 0, .slice none 0 0, .int .i64 0, .slice none 0 0] 36)) := (Below.refl _ _).alloc (Nat.le_refl _) _
                have CD_4 := Lib.hid (ownc_later CD_3.out be4)
                have C_4 := Lib.hid (ownc_later C_3.out be4)
                have Z4 := Lib.hid (ownw_zero wz3 w10.heap.size hHeld.2.out.size)
                generalize wz3.alloc (.cells #[.int .i64 0, .int .i64 0, .slice none 0 0, .int .i64 0, .slice none 0 0] 36) = wz4 at *
                refine hK.out _ _ ?_ (fun hNew => ?_)
                · exact ⟨⟨⟨vcell_far (next hHeld.2.out be4) (AtL.lt Ac_10.out (by show 0 < 8; omega)) Ac_10.out.z8.1.1, vcell_far (next hHeld.2.out be4) (AtL.lt Ac_10.out (by show 0 < 8; omega)) Ac_10.out.z8.1.2.1, vcell_far (next hHeld.2.out be4) (AtL.lt Ac_10.out (by show 0 < 8; omega)) Ac_10.out.z8.1.2.2.1, vcell_far (next hHeld.2.out be4) (AtL.lt Ac_10.out (by show 0 < 8; omega)) Ac_10.out.z8.1.2.2.2.1, vcell_far (next hHeld.2.out be4) (AtL.lt Ac_10.out (by show 0 < 8; omega)) Ac_10.out.z8.1.2.2.2.2.1, vcell_far (next hHeld.2.out be4) (AtL.lt Ac_10.out (by show 0 < 8; omega)) Ac_10.out.z8.1.2.2.2.2.2.1, vcell_far (next hHeld.2.out be4) (AtL.lt Ac_10.out (by show 0 < 8; omega)) Ac_10.out.z8.1.2.2.2.2.2.2.1, vcell_far (next hHeld.2.out be4) (AtL.lt Ac_10.out (by show 0 < 8; omega)) Ac_10.out.z8.1.2.2.2.2.2.2.2⟩, ⟨vcell_far (next hHeld.2.out be4) Xr_10.out.lt Xr_10.out.1.1, vcell_far (next hHeld.2.out be4) Xr_10.out.lt Xr_10.out.1.2.1, vcell_far (next hHeld.2.out be4) Xr_10.out.lt Xr_10.out.1.2.2.1, vcell_far (next hHeld.2.out be4) Xr_10.out.lt Xr_10.out.1.2.2.2.1, vcell_far (next hHeld.2.out be4) Xr_10.out.lt Xr_10.out.1.2.2.2.2⟩⟩, Lib.hid (next hHeld.2.out be4)⟩
                clear hK K hHeld
                have hHeld := hNew
                clear hNew
                try simp only [Act.put, List.setIfInBounds_toArray, List.set_cons_zero, List.set_cons_succ]
                refine wpAnyH_ready (rs := [5]) (by kernel_rfl) (by simp) ?_
                refine AllReadyH.cons rfl (fun K hK => ?_) (AllReadyH.nil)
                refine wp_appC (.tmp 80) (.tmp 82) rfl w10.heap.size (.slice a3 Lp.length c3) Lp (by simp [Act.eval]) C_4.out (some ⟨wz0.heap.size, 0, none⟩) 1 1 [⟨5, 1 + (s : Int), 0, 0, false, 7, 0, 0⟩] rfl (by simp [Act.eval]) (OwnC.cs CD_4.out) (by first | omega | (simp; done) | (simp; omega)) hHeld.2.out.size ?_
                intro v5 w905 own5 grow5
                have b5 : Below w10.heap.size w10 w905 := Below.grown hHeld.2.out grow5 hHeld.2.out.size (fun k e => (World.ownsRow.lt C_4.out k e).1)
                have Z5 := Lib.hid (World.ownsRow.kept Z4.out grow5 (rows_apart Z4.out C_4.out (by decide)))
                rw [← HL.out] at own5
                replace own5 : OwnC w905 w10.heap.size v5 L2 := own5
                obtain ⟨a5, c5, rfl, _, _⟩ := OwnC.tab own5
                have C_5 := Lib.hid own5
                clear own5 grow5
                generalize w905 = wz5 at *
                try simp only [List.getElem_toArray, List.getElem_cons_succ, List.getElem_cons_zero]
                refine hK.out _ _ ?_ (fun hNew => ?_)
                · exact ⟨⟨⟨vcell_far (b5) (AtL.lt Ac_10.out (by show 0 < 8; omega)) Ac_10.out.z8.1.1, vcell_far (b5) (AtL.lt Ac_10.out (by show 0 < 8; omega)) Ac_10.out.z8.1.2.1, vcell_far (b5) (AtL.lt Ac_10.out (by show 0 < 8; omega)) Ac_10.out.z8.1.2.2.1, vcell_far (b5) (AtL.lt Ac_10.out (by show 0 < 8; omega)) Ac_10.out.z8.1.2.2.2.1, vcell_far (b5) (AtL.lt Ac_10.out (by show 0 < 8; omega)) Ac_10.out.z8.1.2.2.2.2.1, vcell_far (b5) (AtL.lt Ac_10.out (by show 0 < 8; omega)) Ac_10.out.z8.1.2.2.2.2.2.1, vcell_far (b5) (AtL.lt Ac_10.out (by show 0 < 8; omega)) Ac_10.out.z8.1.2.2.2.2.2.2.1, vcell_far (b5) (AtL.lt Ac_10.out (by show 0 < 8; omega)) Ac_10.out.z8.1.2.2.2.2.2.2.2⟩, ⟨vcell_far (b5) Xr_10.out.lt Xr_10.out.1.1, vcell_far (b5) Xr_10.out.lt Xr_10.out.1.2.1, vcell_far (b5) Xr_10.out.lt Xr_10.out.1.2.2.1, vcell_far (b5) Xr_10.out.lt Xr_10.out.1.2.2.2.1, vcell_far (b5) Xr_10.out.lt Xr_10.out.1.2.2.2.2⟩⟩, Lib.hid (b5)⟩
                clear hK K hHeld
                have hHeld := hNew
                clear hNew
                try simp only [Act.put, List.setIfInBounds_toArray, List.set_cons_zero, List.set_cons_succ]
                refine wpAnyH_ready (rs := [7]) (by kernel_rfl) (by simp) ?_
                refine AllReadyH.cons rfl (fun K hK => ?_) (AllReadyH.nil)
                go_simp
                refine (ipoldo_is L2 a5 _ c5 fr br arp crp (Pr) lr arm crm (Mr) HV.out _ p rfl (OwnC.cs C_5.out) (by omega) (HRM.out.below hHeld.2.out) (HE.out.below (HB10.out.trans (hHeld.2.out.mono HB10.out.size)))).mono ?_
                rintro en wz6 ⟨pv, mv, rfl, S, o, bP, o2, hS, b⟩
                replace o : OwnI wz6 wz5.heap.size pv PV := o
                replace o2 : OwnI wz6 S mv MV := o2
                obtain ⟨ayp, cyp, rfl, _, _⟩ := OwnI.tab o
                obtain ⟨aym, cym, rfl, _, _⟩ := OwnI.tab o2
                have Z6 := Lib.hid (ownw_later Z5.out b)
                have C_6 := Lib.hid (ownc_later C_5.out b)
                have P6 := Lib.hid (owni_mono o hHeld.2.out.size)
                have M6 := Lib.hid (owni_mono o2 (Nat.le_trans hHeld.2.out.size hS))
                have b6 := next hHeld.2.out b
                clear o o2 bP hS b
                go_wp2_with fail
                refine hK.out _ _ ?_ (fun hNew => ?_)
                · exact ⟨⟨⟨vcell_far (b6) (AtL.lt Ac_10.out (by show 0 < 8; omega)) Ac_10.out.z8.1.1, vcell_far (b6) (AtL.lt Ac_10.out (by show 0 < 8; omega)) Ac_10.out.z8.1.2.1, vcell_far (b6) (AtL.lt Ac_10.out (by show 0 < 8; omega)) Ac_10.out.z8.1.2.2.1, vcell_far (b6) (AtL.lt Ac_10.out (by show 0 < 8; omega)) Ac_10.out.z8.1.2.2.2.1, vcell_far (b6) (AtL.lt Ac_10.out (by show 0 < 8; omega)) Ac_10.out.z8.1.2.2.2.2.1, vcell_far (b6) (AtL.lt Ac_10.out (by show 0 < 8; omega)) Ac_10.out.z8.1.2.2.2.2.2.1, vcell_far (b6) (AtL.lt Ac_10.out (by show 0 < 8; omega)) Ac_10.out.z8.1.2.2.2.2.2.2.1, vcell_far (b6) (AtL.lt Ac_10.out (by show 0 < 8; omega)) Ac_10.out.z8.1.2.2.2.2.2.2.2⟩, ⟨vcell_far (b6) Xr_10.out.lt Xr_10.out.1.1, vcell_far (b6) Xr_10.out.lt Xr_10.out.1.2.1, vcell_far (b6) Xr_10.out.lt Xr_10.out.1.2.2.1, vcell_far (b6) Xr_10.out.lt Xr_10.out.1.2.2.2.1, vcell_far (b6) Xr_10.out.lt Xr_10.out.1.2.2.2.2⟩⟩, Lib.hid (b6)⟩
                clear hK K hHeld
                have hHeld := hNew
                clear hNew
                try simp only [Act.put, List.setIfInBounds_toArray, List.set_cons_zero, List.set_cons_succ]
                refine takeH (i := 8) (v := ?_) rfl rfl (by kernel_rfl) (by kernel_rfl) (by kernel_rfl) (fun _ _ _ h => h) (by rfl) ?_ (by assumption) ?_
                rotate_left 1
                · intro w hSw
                  (try dsimp only at hSw)
                  go_simp
                  try with_reducible rfl
                try simp only [List.setIfInBounds_toArray, List.set_cons_zero, List.set_cons_succ]
                refine takeH (i := 9) (v := ?_) rfl rfl (by kernel_rfl) (by kernel_rfl) (by kernel_rfl) (fun _ _ _ h => h) (by rfl) ?_ (by assumption) ?_
                rotate_left 1
                · intro w hSw
                  (try dsimp only at hSw)
                  go_simp
                  try with_reducible rfl
                try simp only [List.setIfInBounds_toArray, List.set_cons_zero, List.set_cons_succ]
                refine takeH (i := 10) (v := ?_) rfl rfl (by kernel_rfl) (by kernel_rfl) (by kernel_rfl) (fun _ _ _ h => h) (by rfl) ?_ (by assumption) ?_
                rotate_left 1
                · intro w hSw
                  (try dsimp only at hSw)
                  go_simp
                  try with_reducible rfl
                try simp only [List.setIfInBounds_toArray, List.set_cons_zero, List.set_cons_succ]
                refine wpAnyH_ready (rs := [12]) (by kernel_rfl) (by simp) ?_
                refine AllReadyH.cons rfl (fun K hK => ?_) (AllReadyH.nil)
                refine wp_stA 36 (.tmp 12) (.tmp 86) rfl (wz3.heap.size) #[.int .i64 fV, .int .i64 bV, .slice ayp PV.length cyp, .int .i64 lV, .slice aym MV.length cym] (by simp [Act.eval]) (by simp [Act.eval]) (one5a _ _ _ _ _ _ _ _ _) infoR5 _ (OwnW.atl Z6.out) rfl ?_
                intro wz7 aa gg
                have HF : Hid (CutY w10 (wz3.heap.size) fV bV lV PV MV ayp cyp aym cym wz7) := Lib.hid (CutY.mk' hHeld.2.out Z6.out P6.out M6.out aa gg)
                clear aa gg
                try simp only [List.getElem_toArray, List.getElem_cons_succ, List.getElem_cons_zero]
                refine hK.out _ _ ?_ (fun hNew => ?_)
                · exact ⟨⟨⟨vcell_far (HF.out.bel) (AtL.lt Ac_10.out (by show 0 < 8; omega)) Ac_10.out.z8.1.1, vcell_far (HF.out.bel) (AtL.lt Ac_10.out (by show 0 < 8; omega)) Ac_10.out.z8.1.2.1, vcell_far (HF.out.bel) (AtL.lt Ac_10.out (by show 0 < 8; omega)) Ac_10.out.z8.1.2.2.1, vcell_far (HF.out.bel) (AtL.lt Ac_10.out (by show 0 < 8; omega)) Ac_10.out.z8.1.2.2.2.1, vcell_far (HF.out.bel) (AtL.lt Ac_10.out (by show 0 < 8; omega)) Ac_10.out.z8.1.2.2.2.2.1, vcell_far (HF.out.bel) (AtL.lt Ac_10.out (by show 0 < 8; omega)) Ac_10.out.z8.1.2.2.2.2.2.1, vcell_far (HF.out.bel) (AtL.lt Ac_10.out (by show 0 < 8; omega)) Ac_10.out.z8.1.2.2.2.2.2.2.1, vcell_far (HF.out.bel) (AtL.lt Ac_10.out (by show 0 < 8; omega)) Ac_10.out.z8.1.2.2.2.2.2.2.2⟩, ⟨vcell_far (HF.out.bel) Xr_10.out.lt Xr_10.out.1.1, vcell_far (HF.out.bel) Xr_10.out.lt Xr_10.out.1.2.1, vcell_far (HF.out.bel) Xr_10.out.lt Xr_10.out.1.2.2.1, vcell_far (HF.out.bel) Xr_10.out.lt Xr_10.out.1.2.2.2.1, vcell_far (HF.out.bel) Xr_10.out.lt Xr_10.out.1.2.2.2.2⟩⟩, Lib.hid (HF.out.bel)⟩
                clear hK K hHeld
                have hHeld := hNew
                clear hNew
                try simp only [Act.put, List.setIfInBounds_toArray, List.set_cons_zero, List.set_cons_succ]
                refine takeH (i := 13) (v := ?_) rfl rfl (by kernel_rfl) (by kernel_rfl) (by kernel_rfl) (fun _ _ _ h => h) (by rfl) ?_ (by assumption) ?_
                rotate_left 1
                · intro w hSw
                  (try dsimp only at hSw)
                  go_simp
                  try with_reducible rfl
                try simp only [List.setIfInBounds_toArray, List.set_cons_zero, List.set_cons_succ]
                refine wpAnyH_done (by kernel_rfl) ?_ _
                clear hHeld
                go_wp2_with fail
                go_meet
                exact ⟨_, _, _, _, _, rfl, rfl, HF⟩
            · go_simp
              have be3 : Below wz2.heap.size wz2 (wz2.alloc (.cells #[.int .i64 0, .int .i64 0, .slice none 0 0, .int .i64 0, .slice none 0 0] 36)) := (Below.refl _ _).alloc (Nat.le_refl _) _
              have CD_3 := Lib.hid (ownc_later CD_2.out be3)
              have C_3 := Lib.hid (ownc_later C_2.out be3)
              have Z3 := Lib.hid (ownw_zero wz2 w10.heap.size hHeld.2.out.size)
              generalize wz2.alloc (.cells #[.int .i64 0, .int .i64 0, .slice none 0 0, .int .i64 0, .slice none 0 0] 36) = wz3 at *
              refine hK.out _ _ ?_ (fun hNew => ?_)
              · exact ⟨⟨⟨vcell_far (next hHeld.2.out be3) (AtL.lt Ac_10.out (by show 0 < 8; omega)) Ac_10.out.z8.1.1, vcell_far (next hHeld.2.out be3) (AtL.lt Ac_10.out (by show 0 < 8; omega)) Ac_10.out.z8.1.2.1, vcell_far (next hHeld.2.out be3) (AtL.lt Ac_10.out (by show 0 < 8; omega)) Ac_10.out.z8.1.2.2.1, vcell_far (next hHeld.2.out be3) (AtL.lt Ac_10.out (by show 0 < 8; omega)) Ac_10.out.z8.1.2.2.2.1, vcell_far (next hHeld.2.out be3) (AtL.lt Ac_10.out (by show 0 < 8; omega)) Ac_10.out.z8.1.2.2.2.2.1, vcell_far (next hHeld.2.out be3) (AtL.lt Ac_10.out (by show 0 < 8; omega)) Ac_10.out.z8.1.2.2.2.2.2.1, vcell_far (next hHeld.2.out be3) (AtL.lt Ac_10.out (by show 0 < 8; omega)) Ac_10.out.z8.1.2.2.2.2.2.2.1, vcell_far (next hHeld.2.out be3) (AtL.lt Ac_10.out (by show 0 < 8; omega)) Ac_10.out.z8.1.2.2.2.2.2.2.2⟩, ⟨vcell_far (next hHeld.2.out be3) Xr_10.out.lt Xr_10.out.1.1, vcell_far (next hHeld.2.out be3) Xr_10.out.lt Xr_10.out.1.2.1, vcell_far (next hHeld.2.out be3) Xr_10.out.lt Xr_10.out.1.2.2.1, vcell_far (next hHeld.2.out be3) Xr_10.out.lt Xr_10.out.1.2.2.2.1, vcell_far (next hHeld.2.out be3) Xr_10.out.lt Xr_10.out.1.2.2.2.2⟩⟩, Lib.hid (next hHeld.2.out be3)⟩
              clear hK K hHeld
              have hHeld := hNew
              clear hNew
              try simp only [Act.put, List.setIfInBounds_toArray, List.set_cons_zero, List.set_cons_succ]
              refine wpAnyH_ready (rs := [2]) (by kernel_rfl) (by simp) ?_
              refine AllReadyH.cons rfl (fun K hK => ?_) (AllReadyH.nil)
              refine wp_appC (.tmp 78) (.tmp 79) rfl w10.heap.size (.slice (some ⟨wz1.heap.size, 0, none⟩) 0 0) [] (by simp [Act.eval]) C_3.out ap Lp.length cp Lp rfl (by simp [Act.eval]) ((OwnC.cs Cp_10.out).below hHeld.2.out) (by first | omega | (simp; done) | (simp; omega)) hHeld.2.out.size ?_
              intro v4 w904 own4 grow4
              have b4 : Below w10.heap.size w10 w904 := Below.grown hHeld.2.out grow4 hHeld.2.out.size (fun k e => (World.ownsRow.lt C_3.out k e).1)
              have Z4 := Lib.hid (World.ownsRow.kept Z3.out grow4 (rows_apart Z3.out C_3.out (by decide)))
              have CD_4 := Lib.hid (World.ownsRow.kept CD_3.out grow4 (.inr (fun e => neC (by symm; simpa [Value.ownBlock] using e))))
              replace own4 : OwnC w904 w10.heap.size v4 Lp := own4
              obtain ⟨a4, c4, rfl, _, _⟩ := OwnC.tab own4
              have C_4 := Lib.hid own4
              clear own4 grow4
              generalize w904 = wz4 at *
              try simp only [List.getElem_toArray, List.getElem_cons_succ, List.getElem_cons_zero]
              refine hK.out _ _ ?_ (fun hNew => ?_)
              · exact ⟨⟨⟨vcell_far (b4) (AtL.lt Ac_10.out (by show 0 < 8; omega)) Ac_10.out.z8.1.1, vcell_far (b4) (AtL.lt Ac_10.out (by show 0 < 8; omega)) Ac_10.out.z8.1.2.1, vcell_far (b4) (AtL.lt Ac_10.out (by show 0 < 8; omega)) Ac_10.out.z8.1.2.2.1, vcell_far (b4) (AtL.lt Ac_10.out (by show 0 < 8; omega)) Ac_10.out.z8.1.2.2.2.1, vcell_far (b4) (AtL.lt Ac_10.out (by show 0 < 8; omega)) Ac_10.out.z8.1.2.2.2.2.1, vcell_far (b4) (AtL.lt Ac_10.out (by show 0 < 8; omega)) Ac_10.out.z8.1.2.2.2.2.2.1, vcell_far (b4) (AtL.lt Ac_10.out (by show 0 < 8; omega)) Ac_10.out.z8.1.2.2.2.2.2.2.1, vcell_far (b4) (AtL.lt Ac_10.out (by show 0 < 8; omega)) Ac_10.out.z8.1.2.2.2.2.2.2.2⟩, ⟨vcell_far (b4) Xr_10.out.lt Xr_10.out.1.1, vcell_far (b4) Xr_10.out.lt Xr_10.out.1.2.1, vcell_far (b4) Xr_10.out.lt Xr_10.out.1.2.2.1, vcell_far (b4) Xr_10.out.lt Xr_10.out.1.2.2.2.1, vcell_far (b4) Xr_10.out.lt Xr_10.out.1.2.2.2.2⟩⟩, Lib.hid (b4)⟩
              clear hK K hHeld
              have hHeld := hNew
              clear hNew
              try simp only [Act.put, List.setIfInBounds_toArray, List.set_cons_zero, List.set_cons_succ]
              refine wpAnyH_ready (rs := [5]) (by kernel_rfl) (by simp) ?_
              refine AllReadyH.cons rfl (fun K hK => ?_) (AllReadyH.nil)
              refine wp_appC (.tmp 80) (.tmp 82) rfl w10.heap.size (.slice a4 Lp.length c4) Lp (by simp [Act.eval]) C_4.out (some ⟨wz0.heap.size, 0, none⟩) 1 1 [⟨5, 1 + (s : Int), 0, 0, false, 7, 0, 0⟩] rfl (by simp [Act.eval]) (OwnC.cs CD_4.out) (by first | omega | (simp; done) | (simp; omega)) hHeld.2.out.size ?_
              intro v5 w905 own5 grow5
              have b5 : Below w10.heap.size w10 w905 := Below.grown hHeld.2.out grow5 hHeld.2.out.size (fun k e => (World.ownsRow.lt C_4.out k e).1)
              have Z5 := Lib.hid (World.ownsRow.kept Z4.out grow5 (rows_apart Z4.out C_4.out (by decide)))
              rw [← HL.out] at own5
              replace own5 : OwnC w905 w10.heap.size v5 L2 := own5
              obtain ⟨a5, c5, rfl, _, _⟩ := OwnC.tab own5
              have C_5 := Lib.hid own5
              clear own5 grow5
              generalize w905 = wz5 at *
              try simp only [List.getElem_toArray, List.getElem_cons_succ, List.getElem_cons_zero]
              refine hK.out _ _ ?_ (fun hNew => ?_)
              · exact ⟨⟨⟨vcell_far (b5) (AtL.lt Ac_10.out (by show 0 < 8; omega)) Ac_10.out.z8.1.1, vcell_far (b5) (AtL.lt Ac_10.out (by show 0 < 8; omega)) Ac_10.out.z8.1.2.1, vcell_far (b5) (AtL.lt Ac_10.out (by show 0 < 8; omega)) Ac_10.out.z8.1.2.2.1, vcell_far (b5) (AtL.lt Ac_10.out (by show 0 < 8; omega)) Ac_10.out.z8.1.2.2.2.1, vcell_far (b5) (AtL.lt Ac_10.out (by show 0 < 8; omega)) Ac_10.out.z8.1.2.2.2.2.1, vcell_far (b5) (AtL.lt Ac_10.out (by show 0 < 8; omega)) Ac_10.out.z8.1.2.2.2.2.2.1, vcell_far (b5) (AtL.lt Ac_10.out (by show 0 < 8; omega)) Ac_10.out.z8.1.2.2.2.2.2.2.1, vcell_far (b5) (AtL.lt Ac_10.out (by show 0 < 8; omega)) Ac_10.out.z8.1.2.2.2.2.2.2.2⟩, ⟨vcell_far (b5) Xr_10.out.lt Xr_10.out.1.1, vcell_far (b5) Xr_10.out.lt Xr_10.out.1.2.1, vcell_far (b5) Xr_10.out.lt Xr_10.out.1.2.2.1, vcell_far (b5) Xr_10.out.lt Xr_10.out.1.2.2.2.1, vcell_far (b5) Xr_10.out.lt Xr_10.out.1.2.2.2.2⟩⟩, Lib.hid (b5)⟩
              clear hK K hHeld
              have hHeld := hNew
              clear hNew
              try simp only [Act.put, List.setIfInBounds_toArray, List.set_cons_zero, List.set_cons_succ]
              refine wpAnyH_ready (rs := [7]) (by kernel_rfl) (by simp) ?_
              refine AllReadyH.cons rfl (fun K hK => ?_) (AllReadyH.nil)
              go_simp
              refine (ipoldo_is L2 a5 _ c5 fr br arp crp (Pr) lr arm crm (Mr) HV.out _ p rfl (OwnC.cs C_5.out) (by omega) (HRM.out.below hHeld.2.out) (HE.out.below (HB10.out.trans (hHeld.2.out.mono HB10.out.size)))).mono ?_
              rintro en wz6 ⟨pv, mv, rfl, S, o, bP, o2, hS, b⟩
              replace o : OwnI wz6 wz5.heap.size pv PV := o
              replace o2 : OwnI wz6 S mv MV := o2
              obtain ⟨ayp, cyp, rfl, _, _⟩ := OwnI.tab o
              obtain ⟨aym, cym, rfl, _, _⟩ := OwnI.tab o2
              have Z6 := Lib.hid (ownw_later Z5.out b)
              have C_6 := Lib.hid (ownc_later C_5.out b)
              have P6 := Lib.hid (owni_mono o hHeld.2.out.size)
              have M6 := Lib.hid (owni_mono o2 (Nat.le_trans hHeld.2.out.size hS))
              have b6 := next hHeld.2.out b
              clear o o2 bP hS b
              go_wp2_with fail
              refine hK.out _ _ ?_ (fun hNew => ?_)
              · exact ⟨⟨⟨vcell_far (b6) (AtL.lt Ac_10.out (by show 0 < 8; omega)) Ac_10.out.z8.1.1, vcell_far (b6) (AtL.lt Ac_10.out (by show 0 < 8; omega)) Ac_10.out.z8.1.2.1, vcell_far (b6) (AtL.lt Ac_10.out (by show 0 < 8; omega)) Ac_10.out.z8.1.2.2.1, vcell_far (b6) (AtL.lt Ac_10.out (by show 0 < 8; omega)) Ac_10.out.z8.1.2.2.2.1, vcell_far (b6) (AtL.lt Ac_10.out (by show 0 < 8; omega)) Ac_10.out.z8.1.2.2.2.2.1, vcell_far (b6) (AtL.lt Ac_10.out (by show 0 < 8; omega)) Ac_10.out.z8.1.2.2.2.2.2.1, vcell_far (b6) (AtL.lt Ac_10.out (by show 0 < 8; omega)) Ac_10.out.z8.1.2.2.2.2.2.2.1, vcell_far (b6) (AtL.lt Ac_10.out (by show 0 < 8; omega)) Ac_10.out.z8.1.2.2.2.2.2.2.2⟩, ⟨vcell_far (b6) Xr_10.out.lt Xr_10.out.1.1, vcell_far (b6) Xr_10.out.lt Xr_10.out.1.2.1, vcell_far (b6) Xr_10.out.lt Xr_10.out.1.2.2.1, vcell_far (b6) Xr_10.out.lt Xr_10.out.1.2.2.2.1, vcell_far (b6) Xr_10.out.lt Xr_10.out.1.2.2.2.2⟩⟩, Lib.hid (b6)⟩
              clear hK K hHeld
              have hHeld := hNew
              clear hNew
              try simp only [Act.put, List.setIfInBounds_toArray, List.set_cons_zero, List.set_cons_succ]
              refine takeH (i := 8) (v := ?_) rfl rfl (by kernel_rfl) (by kernel_rfl) (by kernel_rfl) (fun _ _ _ h => h) (by rfl) ?_ (by assumption) ?_
              rotate_left 1
              · intro w hSw
                (try dsimp only at hSw)
                go_simp
                try with_reducible rfl
              try simp only [List.setIfInBounds_toArray, List.set_cons_zero, List.set_cons_succ]
              refine takeH (i := 9) (v := ?_) rfl rfl (by kernel_rfl) (by kernel_rfl) (by kernel_rfl) (fun _ _ _ h => h) (by rfl) ?_ (by assumption) ?_
              rotate_left 1
              · intro w hSw
                (try dsimp only at hSw)
                go_simp
                try with_reducible rfl
              try simp only [List.setIfInBounds_toArray, List.set_cons_zero, List.set_cons_succ]
              refine takeH (i := 10) (v := ?_) rfl rfl (by kernel_rfl) (by kernel_rfl) (by kernel_rfl) (fun _ _ _ h => h) (by rfl) ?_ (by assumption) ?_
              rotate_left 1
              · intro w hSw
                (try dsimp only at hSw)
                go_simp
                try with_reducible rfl
              try simp only [List.setIfInBounds_toArray, List.set_cons_zero, List.set_cons_succ]
              refine wpAnyH_ready (rs := [12]) (by kernel_rfl) (by simp) ?_
              refine AllReadyH.cons rfl (fun K hK => ?_) (AllReadyH.nil)
              refine wp_stA 36 (.tmp 12) (.tmp 86) rfl (wz2.heap.size) #[.int .i64 fV, .int .i64 bV, .slice ayp PV.length cyp, .int .i64 lV, .slice aym MV.length cym] (by simp [Act.eval]) (by simp [Act.eval]) (one5a _ _ _ _ _ _ _ _ _) infoR5 _ (OwnW.atl Z6.out) rfl ?_
              intro wz7 aa gg
              have HF : Hid (CutY w10 (wz2.heap.size) fV bV lV PV MV ayp cyp aym cym wz7) := Lib.hid (CutY.mk' hHeld.2.out Z6.out P6.out M6.out aa gg)
              clear aa gg
              try simp only [List.getElem_toArray, List.getElem_cons_succ, List.getElem_cons_zero]
              refine hK.out _ _ ?_ (fun hNew => ?_)
              · exact ⟨⟨⟨vcell_far (HF.out.bel) (AtL.lt Ac_10.out (by show 0 < 8; omega)) Ac_10.out.z8.1.1, vcell_far (HF.out.bel) (AtL.lt Ac_10.out (by show 0 < 8; omega)) Ac_10.out.z8.1.2.1, vcell_far (HF.out.bel) (AtL.lt Ac_10.out (by show 0 < 8; omega)) Ac_10.out.z8.1.2.2.1, vcell_far (HF.out.bel) (AtL.lt Ac_10.out (by show 0 < 8; omega)) Ac_10.out.z8.1.2.2.2.1, vcell_far (HF.out.bel) (AtL.lt Ac_10.out (by show 0 < 8; omega)) Ac_10.out.z8.1.2.2.2.2.1, vcell_far (HF.out.bel) (AtL.lt Ac_10.out (by show 0 < 8; omega)) Ac_10.out.z8.1.2.2.2.2.2.1, vcell_far (HF.out.bel) (AtL.lt Ac_10.out (by show 0 < 8; omega)) Ac_10.out.z8.1.2.2.2.2.2.2.1, vcell_far (HF.out.bel) (AtL.lt Ac_10.out (by show 0 < 8; omega)) Ac_10.out.z8.1.2.2.2.2.2.2.2⟩, ⟨vcell_far (HF.out.bel) Xr_10.out.lt Xr_10.out.1.1, vcell_far (HF.out.bel) Xr_10.out.lt Xr_10.out.1.2.1, vcell_far (HF.out.bel) Xr_10.out.lt Xr_10.out.1.2.2.1, vcell_far (HF.out.bel) Xr_10.out.lt Xr_10.out.1.2.2.2.1, vcell_far (HF.out.bel) Xr_10.out.lt Xr_10.out.1.2.2.2.2⟩⟩, Lib.hid (HF.out.bel)⟩
              clear hK K hHeld
              have hHeld := hNew
              clear hNew
              try simp only [Act.put, List.setIfInBounds_toArray, List.set_cons_zero, List.set_cons_succ]
              refine takeH (i := 13) (v := ?_) rfl rfl (by kernel_rfl) (by kernel_rfl) (by kernel_rfl) (fun _ _ _ h => h) (by rfl) ?_ (by assumption) ?_
              rotate_left 1
              · intro w hSw
                (try dsimp only at hSw)
                go_simp
                try with_reducible rfl
              try simp only [List.setIfInBounds_toArray, List.set_cons_zero, List.set_cons_succ]
              refine wpAnyH_done (by kernel_rfl) ?_ _
              clear hHeld
              go_wp2_with fail
              go_meet
              exact ⟨_, _, _, _, _, rfl, rfl, HF⟩
          · go_simp
            have be2 : Below wz1.heap.size wz1 (wz1.alloc (.cells #[.int .i64 0, .int .i64 0, .slice none 0 0, .int .i64 0, .slice none 0 0] 36)) := (Below.refl _ _).alloc (Nat.le_refl _) _
            have CD_2 := Lib.hid (ownc_later CD_1.out be2)
            have Z2 := Lib.hid (ownw_zero wz1 w10.heap.size hHeld.2.out.size)
            generalize wz1.alloc (.cells #[.int .i64 0, .int .i64 0, .slice none 0 0, .int .i64 0, .slice none 0 0] 36) = wz2 at *
            refine hK.out _ _ ?_ (fun hNew => ?_)
            · exact ⟨⟨⟨vcell_far (next hHeld.2.out be2) (AtL.lt Ac_10.out (by show 0 < 8; omega)) Ac_10.out.z8.1.1, vcell_far (next hHeld.2.out be2) (AtL.lt Ac_10.out (by show 0 < 8; omega)) Ac_10.out.z8.1.2.1, vcell_far (next hHeld.2.out be2) (AtL.lt Ac_10.out (by show 0 < 8; omega)) Ac_10.out.z8.1.2.2.1, vcell_far (next hHeld.2.out be2) (AtL.lt Ac_10.out (by show 0 < 8; omega)) Ac_10.out.z8.1.2.2.2.1, vcell_far (next hHeld.2.out be2) (AtL.lt Ac_10.out (by show 0 < 8; omega)) Ac_10.out.z8.1.2.2.2.2.1, vcell_far (next hHeld.2.out be2) (AtL.lt Ac_10.out (by show 0 < 8; omega)) Ac_10.out.z8.1.2.2.2.2.2.1, vcell_far (next hHeld.2.out be2) (AtL.lt Ac_10.out (by show 0 < 8; omega)) Ac_10.out.z8.1.2.2.2.2.2.2.1, vcell_far (next hHeld.2.out be2) (AtL.lt Ac_10.out (by show 0 < 8; omega)) Ac_10.out.z8.1.2.2.2.2.2.2.2⟩, ⟨vcell_far (next hHeld.2.out be2) Xr_10.out.lt Xr_10.out.1.1, vcell_far (next hHeld.2.out be2) Xr_10.out.lt Xr_10.out.1.2.1, vcell_far (next hHeld.2.out be2) Xr_10.out.lt Xr_10.out.1.2.2.1, vcell_far (next hHeld.2.out be2) Xr_10.out.lt Xr_10.out.1.2.2.2.1, vcell_far (next hHeld.2.out be2) Xr_10.out.lt Xr_10.out.1.2.2.2.2⟩⟩, Lib.hid (next hHeld.2.out be2)⟩
            clear hK K hHeld
            have hHeld := hNew
            clear hNew
            try simp only [Act.put, List.setIfInBounds_toArray, List.set_cons_zero, List.set_cons_succ]
            refine wpAnyH_ready (rs := [0]) (by kernel_rfl) (by simp) ?_
            refine AllReadyH.cons rfl (fun K hK => ?_) (AllReadyH.nil)
            go_simp
            have be3 : Below wz2.heap.size wz2 (wz2.alloc (.cells #[] 33)) := (Below.refl _ _).alloc (Nat.le_refl _) _
            have Z3 := Lib.hid (ownw_later Z2.out be3)
            have CD_3 := Lib.hid (ownc_later CD_2.out be3)
            have neC : wz2.heap.size ≠ wz0.heap.size := by have h0 := (World.ownsRow.lt CD_2.out _ rfl).2; simp only [World.size_alloc] at h0; omega
            have C_3 := Lib.hid (ownc_empty wz2 w10.heap.size hHeld.2.out.size)
            generalize wz2.alloc (.cells #[] 33) = wz3 at *
            refine hK.out _ _ ?_ (fun hNew => ?_)
            · exact ⟨⟨⟨vcell_far (next hHeld.2.out be3) (AtL.lt Ac_10.out (by show 0 < 8; omega)) Ac_10.out.z8.1.1, vcell_far (next hHeld.2.out be3) (AtL.lt Ac_10.out (by show 0 < 8; omega)) Ac_10.out.z8.1.2.1, vcell_far (next hHeld.2.out be3) (AtL.lt Ac_10.out (by show 0 < 8; omega)) Ac_10.out.z8.1.2.2.1, vcell_far (next hHeld.2.out be3) (AtL.lt Ac_10.out (by show 0 < 8; omega)) Ac_10.out.z8.1.2.2.2.1, vcell_far (next hHeld.2.out be3) (AtL.lt Ac_10.out (by show 0 < 8; omega)) Ac_10.out.z8.1.2.2.2.2.1, vcell_far (next hHeld.2.out be3) (AtL.lt Ac_10.out (by show 0 < 8; omega)) Ac_10.out.z8.1.2.2.2.2.2.1, vcell_far (next hHeld.2.out be3) (AtL.lt Ac_10.out (by show 0 < 8; omega)) Ac_10.out.z8.1.2.2.2.2.2.2.1, vcell_far (next hHeld.2.out be3) (AtL.lt Ac_10.out (by show 0 < 8; omega)) Ac_10.out.z8.1.2.2.2.2.2.2.2⟩, ⟨vcell_far (next hHeld.2.out be3) Xr_10.out.lt Xr_10.out.1.1, vcell_far (next hHeld.2.out be3) Xr_10.out.lt Xr_10.out.1.2.1, vcell_far (next hHeld.2.out be3) Xr_10.out.lt Xr_10.out.1.2.2.1, vcell_far (next hHeld.2.out be3) Xr_10.out.lt Xr_10.out.1.2.2.2.1, vcell_far (next hHeld.2.out be3) Xr_10.out.lt Xr_10.out.1.2.2.2.2⟩⟩, Lib.hid (next hHeld.2.out be3)⟩
            clear hK K hHeld
            have hHeld := hNew
            clear hNew
            try simp only [Act.put, List.setIfInBounds_toArray, List.set_cons_zero, List.set_cons_succ]
            refine wpAnyH_ready (rs := [2]) (by kernel_rfl) (by simp) ?_
            refine AllReadyH.cons rfl (fun K hK => ?_) (AllReadyH.nil)
            refine wp_appC (.tmp 78) (.tmp 79) rfl w10.heap.size (.slice (some ⟨wz2.heap.size, 0, none⟩) 0 0) [] (by simp [Act.eval]) C_3.out ap Lp.length cp Lp rfl (by simp [Act.eval]) ((OwnC.cs Cp_10.out).below hHeld.2.out) (by first | omega | (simp; done) | (simp; omega)) hHeld.2.out.size ?_
            intro v4 w904 own4 grow4
            have b4 : Below w10.heap.size w10 w904 := Below.grown hHeld.2.out grow4 hHeld.2.out.size (fun k e => (World.ownsRow.lt C_3.out k e).1)
            have Z4 := Lib.hid (World.ownsRow.kept Z3.out grow4 (rows_apart Z3.out C_3.out (by decide)))
            have CD_4 := Lib.hid (World.ownsRow.kept CD_3.out grow4 (.inr (fun e => neC (by symm; simpa [Value.ownBlock] using e))))
            replace own4 : OwnC w904 w10.heap.size v4 Lp := own4
            obtain ⟨a4, c4, rfl, _, _⟩ := OwnC.tab own4
            have C_4 := Lib.hid own4
            clear own4 grow4
            generalize w904 = wz4 at *
            try simp only [List.getElem_toArray, List.getElem_cons_succ, List.getElem_cons_zero]
            refine hK.out _ _ ?_ (fun hNew => ?_)
            · exact ⟨⟨⟨vcell_far (b4) (AtL.lt Ac_10.out (by show 0 < 8; omega)) Ac_10.out.z8.1.1, vcell_far (b4) (AtL.lt Ac_10.out (by show 0 < 8; omega)) Ac_10.out.z8.1.2.1, vcell_far (b4) (AtL.lt Ac_10.out (by show 0 < 8; omega)) Ac_10.out.z8.1.2.2.1, vcell_far (b4) (AtL.lt Ac_10.out (by show 0 < 8; omega)) Ac_10.out.z8.1.2.2.2.1, vcell_far (b4) (AtL.lt Ac_10.out (by show 0 < 8; omega)) Ac_10.out.z8.1.2.2.2.2.1, vcell_far (b4) (AtL.lt Ac_10.out (by show 0 < 8; omega)) Ac_10.out.z8.1.2.2.2.2.2.1, vcell_far (b4) (AtL.lt Ac_10.out (by show 0 < 8; omega)) Ac_10.out.z8.1.2.2.2.2.2.2.1, vcell_far (b4) (AtL.lt Ac_10.out (by show 0 < 8; omega)) Ac_10.out.z8.1.2.2.2.2.2.2.2⟩, ⟨vcell_far (b4) Xr_10.out.lt Xr_10.out.1.1, vcell_far (b4) Xr_10.out.lt Xr_10.out.1.2.1, vcell_far (b4) Xr_10.out.lt Xr_10.out.1.2.2.1, vcell_far (b4) Xr_10.out.lt Xr_10.out.1.2.2.2.1, vcell_far (b4) Xr_10.out.lt Xr_10.out.1.2.2.2.2⟩⟩, Lib.hid (b4)⟩
            clear hK K hHeld
            have hHeld := hNew
            clear hNew
            try simp only [Act.put, List.setIfInBounds_toArray, List.set_cons_zero, List.set_cons_succ]
            refine wpAnyH_ready (rs := [5]) (by kernel_rfl) (by simp) ?_
            refine AllReadyH.cons rfl (fun K hK => ?_) (AllReadyH.nil)
            refine wp_appC (.tmp 80) (.tmp 82) rfl w10.heap.size (.slice a4 Lp.length c4) Lp (by simp [Act.eval]) C_4.out (some ⟨wz0.heap.size, 0, none⟩) 1 1 [⟨5, 1 + (s : Int), 0, 0, false, 7, 0, 0⟩] rfl (by simp [Act.eval]) (OwnC.cs CD_4.out) (by first | omega | (simp; done) | (simp; omega)) hHeld.2.out.size ?_
            intro v5 w905 own5 grow5
            have b5 : Below w10.heap.size w10 w905 := Below.grown hHeld.2.out grow5 hHeld.2.out.size (fun k e => (World.ownsRow.lt C_4.out k e).1)
            have Z5 := Lib.hid (World.ownsRow.kept Z4.out grow5 (rows_apart Z4.out C_4.out (by decide)))
            rw [← HL.out] at own5
            replace own5 : OwnC w905 w10.heap.size v5 L2 := own5
            obtain ⟨a5, c5, rfl, _, _⟩ := OwnC.tab own5
            have C_5 := Lib.hid own5
            clear own5 grow5
            generalize w905 = wz5 at *
            try simp only [List.getElem_toArray, List.getElem_cons_succ, List.getElem_cons_zero]
            refine hK.out _ _ ?_ (fun hNew => ?_)
            · exact ⟨⟨⟨vcell_far (b5) (AtL.lt Ac_10.out (by show 0 < 8; omega)) Ac_10.out.z8.1.1, vcell_far (b5) (AtL.lt Ac_10.out (by show 0 < 8; omega)) Ac_10.out.z8.1.2.1, vcell_far (b5) (AtL.lt Ac_10.out (by show 0 < 8; omega)) Ac_10.out.z8.1.2.2.1, vcell_far (b5) (AtL.lt Ac_10.out (by show 0 < 8; omega)) Ac_10.out.z8.1.2.2.2.1, vcell_far (b5) (AtL.lt Ac_10.out (by show 0 < 8; omega)) Ac_10.out.z8.1.2.2.2.2.1, vcell_far (b5) (AtL.lt Ac_10.out (by show 0 < 8; omega)) Ac_10.out.z8.1.2.2.2.2.2.1, vcell_far (b5) (AtL.lt Ac_10.out (by show 0 < 8; omega)) Ac_10.out.z8.1.2.2.2.2.2.2.1, vcell_far (b5) (AtL.lt Ac_10.out (by show 0 < 8; omega)) Ac_10.out.z8.1.2.2.2.2.2.2.2⟩, ⟨vcell_far (b5) Xr_10.out.lt Xr_10.out.1.1, vcell_far (b5) Xr_10.out.lt Xr_10.out.1.2.1, vcell_far (b5) Xr_10.out.lt Xr_10.out.1.2.2.1, vcell_far (b5) Xr_10.out.lt Xr_10.out.1.2.2.2.1, vcell_far (b5) Xr_10.out.lt Xr_10.out.1.2.2.2.2⟩⟩, Lib.hid (b5)⟩
            clear hK K hHeld
            have hHeld := hNew
            clear hNew
            try simp only [Act.put, List.setIfInBounds_toArray, List.set_cons_zero, List.set_cons_succ]
            refine wpAnyH_ready (rs := [7]) (by kernel_rfl) (by simp) ?_
            refine AllReadyH.cons rfl (fun K hK => ?_) (AllReadyH.nil)
            go_simp
            refine (ipoldo_is L2 a5 _ c5 fr br arp crp (Pr) lr arm crm (Mr) HV.out _ p rfl (OwnC.cs C_5.out) (by omega) (HRM.out.below hHeld.2.out) (HE.out.below (HB10.out.trans (hHeld.2.out.mono HB10.out.size)))).mono ?_
            rintro en wz6 ⟨pv, mv, rfl, S, o, bP, o2, hS, b⟩
            replace o : OwnI wz6 wz5.heap.size pv PV := o
            replace o2 : OwnI wz6 S mv MV := o2
            obtain ⟨ayp, cyp, rfl, _, _⟩ := OwnI.tab o
            obtain ⟨aym, cym, rfl, _, _⟩ := OwnI.tab o2
            have Z6 := Lib.hid (ownw_later Z5.out b)
            have C_6 := Lib.hid (ownc_later C_5.out b)
            have P6 := Lib.hid (owni_mono o hHeld.2.out.size)
            have M6 := Lib.hid (owni_mono o2 (Nat.le_trans hHeld.2.out.size hS))
            have b6 := next hHeld.2.out b
            clear o o2 bP hS b
            go_wp2_with fail
            refine hK.out _ _ ?_ (fun hNew => ?_)
            · exact ⟨⟨⟨vcell_far (b6) (AtL.lt Ac_10.out (by show 0 < 8; omega)) Ac_10.out.z8.1.1, vcell_far (b6) (AtL.lt Ac_10.out (by show 0 < 8; omega)) Ac_10.out.z8.1.2.1, vcell_far (b6) (AtL.lt Ac_10.out (by show 0 < 8; omega)) Ac_10.out.z8.1.2.2.1, vcell_far (b6) (AtL.lt Ac_10.out (by show 0 < 8; omega)) Ac_10.out.z8.1.2.2.2.1, vcell_far (b6) (AtL.lt Ac_10.out (by show 0 < 8; omega)) Ac_10.out.z8.1.2.2.2.2.1, vcell_far (b6) (AtL.lt Ac_10.out (by show 0 < 8; omega)) Ac_10.out.z8.1.2.2.2.2.2.1, vcell_far (b6) (AtL.lt Ac_10.out (by show 0 < 8; omega)) Ac_10.out.z8.1.2.2.2.2.2.2.1, vcell_far (b6) (AtL.lt Ac_10.out (by show 0 < 8; omega)) Ac_10.out.z8.1.2.2.2.2.2.2.2⟩, ⟨vcell_far (b6) Xr_10.out.lt Xr_10.out.1.1, vcell_far (b6) Xr_10.out.lt Xr_10.out.1.2.1, vcell_far (b6) Xr_10.out.lt Xr_10.out.1.2.2.1, vcell_far (b6) Xr_10.out.lt Xr_10.out.1.2.2.2.1, vcell_far (b6) Xr_10.out.lt Xr_10.out.1.2.2.2.2⟩⟩, Lib.hid (b6)⟩
            clear hK K hHeld
            have hHeld := hNew
            clear hNew
            try simp only [Act.put, List.setIfInBounds_toArray, List.set_cons_zero, List.set_cons_succ]
            refine takeH (i := 8) (v := ?_) rfl rfl (by kernel_rfl) (by kernel_rfl) (by kernel_rfl) (fun _ _ _ h => h) (by rfl) ?_ (by assumption) ?_
            rotate_left 1
            · intro w hSw
              (try dsimp only at hSw)
              go_simp
              try with_reducible rfl
            try simp only [List.setIfInBounds_toArray, List.set_cons_zero, List.set_cons_succ]
            refine takeH (i := 9) (v := ?_) rfl rfl (by kernel_rfl) (by kernel_rfl) (by kernel_rfl) (fun _ _ _ h => h) (by rfl) ?_ (by assumption) ?_
            rotate_left 1
            · intro w hSw
              (try dsimp only at hSw)
              go_simp
              try with_reducible rfl
            try simp only [List.setIfInBounds_toArray, List.set_cons_zero, List.set_cons_succ]
            refine takeH (i := 10) (v := ?_) rfl rfl (by kernel_rfl) (by kernel_rfl) (by kernel_rfl) (fun _ _ _ h => h) (by rfl) ?_ (by assumption) ?_
            rotate_left 1
            · intro w hSw
              (try dsimp only at hSw)
              go_simp
              try with_reducible rfl
            try simp only [List.setIfInBounds_toArray, List.set_cons_zero, List.set_cons_succ]
            refine wpAnyH_ready (rs := [12]) (by kernel_rfl) (by simp) ?_
            refine AllReadyH.cons rfl (fun K hK => ?_) (AllReadyH.nil)
            refine wp_stA 36 (.tmp 12) (.tmp 86) rfl (wz1.heap.size) #[.int .i64 fV, .int .i64 bV, .slice ayp PV.length cyp, .int .i64 lV, .slice aym MV.length cym] (by simp [Act.eval]) (by simp [Act.eval]) (one5a _ _ _ _ _ _ _ _ _) infoR5 _ (OwnW.atl Z6.out) rfl ?_
            intro wz7 aa gg
            have HF : Hid (CutY w10 (wz1.heap.size) fV bV lV PV MV ayp cyp aym cym wz7) := Lib.hid (CutY.mk' hHeld.2.out Z6.out P6.out M6.out aa gg)
            clear aa gg
            try simp only [List.getElem_toArray, List.getElem_cons_succ, List.getElem_cons_zero]
            refine hK.out _ _ ?_ (fun hNew => ?_)
            · exact ⟨⟨⟨vcell_far (HF.out.bel) (AtL.lt Ac_10.out (by show 0 < 8; omega)) Ac_10.out.z8.1.1, vcell_far (HF.out.bel) (AtL.lt Ac_10.out (by show 0 < 8; omega)) Ac_10.out.z8.1.2.1, vcell_far (HF.out.bel) (AtL.lt Ac_10.out (by show 0 < 8; omega)) Ac_10.out.z8.1.2.2.1, vcell_far (HF.out.bel) (AtL.lt Ac_10.out (by show 0 < 8; omega)) Ac_10.out.z8.1.2.2.2.1, vcell_far (HF.out.bel) (AtL.lt Ac_10.out (by show 0 < 8; omega)) Ac_10.out.z8.1.2.2.2.2.1, vcell_far (HF.out.bel) (AtL.lt Ac_10.out (by show 0 < 8; omega)) Ac_10.out.z8.1.2.2.2.2.2.1, vcell_far (HF.out.bel) (AtL.lt Ac_10.out (by show 0 < 8; omega)) Ac_10.out.z8.1.2.2.2.2.2.2.1, vcell_far (HF.out.bel) (AtL.lt Ac_10.out (by show 0 < 8; omega)) Ac_10.out.z8.1.2.2.2.2.2.2.2⟩, ⟨vcell_far (HF.out.bel) Xr_10.out.lt Xr_10.out.1.1, vcell_far (HF.out.bel) Xr_10.out.lt Xr_10.out.1.2.1, vcell_far (HF.out.bel) Xr_10.out.lt Xr_10.out.1.2.2.1, vcell_far (HF.out.bel) Xr_10.out.lt Xr_10.out.1.2.2.2.1, vcell_far (HF.out.bel) Xr_10.out.lt Xr_10.out.1.2.2.2.2⟩⟩, Lib.hid (HF.out.bel)⟩
            clear hK K hHeld
            have hHeld := hNew
            clear hNew
            try simp only [Act.put, List.setIfInBounds_toArray, List.set_cons_zero, List.set_cons_succ]
            refine takeH (i := 13) (v := ?_) rfl rfl (by kernel_rfl) (by kernel_rfl) (by kernel_rfl) (fun _ _ _ h => h) (by rfl) ?_ (by assumption) ?_
            rotate_left 1
            · intro w hSw
              (try dsimp only at hSw)
              go_simp
              try with_reducible rfl
            try simp only [List.setIfInBounds_toArray, List.set_cons_zero, List.set_cons_succ]
            refine wpAnyH_done (by kernel_rfl) ?_ _
            clear hHeld
            go_wp2_with fail
            go_meet
            exact ⟨_, _, _, _, _, rfl, rfl, HF⟩
        · generalize w10.drew = wz0 at *
          go_simp
          have be1 : Below wz0.heap.size wz0 (wz0.alloc (.cells #[.int .i64 0, .int .i64 0, .slice none 0 0, .int .i64 0, .slice none 0 0] 36)) := (Below.refl _ _).alloc (Nat.le_refl _) _
          have Z1 := Lib.hid (ownw_zero wz0 w10.heap.size hHeld.2.out.size)
          generalize wz0.alloc (.cells #[.int .i64 0, .int .i64 0, .slice none 0 0, .int .i64 0, .slice none 0 0] 36) = wz1 at *
          refine hK.out _ _ ?_ (fun hNew => ?_)
          · exact ⟨⟨⟨vcell_far (next hHeld.2.out be1) (AtL.lt Ac_10.out (by show 0 < 8; omega)) Ac_10.out.z8.1.1, vcell_far (next hHeld.2.out be1) (AtL.lt Ac_10.out (by show 0 < 8; omega)) Ac_10.out.z8.1.2.1, vcell_far (next hHeld.2.out be1) (AtL.lt Ac_10.out (by show 0 < 8; omega)) Ac_10.out.z8.1.2.2.1, vcell_far (next hHeld.2.out be1) (AtL.lt Ac_10.out (by show 0 < 8; omega)) Ac_10.out.z8.1.2.2.2.1, vcell_far (next hHeld.2.out be1) (AtL.lt Ac_10.out (by show 0 < 8; omega)) Ac_10.out.z8.1.2.2.2.2.1, vcell_far (next hHeld.2.out be1) (AtL.lt Ac_10.out (by show 0 < 8; omega)) Ac_10.out.z8.1.2.2.2.2.2.1, vcell_far (next hHeld.2.out be1) (AtL.lt Ac_10.out (by show 0 < 8; omega)) Ac_10.out.z8.1.2.2.2.2.2.2.1, vcell_far (next hHeld.2.out be1) (AtL.lt Ac_10.out (by show 0 < 8; omega)) Ac_10.out.z8.1.2.2.2.2.2.2.2⟩, ⟨vcell_far (next hHeld.2.out be1) Xr_10.out.lt Xr_10.out.1.1, vcell_far (next hHeld.2.out be1) Xr_10.out.lt Xr_10.out.1.2.1, vcell_far (next hHeld.2.out be1) Xr_10.out.lt Xr_10.out.1.2.2.1, vcell_far (next hHeld.2.out be1) Xr_10.out.lt Xr_10.out.1.2.2.2.1, vcell_far (next hHeld.2.out be1) Xr_10.out.lt Xr_10.out.1.2.2.2.2⟩⟩, Lib.hid (next hHeld.2.out be1)⟩
          clear hK K hHeld
          have hHeld := hNew
          clear hNew
          try simp only [Act.put, List.setIfInBounds_toArray, List.set_cons_zero, List.set_cons_succ]
          refine wpAnyH_ready (rs := [0, 4]) (by kernel_rfl) (by simp) ?_
          refine AllReadyH.cons rfl (fun K hK => ?_) (AllReadyH.cons rfl (fun K hK => ?_) (AllReadyH.nil))
          · go_simp
            have be2 : Below wz1.heap.size wz1 (wz1.alloc (.cells #[] 33)) := (Below.refl _ _).alloc (Nat.le_refl _) _
            have Z2 := Lib.hid (ownw_later Z1.out be2)
            have C_2 := Lib.hid (ownc_empty wz1 w10.heap.size hHeld.2.out.size)
            generalize wz1.alloc (.cells #[] 33) = wz2 at *
            refine hK.out _ _ ?_ (fun hNew => ?_)
            · exact ⟨⟨⟨vcell_far (next hHeld.2.out be2) (AtL.lt Ac_10.out (by show 0 < 8; omega)) Ac_10.out.z8.1.1, vcell_far (next hHeld.2.out be2) (AtL.lt Ac_10.out (by show 0 < 8; omega)) Ac_10.out.z8.1.2.1, vcell_far (next hHeld.2.out be2) (AtL.lt Ac_10.out (by show 0 < 8; omega)) Ac_10.out.z8.1.2.2.1, vcell_far (next hHeld.2.out be2) (AtL.lt Ac_10.out (by show 0 < 8; omega)) Ac_10.out.z8.1.2.2.2.1, vcell_far (next hHeld.2.out be2) (AtL.lt Ac_10.out (by show 0 < 8; omega)) Ac_10.out.z8.1.2.2.2.2.1, vcell_far (next hHeld.2.out be2) (AtL.lt Ac_10.out (by show 0 < 8; omega)) Ac_10.out.z8.1.2.2.2.2.2.1, vcell_far (next hHeld.2.out be2) (AtL.lt Ac_10.out (by show 0 < 8; omega)) Ac_10.out.z8.1.2.2.2.2.2.2.1, vcell_far (next hHeld.2.out be2) (AtL.lt Ac_10.out (by show 0 < 8; omega)) Ac_10.out.z8.1.2.2.2.2.2.2.2⟩, ⟨vcell_far (next hHeld.2.out be2) Xr_10.out.lt Xr_10.out.1.1, vcell_far (next hHeld.2.out be2) Xr_10.out.lt Xr_10.out.1.2.1, vcell_far (next hHeld.2.out be2) Xr_10.out.lt Xr_10.out.1.2.2.1, vcell_far (next hHeld.2.out be2) Xr_10.out.lt Xr_10.out.1.2.2.2.1, vcell_far (next hHeld.2.out be2) Xr_10.out.lt Xr_10.out.1.2.2.2.2⟩⟩, Lib.hid (next hHeld.2.out be2)⟩
            clear hK K hHeld
            have hHeld := hNew
            clear hNew
            try simp only [Act.put, List.setIfInBounds_toArray, List.set_cons_zero, List.set_cons_succ]
            refine wpAnyH_ready (rs := [2, 4]) (by kernel_rfl) (by simp) ?_
            refine AllReadyH.cons rfl (fun K hK => ?_) (AllReadyH.cons rfl (fun K hK => ?_) (AllReadyH.nil))
            · refine wp_appC (.tmp 78) (.tmp 79) rfl w10.heap.size (.slice (some ⟨wz1.heap.size, 0, none⟩) 0 0) [] (by simp [Act.eval]) C_2.out ap Lp.length cp Lp rfl (by simp [Act.eval]) ((OwnC.cs Cp_10.out).below hHeld.2.out) (by first | omega | (simp; done) | (simp; omega)) hHeld.2.out.size ?_
              intro v3 w903 own3 grow3
              have b3 : Below w10.heap.size w10 w903 := Below.grown hHeld.2.out grow3 hHeld.2.out.size (fun k e => (World.ownsRow.lt C_2.out k e).1)
              have Z3 := Lib.hid (World.ownsRow.kept Z2.out grow3 (rows_apart Z2.out C_2.out (by decide)))
              replace own3 : OwnC w903 w10.heap.size v3 Lp := own3
              obtain ⟨a3, c3, rfl, _, _⟩ := OwnC.tab own3
              have C_3 := Lib.hid own3
              clear own3 grow3
              generalize w903 = wz3 at *
              try simp only [List.getElem_toArray, List.getElem_cons_succ, List.getElem_cons_zero]
              refine hK.out _ _ ?_ (fun hNew => ?_)
              · exact ⟨⟨⟨vcell_far (b3) (AtL.lt Ac_10.out (by show 0 < 8; omega)) Ac_10.out.z8.1.1, vcell_far (b3) (AtL.lt Ac_10.out (by show 0 < 8; omega)) Ac_10.out.z8.1.2.1, vcell_far (b3) (AtL.lt Ac_10.out (by show 0 < 8; omega)) Ac_10.out.z8.1.2.2.1, vcell_far (b3) (AtL.lt Ac_10.out (by show 0 < 8; omega)) Ac_10.out.z8.1.2.2.2.1, vcell_far (b3) (AtL.lt Ac_10.out (by show 0 < 8; omega)) Ac_10.out.z8.1.2.2.2.2.1, vcell_far (b3) (AtL.lt Ac_10.out (by show 0 < 8; omega)) Ac_10.out.z8.1.2.2.2.2.2.1, vcell_far (b3) (AtL.lt Ac_10.out (by show 0 < 8; omega)) Ac_10.out.z8.1.2.2.2.2.2.2.1, vcell_far (b3) (AtL.lt Ac_10.out (by show 0 < 8; omega)) Ac_10.out.z8.1.2.2.2.2.2.2.2⟩, ⟨vcell_far (b3) Xr_10.out.lt Xr_10.out.1.1, vcell_far (b3) Xr_10.out.lt Xr_10.out.1.2.1, vcell_far (b3) Xr_10.out.lt Xr_10.out.1.2.2.1, vcell_far (b3) Xr_10.out.lt Xr_10.out.1.2.2.2.1, vcell_far (b3) Xr_10.out.lt Xr_10.out.1.2.2.2.2⟩⟩, Lib.hid (b3)⟩
              clear hK K hHeld
              have hHeld := hNew
              clear hNew
              try simp only [Act.put, List.setIfInBounds_toArray, List.set_cons_zero, List.set_cons_succ]
              refine wpAnyH_ready (rs := [4]) (by kernel_rfl) (by simp) ?_
              refine AllReadyH.cons rfl (fun K hK => ?_) (AllReadyH.nil)
              go_simp
              have be4 : Below wz3.heap.size wz3 (wz3.alloc (.cells #[.int .i64 5, .int .i64 (1 + (s : Int)), .int .i64 0, .int .i64 0, .bool false, .int .i64 7, .int .i64 0, .int .i64 0] 33)) := (Below.refl _ _).alloc (Nat.le_refl _) _
              have Z4 := Lib.hid (ownw_later Z3.out be4)
              have C_4 := Lib.hid (ownc_later C_3.out be4)
              have CD_4 := Lib.hid (ownc_one wz3 w10.heap.size hHeld.2.out.size ⟨5, 1 + (s : Int), 0, 0, false, 7, 0, 0⟩)
              change Hid (OwnC (wz3.alloc (.cells #[.int .i64 5, .int .i64 (1 + (s : Int)), .int .i64 0, .int .i64 0, .bool false, .int .i64 7, .int .i64 0, .int .i64 0] 33)) _ _ _) at CD_4
              generalize wz3.alloc (.cells #[.int .i64 5, .int .i64 (1 + (s : Int)), .int .i64 0, .int .i64 0, .bool false, .int .i64 7, .int .i64 0, .int .i64 0] 33) = wz4 at *
              refine hK.out _ _ ?_ (fun hNew => ?_)
              · exact ⟨⟨⟨vcell_far (next hHeld.2.out be4) (AtL.lt Ac_10.out (by show 0 < 8; omega)) Ac_10.out.z8.1.1, vcell_far (next hHeld.2.out be4) (AtL.lt Ac_10.out (by show 0 < 8; omega)) Ac_10.out.z8.1.2.1, vcell_far (next hHeld.2.out be4) (AtL.lt Ac_10.out (by show 0 < 8; omega)) Ac_10.out.z8.1.2.2.1, vcell_far (next hHeld.2.out be4) (AtL.lt Ac_10.out (by show 0 < 8; omega)) Ac_10.out.z8.1.2.2.2.1, vcell_far (next hHeld.2.out be4) (AtL.lt Ac_10.out (by show 0 < 8; omega)) Ac_10.out.z8.1.2.2.2.2.1, vcell_far (next hHeld.2.out be4) (AtL.lt Ac_10.out (by show 0 < 8; omega)) Ac_10.out.z8.1.2.2.2.2.2.1, vcell_far (next hHeld.2.out be4) (AtL.lt Ac_10.out (by show 0 < 8; omega)) Ac_10.out.z8.1.2.2.2.2.2.2.1, vcell_far (next hHeld.2.out be4) (AtL.lt Ac_10.out (by show 0 < 8; omega)) Ac_10.out.z8.1.2.2.2.2.2.2.2⟩, ⟨vcell_far (next hHeld.2.out be4) Xr_10.out.lt Xr_10.out.1.1, vcell_far (next hHeld.2.out be4) Xr_10.out.lt Xr_10.out.1.2.1, vcell_far (next hHeld.2.out be4) Xr_10.out.lt Xr_10.out.1.2.2.1, vcell_far (next hHeld.2.out be4) Xr_10.out.lt Xr_10.out.1.2.2.2.1, vcell_far (next hHeld.2.out be4) Xr_10.out.lt Xr_10.out.1.2.2.2.2⟩⟩, Lib.hid (next hHeld.2.out be4)⟩
              clear hK K hHeld
              have hHeld := hNew
              clear hNew
              try simp only [Act.put, List.setIfInBounds_toArray, List.set_cons_zero, List.set_cons_succ]
              refine wpAnyH_ready (rs := [5]) (by kernel_rfl) (by simp) ?_
              refine AllReadyH.cons rfl (fun K hK => ?_) (AllReadyH.nil)
              refine wp_appC (.tmp 80) (.tmp 82) rfl w10.heap.size (.slice a3 Lp.length c3) Lp (by simp [Act.eval]) C_4.out (some ⟨wz3.heap.size, 0, none⟩) 1 1 [⟨5, 1 + (s : Int), 0, 0, false, 7, 0, 0⟩] rfl (by simp [Act.eval]) (OwnC.cs CD_4.out) (by first | omega | (simp; done) | (simp; omega)) hHeld.2.out.size ?_
              intro v5 w905 own5 grow5
              have b5 : Below w10.heap.size w10 w905 := Below.grown hHeld.2.out grow5 hHeld.2.out.size (fun k e => (World.ownsRow.lt C_4.out k e).1)
              have Z5 := Lib.hid (World.ownsRow.kept Z4.out grow5 (rows_apart Z4.out C_4.out (by decide)))
              rw [← HL.out] at own5
              replace own5 : OwnC w905 w10.heap.size v5 L2 := own5
              obtain ⟨a5, c5, rfl, _, _⟩ := OwnC.tab own5
              have C_5 := Lib.hid own5
              clear own5 grow5
              generalize w905 = wz5 at *
              try simp only [List.getElem_toArray, List.getElem_cons_succ, List.getElem_cons_zero]
              refine hK.out _ _ ?_ (fun hNew => ?_)
              · exact ⟨⟨⟨vcell_far (b5) (AtL.lt Ac_10.out (by show 0 < 8; omega)) Ac_10.out.z8.1.1, vcell_far (b5) (AtL.lt Ac_10.out (by show 0 < 8; omega)) Ac_10.out.z8.1.2.1, vcell_far (b5) (AtL.lt Ac_10.out (by show 0 < 8; omega)) Ac_10.out.z8.1.2.2.1, vcell_far (b5) (AtL.lt Ac_10.out (by show 0 < 8; omega)) Ac_10.out.z8.1.2.2.2.1, vcell_far (b5) (AtL.lt Ac_10.out (by show 0 < 8; omega)) Ac_10.out.z8.1.2.2.2.2.1, vcell_far (b5) (AtL.lt Ac_10.out (by show 0 < 8; omega)) Ac_10.out.z8.1.2.2.2.2.2.1, vcell_far (b5) (AtL.lt Ac_10.out (by show 0 < 8; omega)) Ac_10.out.z8.1.2.2.2.2.2.2.1, vcell_far (b5) (AtL.lt Ac_10.out (by show 0 < 8; omega)) Ac_10.out.z8.1.2.2.2.2.2.2.2⟩, ⟨vcell_far (b5) Xr_10.out.lt Xr_10.out.1.1, vcell_far (b5) Xr_10.out.lt Xr_10.out.1.2.1, vcell_far (b5) Xr_10.out.lt Xr_10.out.1.2.2.1, vcell_far (b5) Xr_10.out.lt Xr_10.out.1.2.2.2.1, vcell_far (b5) Xr_10.out.lt Xr_10.out.1.2.2.2.2⟩⟩, Lib.hid (b5)⟩
              clear hK K hHeld
              have hHeld := hNew
              clear hNew
              try simp only [Act.put, List.setIfInBounds_toArray, List.set_cons_zero, List.set_cons_succ]
              refine wpAnyH_ready (rs := [7]) (by kernel_rfl) (by simp) ?_
              refine AllReadyH.cons rfl (fun K hK => ?_) (AllReadyH.nil)
              go_simp
              refine (ipoldo_is L2 a5 _ c5 fr br arp crp (Pr) lr arm crm (Mr) HV.out _ p rfl (OwnC.cs C_5.out) (by omega) (HRM.out.below hHeld.2.out) (HE.out.below (HB10.out.trans (hHeld.2.out.mono HB10.out.size)))).mono ?_
              rintro en wz6 ⟨pv, mv, rfl, S, o, bP, o2, hS, b⟩
              replace o : OwnI wz6 wz5.heap.size pv PV := o
              replace o2 : OwnI wz6 S mv MV := o2
              obtain ⟨ayp, cyp, rfl, _, _⟩ := OwnI.tab o
              obtain ⟨aym, cym, rfl, _, _⟩ := OwnI.tab o2
              have Z6 := Lib.hid (ownw_later Z5.out b)
              have C_6 := Lib.hid (ownc_later C_5.out b)
              have P6 := Lib.hid (owni_mono o hHeld.2.out.size)
              have M6 := Lib.hid (owni_mono o2 (Nat.le_trans hHeld.2.out.size hS))
              have b6 := next hHeld.2.out b
              clear o o2 bP hS b
              go_wp2_with fail
              refine hK.out _ _ ?_ (fun hNew => ?_)
              · exact ⟨⟨⟨vcell_far (b6) (AtL.lt Ac_10.out (by show 0 < 8; omega)) Ac_10.out.z8.1.1, vcell_far (b6) (AtL.lt Ac_10.out (by show 0 < 8; omega)) Ac_10.out.z8.1.2.1, vcell_far (b6) (AtL.lt Ac_10.out (by show 0 < 8; omega)) Ac_10.out.z8.1.2.2.1, vcell_far (b6) (AtL.lt Ac_10.out (by show 0 < 8; omega)) Ac_10.out.z8.1.2.2.2.1, vcell_far (b6) (AtL.lt Ac_10.out (by show 0 < 8; omega)) Ac_10.out.z8.1.2.2.2.2.1, vcell_far (b6) (AtL.lt Ac_10.out (by show 0 < 8; omega)) Ac_10.out.z8.1.2.2.2.2.2.1, vcell_far (b6) (AtL.lt Ac_10.out (by show 0 < 8; omega)) Ac_10.out.z8.1.2.2.2.2.2.2.1, vcell_far (b6) (AtL.lt Ac_10.out (by show 0 < 8; omega)) Ac_10.out.z8.1.2.2.2.2.2.2.2⟩, ⟨vcell_far (b6) Xr_10.out.lt Xr_10.out.1.1, vcell_far (b6) Xr_10.out.lt Xr_10.out.1.2.1, vcell_far (b6) Xr_10.out.lt Xr_10.out.1.2.2.1, vcell_far (b6) Xr_10.out.lt Xr_10.out.1.2.2.2.1, vcell_far (b6) Xr_10.out.lt Xr_10.out.1.2.2.2.2⟩⟩, Lib.hid (b6)⟩
              clear hK K hHeld
              have hHeld := hNew
              clear hNew
              try simp only [Act.put, List.setIfInBounds_toArray, List.set_cons_zero, List.set_cons_succ]
              refine takeH (i := 8) (v := ?_) rfl rfl (by kernel_rfl) (by kernel_rfl) (by kernel_rfl) (fun _ _ _ h => h) (by rfl) ?_ (by assumption) ?_
              rotate_left 1
              · intro w hSw
                (try dsimp only at hSw)
                go_simp
                try with_reducible rfl
              try simp only [List.setIfInBounds_toArray, List.set_cons_zero, List.set_cons_succ]
              refine takeH (i := 9) (v := ?_) rfl rfl (by kernel_rfl) (by kernel_rfl) (by kernel_rfl) (fun _ _ _ h => h) (by rfl) ?_ (by assumption) ?_
              rotate_left 1
              · intro w hSw
                (try dsimp only at hSw)
                go_simp
                try with_reducible rfl
              try simp only [List.setIfInBounds_toArray, List.set_cons_zero, List.set_cons_succ]
              refine takeH (i := 10) (v := ?_) rfl rfl (by kernel_rfl) (by kernel_rfl) (by kernel_rfl) (fun _ _ _ h => h) (by rfl) ?_ (by assumption) ?_
              rotate_left 1
              · intro w hSw
                (try dsimp only at hSw)
                go_simp
                try with_reducible rfl
              try simp only [List.setIfInBounds_toArray, List.set_cons_zero, List.set_cons_succ]
              refine wpAnyH_ready (rs := [12]) (by kernel_rfl) (by simp) ?_
              refine AllReadyH.cons rfl (fun K hK => ?_) (AllReadyH.nil)
              refine wp_stA 36 (.tmp 12) (.tmp 86) rfl (wz0.heap.size) #[.int .i64 fV, .int .i64 bV, .slice ayp PV.length cyp, .int .i64 lV, .slice aym MV.length cym] (by simp [Act.eval]) (by simp [Act.eval]) (one5a _ _ _ _ _ _ _ _ _) infoR5 _ (OwnW.atl Z6.out) rfl ?_
              intro wz7 aa gg
              have HF : Hid (CutY w10 (wz0.heap.size) fV bV lV PV MV ayp cyp aym cym wz7) := Lib.hid (CutY.mk' hHeld.2.out Z6.out P6.out M6.out aa gg)
              clear aa gg
              try simp only [List.getElem_toArray, List.getElem_cons_succ, List.getElem_cons_zero]
              refine hK.out _ _ ?_ (fun hNew => ?_)
              · exact ⟨⟨⟨vcell_far (HF.out.bel) (AtL.lt Ac_10.out (by show 0 < 8; omega)) Ac_10.out.z8.1.1, vcell_far (HF.out.bel) (AtL.lt Ac_10.out (by show 0 < 8; omega)) Ac_10.out.z8.1.2.1, vcell_far (HF.out.bel) (AtL.lt Ac_10.out (by show 0 < 8; omega)) Ac_10.out.z8.1.2.2.1, vcell_far (HF.out.bel) (AtL.lt Ac_10.out (by show 0 < 8; omega)) Ac_10.out.z8.1.2.2.2.1, vcell_far (HF.out.bel) (AtL.lt Ac_10.out (by show 0 < 8; omega)) Ac_10.out.z8.1.2.2.2.2.1, vcell_far (HF.out.bel) (AtL.lt Ac_10.out (by show 0 < 8; omega)) Ac_10.out.z8.1.2.2.2.2.2.1, vcell_far (HF.out.bel) (AtL.lt Ac_10.out (by show 0 < 8; omega)) Ac_10.out.z8.1.2.2.2.2.2.2.1, vcell_far (HF.out.bel) (AtL.lt Ac_10.out (by show 0 < 8; omega)) Ac_10.out.z8.1.2.2.2.2.2.2.2⟩, ⟨vcell_far (HF.out.bel) Xr_10.out.lt Xr_10.out.1.1, vcell_far (HF.out.bel) Xr_10.out.lt Xr_10.out.1.2.1, vcell_far (HF.out.bel) Xr_10.out.lt Xr_10.out.1.2.2.1, vcell_far (HF.out.bel) Xr_10.out.lt Xr_10.out.1.2.2.2.1, vcell_far (HF.out.bel) Xr_10.out.lt Xr_10.out.1.2.2.2.2⟩⟩, Lib.hid (HF.out.bel)⟩
              clear hK K hHeld
              have hHeld := hNew
              clear hNew
              try simp only [Act.put, List.setIfInBounds_toArray, List.set_cons_zero, List.set_cons_succ]
              refine takeH (i := 13) (v := ?_) rfl rfl (by kernel_rfl) (by kernel_rfl) (by kernel_rfl) (fun _ _ _ h => h) (by rfl) ?_ (by assumption) ?_
              rotate_left 1
              · intro w hSw
                (try dsimp only at hSw)
                go_simp
                try with_reducible rfl
              try simp only [List.setIfInBounds_toArray, List.set_cons_zero, List.set_cons_succ]
              refine wpAnyH_done (by kernel_rfl) ?_ _
              clear hHeld
              go_wp2_with fail
              go_meet
              exact ⟨_, _, _, _, _, rfl, rfl, HF⟩
            · go_simp
              have be3 : Below wz2.heap.size wz2 (wz2.alloc (.cells #[.int .i64 5, .int .i64 (1 + (s : Int)), .int .i64 0, .int .i64 0, .bool false, .int .i64 7, .int .i64 0, .int .i64 0] 33)) := (Below.refl _ _).alloc (Nat.le_refl _) _
              have Z3 := Lib.hid (ownw_later Z2.out be3)
              have C_3 := Lib.hid (ownc_later C_2.out be3)
              have neCD : wz2.heap.size ≠ wz1.heap.size := by have h0 := (World.ownsRow.lt C_2.out _ rfl).2; simp only [World.size_alloc] at h0; omega
              have CD_3 := Lib.hid (ownc_one wz2 w10.heap.size hHeld.2.out.size ⟨5, 1 + (s : Int), 0, 0, false, 7, 0, 0⟩)
              change Hid (OwnC (wz2.alloc (.cells #[.int .i64 5, .int .i64 (1 + (s : Int)), .int .i64 0, .int .i64 0, .bool false, .int .i64 7, .int .i64 0, .int .i64 0] 33)) _ _ _) at CD_3
              generalize wz2.alloc (.cells #[.int .i64 5, .int .i64 (1 + (s : Int)), .int .i64 0, .int .i64 0, .bool false, .int .i64 7, .int .i64 0, .int .i64 0] 33) = wz3 at *
              refine hK.out _ _ ?_ (fun hNew => ?_)
              · exact ⟨⟨⟨vcell_far (next hHeld.2.out be3) (AtL.lt Ac_10.out (by show 0 < 8; omega)) Ac_10.out.z8.1.1, vcell_far (next hHeld.2.out be3) (AtL.lt Ac_10.out (by show 0 < 8; omega)) Ac_10.out.z8.1.2.1, vcell_far (next hHeld.2.out be3) (AtL.lt Ac_10.out (by show 0 < 8; omega)) Ac_10.out.z8.1.2.2.1, vcell_far (next hHeld.2.out be3) (AtL.lt Ac_10.out (by show 0 < 8; omega)) Ac_10.out.z8.1.2.2.2.1, vcell_far (next hHeld.2.out be3) (AtL.lt Ac_10.out (by show 0 < 8; omega)) Ac_10.out.z8.1.2.2.2.2.1, vcell_far (next hHeld.2.out be3) (AtL.lt Ac_10.out (by show 0 < 8; omega)) Ac_10.out.z8.1.2.2.2.2.2.1, vcell_far (next hHeld.2.out be3) (AtL.lt Ac_10.out (by show 0 < 8; omega)) Ac_10.out.z8.1.2.2.2.2.2.2.1, vcell_far (next hHeld.2.out be3) (AtL.lt Ac_10.out (by show 0 < 8; omega)) Ac_10.out.z8.1.2.2.2.2.2.2.2⟩, ⟨vcell_far (next hHeld.2.out be3) Xr_10.out.lt Xr_10.out.1.1, vcell_far (next hHeld.2.out be3) Xr_10.out.lt Xr_10.out.1.2.1, vcell_far (next hHeld.2.out be3) Xr_10.out.lt Xr_10.out.1.2.2.1, vcell_far (next hHeld.2.out be3) Xr_10.out.lt Xr_10.out.1.2.2.2.1, vcell_far (next hHeld.2.out be3) Xr_10.out.lt Xr_10.out.1.2.2.2.2⟩⟩, Lib.hid (next hHeld.2.out be3)⟩
              clear hK K hHeld
              have hHeld := hNew
              clear hNew
              try simp only [Act.put, List.setIfInBounds_toArray, List.set_cons_zero, List.set_cons_succ]
              refine wpAnyH_ready (rs := [2]) (by kernel_rfl) (by simp) ?_
              refine AllReadyH.cons rfl (fun K hK => ?_) (AllReadyH.nil)
              refine wp_appC (.tmp 78) (.tmp 79) rfl w10.heap.size (.slice (some ⟨wz1.heap.size, 0, none⟩) 0 0) [] (by simp [Act.eval]) C_3.out ap Lp.length cp Lp rfl (by simp [Act.eval]) ((OwnC.cs Cp_10.out).below hHeld.2.out) (by first | omega | (simp; done) | (simp; omega)) hHeld.2.out.size ?_
              intro v4 w904 own4 grow4
              have b4 : Below w10.heap.size w10 w904 := Below.grown hHeld.2.out grow4 hHeld.2.out.size (fun k e => (World.ownsRow.lt C_3.out k e).1)
              have Z4 := Lib.hid (World.ownsRow.kept Z3.out grow4 (rows_apart Z3.out C_3.out (by decide)))
              have CD_4 := Lib.hid (World.ownsRow.kept CD_3.out grow4 (.inr (fun e => neCD (by simpa [Value.ownBlock] using e))))
              replace own4 : OwnC w904 w10.heap.size v4 Lp := own4
              obtain ⟨a4, c4, rfl, _, _⟩ := OwnC.tab own4
              have C_4 := Lib.hid own4
              clear own4 grow4
              generalize w904 = wz4 at *
              try simp only [List.getElem_toArray, List.getElem_cons_succ, List.getElem_cons_zero]
              refine hK.out _ _ ?_ (fun hNew => ?_)
              · exact ⟨⟨⟨vcell_far (b4) (AtL.lt Ac_10.out (by show 0 < 8; omega)) Ac_10.out.z8.1.1, vcell_far (b4) (AtL.lt Ac_10.out (by show 0 < 8; omega)) Ac_10.out.z8.1.2.1, vcell_far (b4) (AtL.lt Ac_10.out (by show 0 < 8; omega)) Ac_10.out.z8.1.2.2.1, vcell_far (b4) (AtL.lt Ac_10.out (by show 0 < 8; omega)) Ac_10.out.z8.1.2.2.2.1, vcell_far (b4) (AtL.lt Ac_10.out (by show 0 < 8; omega)) Ac_10.out.z8.1.2.2.2.2.1, vcell_far (b4) (AtL.lt Ac_10.out (by show 0 < 8; omega)) Ac_10.out.z8.1.2.2.2.2.2.1, vcell_far (b4) (AtL.lt Ac_10.out (by show 0 < 8; omega)) Ac_10.out.z8.1.2.2.2.2.2.2.1, vcell_far (b4) (AtL.lt Ac_10.out (by show 0 < 8; omega)) Ac_10.out.z8.1.2.2.2.2.2.2.2⟩, ⟨vcell_far (b4) Xr_10.out.lt Xr_10.out.1.1, vcell_far (b4) Xr_10.out.lt Xr_10.out.1.2.1, vcell_far (b4) Xr_10.out.lt Xr_10.out.1.2.2.1, vcell_far (b4) Xr_10.out.lt Xr_10.out.1.2.2.2.1, vcell_far (b4) Xr_10.out.lt Xr_10.out.1.2.2.2.2⟩⟩, Lib.hid (b4)⟩
              clear hK K hHeld
              have hHeld := hNew
              clear hNew
              try simp only [Act.put, List.setIfInBounds_toArray, List.set_cons_zero, List.set_cons_succ]
              refine wpAnyH_ready (rs := [5]) (by kernel_rfl) (by simp) ?_
              refine AllReadyH.cons rfl (fun K hK => ?_) (AllReadyH.nil)
              refine wp_appC (.tmp 80) (.tmp 82) rfl w10.heap.size (.slice a4 Lp.length c4) Lp (by simp [Act.eval]) C_4.out (some ⟨wz2.heap.size, 0, none⟩) 1 1 [⟨5, 1 + (s : Int), 0, 0, false, 7, 0, 0⟩] rfl (by simp [Act.eval]) (OwnC.cs CD_4.out) (by first | omega | (simp; done) | (simp; omega)) hHeld.2.out.size ?_
              intro v5 w905 own5 grow5
              have b5 : Below w10.heap.size w10 w905 := Below.grown hHeld.2.out grow5 hHeld.2.out.size (fun k e => (World.ownsRow.lt C_4.out k e).1)
              have Z5 := Lib.hid (World.ownsRow.kept Z4.out grow5 (rows_apart Z4.out C_4.out (by decide)))
              rw [← HL.out] at own5
              replace own5 : OwnC w905 w10.heap.size v5 L2 := own5
              obtain ⟨a5, c5, rfl, _, _⟩ := OwnC.tab own5
              have C_5 := Lib.hid own5
              clear own5 grow5
              generalize w905 = wz5 at *
              try simp only [List.getElem_toArray, List.getElem_cons_succ, List.getElem_cons_zero]
              refine hK.out _ _ ?_ (fun hNew => ?_)
              · exact ⟨⟨⟨vcell_far (b5) (AtL.lt Ac_10.out (by show 0 < 8; omega)) Ac_10.out.z8.1.1, vcell_far (b5) (AtL.lt Ac_10.out (by show 0 < 8; omega)) Ac_10.out.z8.1.2.1, vcell_far (b5) (AtL.lt Ac_10.out (by show 0 < 8; omega)) Ac_10.out.z8.1.2.2.1, vcell_far (b5) (AtL.lt Ac_10.out (by show 0 < 8; omega)) Ac_10.out.z8.1.2.2.2.1, vcell_far (b5) (AtL.lt Ac_10.out (by show 0 < 8; omega)) Ac_10.out.z8.1.2.2.2.2.1, vcell_far (b5) (AtL.lt Ac_10.out (by show 0 < 8; omega)) Ac_10.out.z8.1.2.2.2.2.2.1, vcell_far (b5) (AtL.lt Ac_10.out (by show 0 < 8; omega)) Ac_10.out.z8.1.2.2.2.2.2.2.1, vcell_far (b5) (AtL.lt Ac_10.out (by show 0 < 8; omega)) Ac_10.out.z8.1.2.2.2.2.2.2.2⟩, ⟨vcell_far (b5) Xr_10.out.lt Xr_10.out.1.1, vcell_far (b5) Xr_10.out.lt Xr_10.out.1.2.1, vcell_far (b5) Xr_10.out.lt Xr_10.out.1.2.2.1, vcell_far (b5) Xr_10.out.lt Xr_10.out.1.2.2.2.1, vcell_far (b5) Xr_10.out.lt Xr_10.out.1.2.2.2.2⟩⟩, Lib.hid (b5)⟩
              clear hK K hHeld
              have hHeld := hNew
              clear hNew
              try simp only [Act.put, List.setIfInBounds_toArray, List.set_cons_zero, List.set_cons_succ]
              refine wpAnyH_ready (rs := [7]) (by kernel_rfl) (by simp) ?_
              refine AllReadyH.cons rfl (fun K hK => ?_) (AllReadyH.nil)
              go_simp
              refine (ipoldo_is L2 a5 _ c5 fr br arp crp (Pr) lr arm crm (Mr) HV.out _ p rfl (OwnC.cs C_5.out) (by omega) (HRM.out.below hHeld.2.out) (HE.out.below (HB10.out.trans (hHeld.2.out.mono HB10.out.size)))).mono ?_
              rintro en wz6 ⟨pv, mv, rfl, S, o, bP, o2, hS, b⟩
              replace o : OwnI wz6 wz5.heap.size pv PV := o
              replace o2 : OwnI wz6 S mv MV := o2
              obtain ⟨ayp, cyp, rfl, _, _⟩ := OwnI.tab o
              obtain ⟨aym, cym, rfl, _, _⟩ := OwnI.tab o2
              have Z6 := Lib.hid (ownw_later Z5.out b)
              have C_6 := Lib.hid (ownc_later C_5.out b)
              have P6 := Lib.hid (owni_mono o hHeld.2.out.size)
              have M6 := Lib.hid (owni_mono o2 (Nat.le_trans hHeld.2.out.size hS))
              have b6 := next hHeld.2.out b
              clear o o2 bP hS b
              go_wp2_with fail
              refine hK.out _ _ ?_ (fun hNew => ?_)
              · exact ⟨⟨⟨vcell_far (b6) (AtL.lt Ac_10.out (by show 0 < 8; omega)) Ac_10.out.z8.1.1, vcell_far (b6) (AtL.lt Ac_10.out (by show 0 < 8; omega)) Ac_10.out.z8.1.2.1, vcell_far (b6) (AtL.lt Ac_10.out (by show 0 < 8; omega)) Ac_10.out.z8.1.2.2.1, vcell_far (b6) (AtL.lt Ac_10.out (by show 0 < 8; omega)) Ac_10.out.z8.1.2.2.2.1, vcell_far (b6) (AtL.lt Ac_10.out (by show 0 < 8; omega)) Ac_10.out.z8.1.2.2.2.2.1, vcell_far (b6) (AtL.lt Ac_10.out (by show 0 < 8; omega)) Ac_10.out.z8.1.2.2.2.2.2.1, vcell_far (b6) (AtL.lt Ac_10.out (by show 0 < 8; omega)) Ac_10.out.z8.1.2.2.2.2.2.2.1, vcell_far (b6) (AtL.lt Ac_10.out (by show 0 < 8; omega)) Ac_10.out.z8.1.2.2.2.2.2.2.2⟩, ⟨vcell_far (b6) Xr_10.out.lt Xr_10.out.1.1, vcell_far (b6) Xr_10.out.lt Xr_10.out.1.2.1, vcell_far (b6) Xr_10.out.lt Xr_10.out.1.2.2.1, vcell_far (b6) Xr_10.out.lt Xr_10.out.1.2.2.2.1, vcell_far (b6) Xr_10.out.lt Xr_10.out.1.2.2.2.2⟩⟩, Lib.hid (b6)⟩
              clear hK K hHeld
              have hHeld := hNew
              clear hNew
              try simp only [Act.put, List.setIfInBounds_toArray, List.set_cons_zero, List.set_cons_succ]
              refine takeH (i := 8) (v := ?_) rfl rfl (by kernel_rfl) (by kernel_rfl) (by kernel_rfl) (fun _ _ _ h => h) (by rfl) ?_ (by assumption) ?_
              rotate_left 1
              · intro w hSw
                (try dsimp only at hSw)
                go_simp
                try with_reducible rfl
              try simp only [List.setIfInBounds_toArray, List.set_cons_zero, List.set_cons_succ]
              refine takeH (i := 9) (v := ?_) rfl rfl (by kernel_rfl) (by kernel_rfl) (by kernel_rfl) (fun _ _ _ h => h) (by rfl) ?_ (by assumption) ?_
              rotate_left 1
              · intro w hSw
                (try dsimp only at hSw)
                go_simp
                try with_reducible rfl
              try simp only [List.setIfInBounds_toArray, List.set_cons_zero, List.set_cons_succ]
              refine takeH (i := 10) (v := ?_) rfl rfl (by kernel_rfl) (by kernel_rfl) (by kernel_rfl) (fun _ _ _ h => h) (by rfl) ?_ (by assumption) ?_
              rotate_left 1
              · intro w hSw
                (try dsimp only at hSw)
                go_simp
                try with_reducible rfl
              try simp only [List.setIfInBounds_toArray, List.set_cons_zero, List.set_cons_succ]
              refine wpAnyH_ready (rs := [12]) (by kernel_rfl) (by simp) ?_
              refine AllReadyH.cons rfl (fun K hK => ?_) (AllReadyH.nil)
              refine wp_stA 36 (.tmp 12) (.tmp 86) rfl (wz0.heap.size) #[.int .i64 fV, .int .i64 bV, .slice ayp PV.length cyp, .int .i64 lV, .slice aym MV.length cym] (by simp [Act.eval]) (by simp [Act.eval]) (one5a _ _ _ _ _ _ _ _ _) infoR5 _ (OwnW.atl Z6.out) rfl ?_
              intro wz7 aa gg
              have HF : Hid (CutY w10 (wz0.heap.size) fV bV lV PV MV ayp cyp aym cym wz7) := Lib.hid (CutY.mk' hHeld.2.out Z6.out P6.out M6.out aa gg)
              clear aa gg
              try simp only [List.getElem_toArray, List.getElem_cons_succ, List.getElem_cons_zero]
              refine hK.out _ _ ?_ (fun hNew => ?_)
              · exact ⟨⟨⟨vcell_far (HF.out.bel) (AtL.lt Ac_10.out (by show 0 < 8; omega)) Ac_10.out.z8.1.1, vcell_far (HF.out.bel) (AtL.lt Ac_10.out (by show 0 < 8; omega)) Ac_10.out.z8.1.2.1, vcell_far (HF.out.bel) (AtL.lt Ac_10.out (by show 0 < 8; omega)) Ac_10.out.z8.1.2.2.1, vcell_far (HF.out.bel) (AtL.lt Ac_10.out (by show 0 < 8; omega)) Ac_10.out.z8.1.2.2.2.1, vcell_far (HF.out.bel) (AtL.lt Ac_10.out (by show 0 < 8; omega)) Ac_10.out.z8.1.2.2.2.2.1, vcell_far (HF.out.bel) (AtL.lt Ac_10.out (by show 0 < 8; omega)) Ac_10.out.z8.1.2.2.2.2.2.1, vcell_far (HF.out.bel) (AtL.lt Ac_10.out (by show 0 < 8; omega)) Ac_10.out.z8.1.2.2.2.2.2.2.1, vcell_far (HF.out.bel) (AtL.lt Ac_10.out (by show 0 < 8; omega)) Ac_10.out.z8.1.2.2.2.2.2.2.2⟩, ⟨vcell_far (HF.out.bel) Xr_10.out.lt Xr_10.out.1.1, vcell_far (HF.out.bel) Xr_10.out.lt Xr_10.out.1.2.1, vcell_far (HF.out.bel) Xr_10.out.lt Xr_10.out.1.2.2.1, vcell_far (HF.out.bel) Xr_10.out.lt Xr_10.out.1.2.2.2.1, vcell_far (HF.out.bel) Xr_10.out.lt Xr_10.out.1.2.2.2.2⟩⟩, Lib.hid (HF.out.bel)⟩
              clear hK K hHeld
              have hHeld := hNew
              clear hNew
              try simp only [Act.put, List.setIfInBounds_toArray, List.set_cons_zero, List.set_cons_succ]
              refine takeH (i := 13) (v := ?_) rfl rfl (by kernel_rfl) (by kernel_rfl) (by kernel_rfl) (fun _ _ _ h => h) (by rfl) ?_ (by assumption) ?_
              rotate_left 1
              · intro w hSw
                (try dsimp only at hSw)
                go_simp
                try with_reducible rfl
              try simp only [List.setIfInBounds_toArray, List.set_cons_zero, List.set_cons_succ]
              refine wpAnyH_done (by kernel_rfl) ?_ _
              clear hHeld
              go_wp2_with fail
              go_meet
              exact ⟨_, _, _, _, _, rfl, rfl, HF⟩
          · go_simp
            have be2 : Below wz1.heap.size wz1 (wz1.alloc (.cells #[.int .i64 5, .int .i64 (1 + (s : Int)), .int .i64 0, .int .i64 0, .bool false, .int .i64 7, .int .i64 0, .int .i64 0] 33)) := (Below.refl _ _).alloc (Nat.le_refl _) _
            have Z2 := Lib.hid (ownw_later Z1.out be2)
            have CD_2 := Lib.hid (ownc_one wz1 w10.heap.size hHeld.2.out.size ⟨5, 1 + (s : Int), 0, 0, false, 7, 0, 0⟩)
            change Hid (OwnC (wz1.alloc (.cells #[.int .i64 5, .int .i64 (1 + (s : Int)), .int .i64 0, .int .i64 0, .bool false, .int .i64 7, .int .i64 0, .int .i64 0] 33)) _ _ _) at CD_2
            generalize wz1.alloc (.cells #[.int .i64 5, .int .i64 (1 + (s : Int)), .int .i64 0, .int .i64 0, .bool false, .int .i64 7, .int .i64 0, .int .i64 0] 33) = wz2 at *
            refine hK.out _ _ ?_ (fun hNew => ?_)
            · exact ⟨⟨⟨vcell_far (next hHeld.2.out be2) (AtL.lt Ac_10.out (by show 0 < 8; omega)) Ac_10.out.z8.1.1, vcell_far (next hHeld.2.out be2) (AtL.lt Ac_10.out (by show 0 < 8; omega)) Ac_10.out.z8.1.2.1, vcell_far (next hHeld.2.out be2) (AtL.lt Ac_10.out (by show 0 < 8; omega)) Ac_10.out.z8.1.2.2.1, vcell_far (next hHeld.2.out be2) (AtL.lt Ac_10.out (by show 0 < 8; omega)) Ac_10.out.z8.1.2.2.2.1, vcell_far (next hHeld.2.out be2) (AtL.lt Ac_10.out (by show 0 < 8; omega)) Ac_10.out.z8.1.2.2.2.2.1, vcell_far (next hHeld.2.out be2) (AtL.lt Ac_10.out (by show 0 < 8; omega)) Ac_10.out.z8.1.2.2.2.2.2.1, vcell_far (next hHeld.2.out be2) (AtL.lt Ac_10.out (by show 0 < 8; omega)) Ac_10.out.z8.1.2.2.2.2.2.2.1, vcell_far (next hHeld.2.out be2) (AtL.lt Ac_10.out (by show 0 < 8; omega)) Ac_10.out.z8.1.2.2.2.2.2.2.2⟩, ⟨vcell_far (next hHeld.2.out be2) Xr_10.out.lt Xr_10.out.1.1, vcell_far (next hHeld.2.out be2) Xr_10.out.lt Xr_10.out.1.2.1, vcell_far (next hHeld.2.out be2) Xr_10.out.lt Xr_10.out.1.2.2.1, vcell_far (next hHeld.2.out be2) Xr_10.out.lt Xr_10.out.1.2.2.2.1, vcell_far (next hHeld.2.out be2) Xr_10.out.lt Xr_10.out.1.2.2.2.2⟩⟩, Lib.hid (next hHeld.2.out be2)⟩
            clear hK K hHeld
            have hHeld := hNew
            clear hNew
            try simp only [Act.put, List.setIfInBounds_toArray, List.set_cons_zero, List.set_cons_succ]
            refine wpAnyH_ready (rs := [0]) (by kernel_rfl) (by simp) ?_
            refine AllReadyH.cons rfl (fun K hK => ?_) (AllReadyH.nil)
            go_simp
            have be3 : Below wz2.heap.size wz2 (wz2.alloc (.cells #[] 33)) := (Below.refl _ _).alloc (Nat.le_refl _) _
            have Z3 := Lib.hid (ownw_later Z2.out be3)
            have CD_3 := Lib.hid (ownc_later CD_2.out be3)
            have neC : wz2.heap.size ≠ wz1.heap.size := by have h0 := (World.ownsRow.lt CD_2.out _ rfl).2; simp only [World.size_alloc] at h0; omega
            have C_3 := Lib.hid (ownc_empty wz2 w10.heap.size hHeld.2.out.size)
            generalize wz2.alloc (.cells #[] 33) = wz3 at *
            refine hK.out _ _ ?_ (fun hNew => ?_)
            · exact ⟨⟨⟨vcell_far (next hHeld.2.out be3) (AtL.lt Ac_10.out (by show 0 < 8; omega)) Ac_10.out.z8.1.1, vcell_far (next hHeld.2.out be3) (AtL.lt Ac_10.out (by show 0 < 8; omega)) Ac_10.out.z8.1.2.1, vcell_far (next hHeld.2.out be3) (AtL.lt Ac_10.out (by show 0 < 8; omega)) Ac_10.out.z8.1.2.2.1, vcell_far (next hHeld.2.out be3) (AtL.lt Ac_10.out (by show 0 < 8; omega)) Ac_10.out.z8.1.2.2.2.1, vcell_far (next hHeld.2.out be3) (AtL.lt Ac_10.out (by show 0 < 8; omega)) Ac_10.out.z8.1.2.2.2.2.1, vcell_far (next hHeld.2.out be3) (AtL.lt Ac_10.out (by show 0 < 8; omega)) Ac_10.out.z8.1.2.2.2.2.2.1, vcell_far (next hHeld.2.out be3) (AtL.lt Ac_10.out (by show 0 < 8; omega)) Ac_10.out.z8.1.2.2.2.2.2.2.1, vcell_far (next hHeld.2.out be3) (AtL.lt Ac_10.out (by show 0 < 8; omega)) Ac_10.out.z8.1.2.2.2.2.2.2.2⟩, ⟨vcell_far (next hHeld.2.out be3) Xr_10.out.lt Xr_10.out.1.1, vcell_far (next hHeld.2.out be3) Xr_10.out.lt Xr_10.out.1.2.1, vcell_far (next hHeld.2.out be3) Xr_10.out.lt Xr_10.out.1.2.2.1, vcell_far (next hHeld.2.out be3) Xr_10.out.lt Xr_10.out.1.2.2.2.1, vcell_far (next hHeld.2.out be3) Xr_10.out.lt Xr_10.out.1.2.2.2.2⟩⟩, Lib.hid (next hHeld.2.out be3)⟩
            clear hK K hHeld
            have hHeld := hNew
            clear hNew
            try simp only [Act.put, List.setIfInBounds_toArray, List.set_cons_zero, List.set_cons_succ]
            refine wpAnyH_ready (rs := [2]) (by kernel_rfl) (by simp) ?_
            refine AllReadyH.cons rfl (fun K hK => ?_) (AllReadyH.nil)
            refine wp_appC (.tmp 78) (.tmp 79) rfl w10.heap.size (.slice (some ⟨wz2.heap.size, 0, none⟩) 0 0) [] (by simp [Act.eval]) C_3.out ap Lp.length cp Lp rfl (by simp [Act.eval]) ((OwnC.cs Cp_10.out).below hHeld.2.out) (by first | omega | (simp; done) | (simp; omega)) hHeld.2.out.size ?_
            intro v4 w904 own4 grow4
            have b4 : Below w10.heap.size w10 w904 := Below.grown hHeld.2.out grow4 hHeld.2.out.size (fun k e => (World.ownsRow.lt C_3.out k e).1)
            have Z4 := Lib.hid (World.ownsRow.kept Z3.out grow4 (rows_apart Z3.out C_3.out (by decide)))
            have CD_4 := Lib.hid (World.ownsRow.kept CD_3.out grow4 (.inr (fun e => neC (by symm; simpa [Value.ownBlock] using e))))
            replace own4 : OwnC w904 w10.heap.size v4 Lp := own4
            obtain ⟨a4, c4, rfl, _, _⟩ := OwnC.tab own4
            have C_4 := Lib.hid own4
            clear own4 grow4
            generalize w904 = wz4 at *
            try simp only [List.getElem_toArray, List.getElem_cons_succ, List.getElem_cons_zero]
            refine hK.out _ _ ?_ (fun hNew => ?_)
            · exact ⟨⟨⟨vcell_far (b4) (AtL.lt Ac_10.out (by show 0 < 8; omega)) Ac_10.out.z8.1.1, vcell_far (b4) (AtL.lt Ac_10.out (by show 0 < 8; omega)) Ac_10.out.z8.1.2.1, vcell_far (b4) (AtL.lt Ac_10.out (by show 0 < 8; omega)) Ac_10.out.z8.1.2.2.1, vcell_far (b4) (AtL.lt Ac_10.out (by show 0 < 8; omega)) Ac_10.out.z8.1.2.2.2.1, vcell_far (b4) (AtL.lt Ac_10.out (by show 0 < 8; omega)) Ac_10.out.z8.1.2.2.2.2.1, vcell_far (b4) (AtL.lt Ac_10.out (by show 0 < 8; omega)) Ac_10.out.z8.1.2.2.2.2.2.1, vcell_far (b4) (AtL.lt Ac_10.out (by show 0 < 8; omega)) Ac_10.out.z8.1.2.2.2.2.2.2.1, vcell_far (b4) (AtL.lt Ac_10.out (by show 0 < 8; omega)) Ac_10.out.z8.1.2.2.2.2.2.2.2⟩, ⟨vcell_far (b4) Xr_10.out.lt Xr_10.out.1.1, vcell_far (b4) Xr_10.out.lt Xr_10.out.1.2.1, vcell_far (b4) Xr_10.out.lt Xr_10.out.1.2.2.1, vcell_far (b4) Xr_10.out.lt Xr_10.out.1.2.2.2.1, vcell_far (b4) Xr_10.out.lt Xr_10.out.1.2.2.2.2⟩⟩, Lib.hid (b4)⟩
            clear hK K hHeld
            have hHeld := hNew
            clear hNew
            try simp only [Act.put, List.setIfInBounds_toArray, List.set_cons_zero, List.set_cons_succ]
            refine wpAnyH_ready (rs := [5]) (by kernel_rfl) (by simp) ?_
            refine AllReadyH.cons rfl (fun K hK => ?_) (AllReadyH.nil)
            refine wp_appC (.tmp 80) (.tmp 82) rfl w10.heap.size (.slice a4 Lp.length c4) Lp (by simp [Act.eval]) C_4.out (some ⟨wz1.heap.size, 0, none⟩) 1 1 [⟨5, 1 + (s : Int), 0, 0, false, 7, 0, 0⟩] rfl (by simp [Act.eval]) (OwnC.cs CD_4.out) (by first | omega | (simp; done) | (simp; omega)) hHeld.2.out.size ?_
            intro v5 w905 own5 grow5
            have b5 : Below w10.heap.size w10 w905 := Below.grown hHeld.2.out grow5 hHeld.2.out.size (fun k e => (World.ownsRow.lt C_4.out k e).1)
            have Z5 := Lib.hid (World.ownsRow.kept Z4.out grow5 (rows_apart Z4.out C_4.out (by decide)))
            rw [← HL.out] at own5
            replace own5 : OwnC w905 w10.heap.size v5 L2 := own5
            obtain ⟨a5, c5, rfl, _, _⟩ := OwnC.tab own5
            have C_5 := Lib.hid own5
            clear own5 grow5
            generalize w905 = wz5 at *
            try simp only [List.getElem_toArray, List.getElem_cons_succ, List.getElem_cons_zero]
            refine hK.out _ _ ?_ (fun hNew => ?_)
            · exact ⟨⟨⟨vcell_far (b5) (AtL.lt Ac_10.out (by show 0 < 8; omega)) Ac_10.out.z8.1.1, vcell_far (b5) (AtL.lt Ac_10.out (by show 0 < 8; omega)) Ac_10.out.z8.1.2.1, vcell_far (b5) (AtL.lt Ac_10.out (by show 0 < 8; omega)) Ac_10.out.z8.1.2.2.1, vcell_far (b5) (AtL.lt Ac_10.out (by show 0 < 8; omega)) Ac_10.out.z8.1.2.2.2.1, vcell_far (b5) (AtL.lt Ac_10.out (by show 0 < 8; omega)) Ac_10.out.z8.1.2.2.2.2.1, vcell_far (b5) (AtL.lt Ac_10.out (by show 0 < 8; omega)) Ac_10.out.z8.1.2.2.2.2.2.1, vcell_far (b5) (AtL.lt Ac_10.out (by show 0 < 8; omega)) Ac_10.out.z8.1.2.2.2.2.2.2.1, vcell_far (b5) (AtL.lt Ac_10.out (by show 0 < 8; omega)) Ac_10.out.z8.1.2.2.2.2.2.2.2⟩, ⟨vcell_far (b5) Xr_10.out.lt Xr_10.out.1.1, vcell_far (b5) Xr_10.out.lt Xr_10.out.1.2.1, vcell_far (b5) Xr_10.out.lt Xr_10.out.1.2.2.1, vcell_far (b5) Xr_10.out.lt Xr_10.out.1.2.2.2.1, vcell_far (b5) Xr_10.out.lt Xr_10.out.1.2.2.2.2⟩⟩, Lib.hid (b5)⟩
            clear hK K hHeld
            have hHeld := hNew
            clear hNew
            try simp only [Act.put, List.setIfInBounds_toArray, List.set_cons_zero, List.set_cons_succ]
            refine wpAnyH_ready (rs := [7]) (by kernel_rfl) (by simp) ?_
            refine AllReadyH.cons rfl (fun K hK => ?_) (AllReadyH.nil)
            go_simp
            refine (ipoldo_is L2 a5 _ c5 fr br arp crp (Pr) lr arm crm (Mr) HV.out _ p rfl (OwnC.cs C_5.out) (by omega) (HRM.out.below hHeld.2.out) (HE.out.below (HB10.out.trans (hHeld.2.out.mono HB10.out.size)))).mono ?_
            rintro en wz6 ⟨pv, mv, rfl, S, o, bP, o2, hS, b⟩
            replace o : OwnI wz6 wz5.heap.size pv PV := o
            replace o2 : OwnI wz6 S mv MV := o2
            obtain ⟨ayp, cyp, rfl, _, _⟩ := OwnI.tab o
            obtain ⟨aym, cym, rfl, _, _⟩ := OwnI.tab o2
            have Z6 := Lib.hid (ownw_later Z5.out b)
            have C_6 := Lib.hid (ownc_later C_5.out b)
            have P6 := Lib.hid (owni_mono o hHeld.2.out.size)
            have M6 := Lib.hid (owni_mono o2 (Nat.le_trans hHeld.2.out.size hS))
            have b6 := next hHeld.2.out b
            clear o o2 bP hS b
            go_wp2_with fail
            refine hK.out _ _ ?_ (fun hNew => ?_)
            · exact ⟨⟨⟨vcell_far (b6) (AtL.lt Ac_10.out (by show 0 < 8; omega)) Ac_10.out.z8.1.1, vcell_far (b6) (AtL.lt Ac_10.out (by show 0 < 8; omega)) Ac_10.out.z8.1.2.1, vcell_far (b6) (AtL.lt Ac_10.out (by show 0 < 8; omega)) Ac_10.out.z8.1.2.2.1, vcell_far (b6) (AtL.lt Ac_10.out (by show 0 < 8; omega)) Ac_10.out.z8.1.2.2.2.1, vcell_far (b6) (AtL.lt Ac_10.out (by show 0 < 8; omega)) Ac_10.out.z8.1.2.2.2.2.1, vcell_far (b6) (AtL.lt Ac_10.out (by show 0 < 8; omega)) Ac_10.out.z8.1.2.2.2.2.2.1, vcell_far (b6) (AtL.lt Ac_10.out (by show 0 < 8; omega)) Ac_10.out.z8.1.2.2.2.2.2.2.1, vcell_far (b6) (AtL.lt Ac_10.out (by show 0 < 8; omega)) Ac_10.out.z8.1.2.2.2.2.2.2.2⟩, ⟨vcell_far (b6) Xr_10.out.lt Xr_10.out.1.1, vcell_far (b6) Xr_10.out.lt Xr_10.out.1.2.1, vcell_far (b6) Xr_10.out.lt Xr_10.out.1.2.2.1, vcell_far (b6) Xr_10.out.lt Xr_10.out.1.2.2.2.1, vcell_far (b6) Xr_10.out.lt Xr_10.out.1.2.2.2.2⟩⟩, Lib.hid (b6)⟩
            clear hK K hHeld
            have hHeld := hNew
            clear hNew
            try simp only [Act.put, List.setIfInBounds_toArray, List.set_cons_zero, List.set_cons_succ]
            refine takeH (i := 8) (v := ?_) rfl rfl (by kernel_rfl) (by kernel_rfl) (by kernel_rfl) (fun _ _ _ h => h) (by rfl) ?_ (by assumption) ?_
            rotate_left 1
            · intro w hSw
              (try dsimp only at hSw)
              go_simp
              try with_reducible rfl
            try simp only [List.setIfInBounds_toArray, List.set_cons_zero, List.set_cons_succ]
            refine takeH (i := 9) (v := ?_) rfl rfl (by kernel_rfl) (by kernel_rfl) (by kernel_rfl) (fun _ _ _ h => h) (by rfl) ?_ (by assumption) ?_
            rotate_left 1
            · intro w hSw
              (try dsimp only at hSw)
              go_simp
              try with_reducible rfl
            try simp only [List.setIfInBounds_toArray, List.set_cons_zero, List.set_cons_succ]
            refine takeH (i := 10) (v := ?_) rfl rfl (by kernel_rfl) (by kernel_rfl) (by kernel_rfl) (fun _ _ _ h => h) (by rfl) ?_ (by assumption) ?_
            rotate_left 1
            · intro w hSw
              (try dsimp only at hSw)
              go_simp
              try with_reducible rfl
            try simp only [List.setIfInBounds_toArray, List.set_cons_zero, List.set_cons_succ]
            refine wpAnyH_ready (rs := [12]) (by kernel_rfl) (by simp) ?_
            refine AllReadyH.cons rfl (fun K hK => ?_) (AllReadyH.nil)
            refine wp_stA 36 (.tmp 12) (.tmp 86) rfl (wz0.heap.size) #[.int .i64 fV, .int .i64 bV, .slice ayp PV.length cyp, .int .i64 lV, .slice aym MV.length cym] (by simp [Act.eval]) (by simp [Act.eval]) (one5a _ _ _ _ _ _ _ _ _) infoR5 _ (OwnW.atl Z6.out) rfl ?_
            intro wz7 aa gg
            have HF : Hid (CutY w10 (wz0.heap.size) fV bV lV PV MV ayp cyp aym cym wz7) := Lib.hid (CutY.mk' hHeld.2.out Z6.out P6.out M6.out aa gg)
            clear aa gg
            try simp only [List.getElem_toArray, List.getElem_cons_succ, List.getElem_cons_zero]
            refine hK.out _ _ ?_ (fun hNew => ?_)
            · exact ⟨⟨⟨vcell_far (HF.out.bel) (AtL.lt Ac_10.out (by show 0 < 8; omega)) Ac_10.out.z8.1.1, vcell_far (HF.out.bel) (AtL.lt Ac_10.out (by show 0 < 8; omega)) Ac_10.out.z8.1.2.1, vcell_far (HF.out.bel) (AtL.lt Ac_10.out (by show 0 < 8; omega)) Ac_10.out.z8.1.2.2.1, vcell_far (HF.out.bel) (AtL.lt Ac_10.out (by show 0 < 8; omega)) Ac_10.out.z8.1.2.2.2.1, vcell_far (HF.out.bel) (AtL.lt Ac_10.out (by show 0 < 8; omega)) Ac_10.out.z8.1.2.2.2.2.1, vcell_far (HF.out.bel) (AtL.lt Ac_10.out (by show 0 < 8; omega)) Ac_10.out.z8.1.2.2.2.2.2.1, vcell_far (HF.out.bel) (AtL.lt Ac_10.out (by show 0 < 8; omega)) Ac_10.out.z8.1.2.2.2.2.2.2.1, vcell_far (HF.out.bel) (AtL.lt Ac_10.out (by show 0 < 8; omega)) Ac_10.out.z8.1.2.2.2.2.2.2.2⟩, ⟨vcell_far (HF.out.bel) Xr_10.out.lt Xr_10.out.1.1, vcell_far (HF.out.bel) Xr_10.out.lt Xr_10.out.1.2.1, vcell_far (HF.out.bel) Xr_10.out.lt Xr_10.out.1.2.2.1, vcell_far (HF.out.bel) Xr_10.out.lt Xr_10.out.1.2.2.2.1, vcell_far (HF.out.bel) Xr_10.out.lt Xr_10.out.1.2.2.2.2⟩⟩, Lib.hid (HF.out.bel)⟩
            clear hK K hHeld
            have hHeld := hNew
            clear hNew
            try simp only [Act.put, List.setIfInBounds_toArray, List.set_cons_zero, List.set_cons_succ]
            refine takeH (i := 13) (v := ?_) rfl rfl (by kernel_rfl) (by kernel_rfl) (by kernel_rfl) (fun _ _ _ h => h) (by rfl) ?_ (by assumption) ?_
            rotate_left 1
            · intro w hSw
              (try dsimp only at hSw)
              go_simp
              try with_reducible rfl
            try simp only [List.setIfInBounds_toArray, List.set_cons_zero, List.set_cons_succ]
            refine wpAnyH_done (by kernel_rfl) ?_ _
            clear hHeld
            go_wp2_with fail
            go_meet
            exact ⟨_, _, _, _, _, rfl, rfl, HF⟩
      case rest =>
        obtain ⟨Ry, ayp, cyp, aym, cym, rfl, rfl, HF⟩ := hcut
        have hRy := HF.out.low
        have HB11 := Lib.hid (HB10.out.trans (HF.out.bel.mono HB10.out.size))
        have hs11 := Lib.hid HF.out.bel.size
        have Orp_11 := Lib.hid (owni_later Orp_10.out HF.out.bel)
        have Orm_11 := Lib.hid (owni_later Orm_10.out HF.out.bel)
        have Oxp_11 := Lib.hid (owni_later Oxp_10.out HF.out.bel)
        have Oxm_11 := Lib.hid (owni_later Oxm_10.out HF.out.bel)
        have Xr_11 := Lib.hid (At5.below Xr_10.out HF.out.bel)
        have Xx_11 := Lib.hid (At5.below Xx_10.out HF.out.bel)
        have Ac_11 := Lib.hid (AtL.below Ac_10.out HF.out.bel)
        have Cp_11 := Lib.hid (ownc_later Cp_10.out HF.out.bel)
        have Oyp_11 := Lib.hid (owni_mono HF.out.p HB10.out.size)
        have Oym_11 := Lib.hid (owni_mono HF.out.m HB10.out.size)
        have Xy_11 := Lib.hid HF.out.box
        have Byp := Lib.hid (OwnI.btw HF.out.p)
        have Bym := Lib.hid (OwnI.btw HF.out.m)
        clear HF HRM
        generalize wc = w11 at *
        go_wp2_with fail
        go_loopw [14] (fun i wr => ∃ k : Nat, k ≤ Lp.length ∧ i = .int .i64 k ∧ Hid (∀ (j : Nat) d, j < k → Lp[j]? = some d → fitsC d (fr, br, Pr, lr, Mr) = false) ∧ Hid (Below w11.heap.size w11 wr)) (fun i _ => Lp.length - (intOf i).toNat)
        case atStart => exact ⟨0, Nat.zero_le _, rfl, Lib.hid (fun j d hj => by omega), Lib.hid (Below.refl _ _)⟩
        case round =>
          obtain ⟨k, hk, rfl, HN, HLo⟩ := hrel
          have HB12 := Lib.hid (HB11.out.trans (HLo.out.mono HB11.out.size))
          have hs12 := Lib.hid HLo.out.size
          have Orp_12 := Lib.hid (owni_later Orp_11.out HLo.out)
          have Orm_12 := Lib.hid (owni_later Orm_11.out HLo.out)
          have Oxp_12 := Lib.hid (owni_later Oxp_11.out HLo.out)
          have Oxm_12 := Lib.hid (owni_later Oxm_11.out HLo.out)
          have Oyp_12 := Lib.hid (owni_later Oyp_11.out HLo.out)
          have Oym_12 := Lib.hid (owni_later Oym_11.out HLo.out)
          have Xr_12 := Lib.hid (At5.below Xr_11.out HLo.out)
          have Xx_12 := Lib.hid (At5.below Xx_11.out HLo.out)
          have Xy_12 := Lib.hid (At5.below Xy_11.out HLo.out)
          have Ac_12 := Lib.hid (AtL.below Ac_11.out HLo.out)
          have Cp_12 := Lib.hid (ownc_later Cp_11.out HLo.out)
          by_cases hlt : k < Lp.length
          · obtain ⟨d, hd⟩ : ∃ d, Lp[k]? = some d := ⟨_, List.getElem?_eq_getElem hlt⟩
            have HD := Lib.hid hd
            have hok : clOk d = true := ((polOk_iff Lp).1 hp).2 d (List.mem_of_getElem? hd)
            obtain ⟨b3, off3, rfl, n0, n1, n2, n3, n4, n5, n6, n7⟩ := CsA.at (OwnC.cs Cp_12.out) hd
            have i0 : (0 : Int) ≤ (k : Int) := by omega
            have i1 : (k : Int) < (Lp.length : Int) := by omega
            have hb3 := World.block_lt_of_cell? wr _ n0
            have HNc := Lib.hid (And.intro n0 (And.intro n1 (And.intro n2 (And.intro n3 (And.intro n4 (And.intro n5 (And.intro n6 n7)))))))
            clear hd n0 n1 n2 n3 n4 n5 n6 n7
            have HRM : Hid (RtM wr arp crp Pr arm crm Mr) := Lib.hid ⟨⟨(OwnI.intA Orp_12.out).2.2, (OwnI.intA Orm_12.out).2.2⟩, (OwnI.intA Orp_12.out).2.1, (OwnI.intA Orm_12.out).2.1, by omega, by omega⟩
            obtain ⟨y, hy⟩ : ∃ y, fitsC d (fr, br, Pr, lr, Mr) = y := ⟨_, rfl⟩
            have HX := Lib.hid (show clFits d (fr, br, Pr, lr, Mr) = y by rw [clFits_yes hok hr, hy])
            have HY := Lib.hid hy
            clear hy
            go_wp2_with fail
            refine wp_region_held_drew (S := fun W => ((W.cell? ⟨b3, off3 + k * 8, none⟩ = some (.int .i64 d.i) ∧ W.cell? ⟨b3, off3 + k * 8 + 1, none⟩ = some (.int .i64 d.n) ∧ W.cell? ⟨b3, off3 + k * 8 + 2, none⟩ = some (.int .i64 d.f) ∧ W.cell? ⟨b3, off3 + k * 8 + 3, none⟩ = some (.int .i64 d.b) ∧ W.cell? ⟨b3, off3 + k * 8 + 4, none⟩ = some (.bool d.x) ∧ W.cell? ⟨b3, off3 + k * 8 + 5, none⟩ = some (.int .i64 d.l) ∧ W.cell? ⟨b3, off3 + k * 8 + 6, none⟩ = some (.int .i64 d.m) ∧ W.cell? ⟨b3, off3 + k * 8 + 7, none⟩ = some (.int .i64 d.k)) ∧ (W.cell? ⟨w1.heap.size, 0, none⟩ = some (.int .i64 fr) ∧ W.cell? ⟨w1.heap.size, 1, none⟩ = some (.int .i64 br) ∧ W.cell? ⟨w1.heap.size, 2, none⟩ = some (.slice arp (Pr).length crp) ∧ W.cell? ⟨w1.heap.size, 3, none⟩ = some (.int .i64 lr) ∧ W.cell? ⟨w1.heap.size, 4, none⟩ = some (.slice arm (Mr).length crm))) ∧ Hid (Below wr.heap.size wr W)) (by kernel_rfl) ?_ (fun hHeld => ?_)
            · exact ⟨⟨HNc.out, Xr_12.out.1⟩, Lib.hid (Below.refl _ wr).drew⟩
            refine takeH (i := 0) (v := ?_) rfl rfl (by kernel_rfl) (by kernel_rfl) (by kernel_rfl) (fun _ _ _ h => h) (by rfl) ?_ (by assumption) ?_
            rotate_left 1
            · intro w hSw
              (try dsimp only at hSw)
              go_simp
              try with_reducible rfl
            try simp only [List.setIfInBounds_toArray, List.set_cons_zero, List.set_cons_succ]
            refine takeH (i := 1) (v := ?_) rfl rfl (by kernel_rfl) (by kernel_rfl) (by kernel_rfl) (fun _ _ _ h => h) (by rfl) ?_ (by assumption) ?_
            rotate_left 1
            · intro w hSw
              (try dsimp only at hSw)
              go_simp
              try with_reducible rfl
            try simp only [List.setIfInBounds_toArray, List.set_cons_zero, List.set_cons_succ]
            refine takeH (i := 2) (v := ?_) rfl rfl (by kernel_rfl) (by kernel_rfl) (by kernel_rfl) (fun _ _ _ h => h) (by rfl) ?_ (by assumption) ?_
            rotate_left 1
            · intro w hSw
              (try dsimp only at hSw)
              go_simp
              try with_reducible rfl
            try simp only [List.setIfInBounds_toArray, List.set_cons_zero, List.set_cons_succ]
            refine takeH (i := 3) (v := ?_) rfl rfl (by kernel_rfl) (by kernel_rfl) (by kernel_rfl) (fun _ _ _ h => h) (by rfl) ?_ (by assumption) ?_
            rotate_left 1
            · intro w hSw
              (try dsimp only at hSw)
              go_simp
              try with_reducible rfl
            try simp only [List.setIfInBounds_toArray, List.set_cons_zero, List.set_cons_succ]
            refine takeH (i := 4) (v := ?_) rfl rfl (by kernel_rfl) (by kernel_rfl) (by kernel_rfl) (fun _ _ _ h => h) (by rfl) ?_ (by assumption) ?_
            rotate_left 1
            · intro w hSw
              (try dsimp only at hSw)
              go_simp
              try with_reducible rfl
            try simp only [List.setIfInBounds_toArray, List.set_cons_zero, List.set_cons_succ]
            refine wpAnyH_ready (rs := [5]) (by kernel_rfl) (by simp) ?_
            refine AllReadyH.cons rfl (fun K hK => ?_) (AllReadyH.nil)
            go_simp
            refine (iclfits_is d fr br arp crp (Pr) lr arm crm (Mr) HX.out _ p (HRM.out.below hHeld.2.out) (HE.out.below (HB12.out.trans (hHeld.2.out.mono HB12.out.size)))).mono ?_
            rintro en wt ⟨rfl, bt⟩
            go_wp2_with fail
            refine hK.out _ _ ?_ (fun hNew => ?_)
            · exact ⟨⟨⟨vcell_far (next hHeld.2.out bt) hb3 HNc.out.1, vcell_far (next hHeld.2.out bt) hb3 HNc.out.2.1, vcell_far (next hHeld.2.out bt) hb3 HNc.out.2.2.1, vcell_far (next hHeld.2.out bt) hb3 HNc.out.2.2.2.1, vcell_far (next hHeld.2.out bt) hb3 HNc.out.2.2.2.2.1, vcell_far (next hHeld.2.out bt) hb3 HNc.out.2.2.2.2.2.1, vcell_far (next hHeld.2.out bt) hb3 HNc.out.2.2.2.2.2.2.1, vcell_far (next hHeld.2.out bt) hb3 HNc.out.2.2.2.2.2.2.2⟩, ⟨vcell_far (next hHeld.2.out bt) Xr_12.out.lt Xr_12.out.1.1, vcell_far (next hHeld.2.out bt) Xr_12.out.lt Xr_12.out.1.2.1, vcell_far (next hHeld.2.out bt) Xr_12.out.lt Xr_12.out.1.2.2.1, vcell_far (next hHeld.2.out bt) Xr_12.out.lt Xr_12.out.1.2.2.2.1, vcell_far (next hHeld.2.out bt) Xr_12.out.lt Xr_12.out.1.2.2.2.2⟩⟩, Lib.hid (next hHeld.2.out bt)⟩
            clear hK K hHeld
            have hHeld := hNew
            clear hNew
            try simp only [Act.put, List.setIfInBounds_toArray, List.set_cons_zero, List.set_cons_succ]
            refine wpAnyH_done (by kernel_rfl) ?_ _
            have Hbt := Lib.hid hHeld.2.out
            clear hHeld bt HNc HRM
            have HLx := Lib.hid (HLo.out.trans (Hbt.out.mono HLo.out.size))
            have HB13 := Lib.hid (HB12.out.trans (Hbt.out.mono HB12.out.size))
            have hs13 := Lib.hid Hbt.out.size
            have Orp_13 := Lib.hid (owni_later Orp_12.out Hbt.out)
            have Orm_13 := Lib.hid (owni_later Orm_12.out Hbt.out)
            have Oxp_13 := Lib.hid (owni_later Oxp_12.out Hbt.out)
            have Oxm_13 := Lib.hid (owni_later Oxm_12.out Hbt.out)
            have Oyp_13 := Lib.hid (owni_later Oyp_12.out Hbt.out)
            have Oym_13 := Lib.hid (owni_later Oym_12.out Hbt.out)
            have Xr_13 := Lib.hid (At5.below Xr_12.out Hbt.out)
            have Xx_13 := Lib.hid (At5.below Xx_12.out Hbt.out)
            have Xy_13 := Lib.hid (At5.below Xy_12.out Hbt.out)
            have Ac_13 := Lib.hid (AtL.below Ac_12.out Hbt.out)
            have Cp_13 := Lib.hid (ownc_later Cp_12.out Hbt.out)
            clear Hbt
            cases y with
            | false =>
              have HN2 : Hid (∀ (j : Nat) x, j < k + 1 → Lp[j]? = some x → fitsC x (fr, br, Pr, lr, Mr) = false) := Lib.hid (fun j x hj hxx => by
                by_cases e : j = k
                · subst e; rw [HD.out] at hxx; cases hxx; exact HY.out
                · exact HN.out j x (by omega) hxx)
              go_wp2_with fail
              go_roundw
              case rel => exact ⟨k + 1, by omega, by go_num, HN2, HLx⟩
              case measure => simp [intOf]; omega
            | true =>
              have hc := HH.out k d HD.out HY.out HN.out
              simp only [Prod.mk.injEq] at hc
              obtain ⟨⟨rfl, rfl, rfl, rfl, rfl⟩, rfl⟩ := hc
              have hue2 : (uV == uV) = true := by simp
              obtain ⟨⟨qr0, qr1, qr2, qr3, qr4⟩, _⟩ := Xr_13.out
              obtain ⟨⟨qx0, qx1, qx2, qx3, qx4⟩, _⟩ := Xx_13.out
              obtain ⟨⟨qy0, qy1, qy2, qy3, qy4⟩, _⟩ := Xy_13.out
              go_wp2_with fail
              clear qr0 qr1 qr2 qr3 qr4
              clear qx0 qx1 qx2 qx3 qx4
              clear qy0 qy1 qy2 qy3 qy4
              refine (lyrt_is fV bV ayp cyp (PV) lV aym cym (MV) fV bV axp cxp (PV) lV axm cxm (MV) (show decide (((fV, bV, PV, lV, MV) : Rt) = (fV, bV, PV, lV, MV)) = true from decide_eq_true rfl) _ ⟨⟨(OwnI.intA Oyp_13.out).2.2, (OwnI.intA Oym_13.out).2.2⟩, (OwnI.intA Oyp_13.out).2.1, (OwnI.intA Oym_13.out).2.1, by omega, by omega⟩ ⟨⟨(OwnI.intA Oxp_13.out).2.2, (OwnI.intA Oxm_13.out).2.2⟩, (OwnI.intA Oxp_13.out).2.1, (OwnI.intA Oxm_13.out).2.1, by omega, by omega⟩).mono ?_
              rintro en w14 ⟨rfl, b⟩
              have HB14 := Lib.hid (HB13.out.trans (b.mono HB13.out.size))
              have hs14 := Lib.hid b.size
              have Orp_14 := Lib.hid (owni_later Orp_13.out b)
              have Orm_14 := Lib.hid (owni_later Orm_13.out b)
              have Oxp_14 := Lib.hid (owni_later Oxp_13.out b)
              have Oxm_14 := Lib.hid (owni_later Oxm_13.out b)
              have Oyp_14 := Lib.hid (owni_later Oyp_13.out b)
              have Oym_14 := Lib.hid (owni_later Oym_13.out b)
              have Xr_14 := Lib.hid (At5.below Xr_13.out b)
              have Xx_14 := Lib.hid (At5.below Xx_13.out b)
              have Xy_14 := Lib.hid (At5.below Xy_13.out b)
              have Cp_14 := Lib.hid (ownc_later Cp_13.out b)
              clear b
              obtain ⟨⟨qr0, qr1, qr2, qr3, qr4⟩, _⟩ := Xr_14.out
              obtain ⟨⟨qx0, qx1, qx2, qx3, qx4⟩, _⟩ := Xx_14.out
              obtain ⟨⟨qy0, qy1, qy2, qy3, qy4⟩, _⟩ := Xy_14.out
              go_wp2_with fail
              clear qr0 qr1 qr2 qr3 qr4
              clear qx0 qx1 qx2 qx3 qx4
              clear qy0 qy1 qy2 qy3 qy4
              go_ret
              exact ⟨rfl, HB14.out⟩
          · obtain rfl : k = Lp.length := by omega
            have HV2 := Lib.hid (HN0.out (fun j d hd => HN.out j d (List.getElem?_eq_some_iff.1 hd).1 hd))
            have hue2 : (uV == uV) = true := by simp
            have HB13 := Lib.hid (HB12.out.alloc HB12.out.size (.cells #[.int .i64 5, .int .i64 (1 + (s : Int)), .int .i64 0, .int .i64 0, .bool false, .int .i64 7, .int .i64 0, .int .i64 0] 33))
            have hs13 := Lib.hid (show wr.heap.size + 1 = (wr.alloc (.cells #[.int .i64 5, .int .i64 (1 + (s : Int)), .int .i64 0, .int .i64 0, .bool false, .int .i64 7, .int .i64 0, .int .i64 0] 33)).heap.size by simp)
            have Orp_13 := Lib.hid (World.ownsRow.alloc Orp_12.out (.cells #[.int .i64 5, .int .i64 (1 + (s : Int)), .int .i64 0, .int .i64 0, .bool false, .int .i64 7, .int .i64 0, .int .i64 0] 33))
            have Orm_13 := Lib.hid (World.ownsRow.alloc Orm_12.out (.cells #[.int .i64 5, .int .i64 (1 + (s : Int)), .int .i64 0, .int .i64 0, .bool false, .int .i64 7, .int .i64 0, .int .i64 0] 33))
            have Oyp_13 := Lib.hid (World.ownsRow.alloc Oyp_12.out (.cells #[.int .i64 5, .int .i64 (1 + (s : Int)), .int .i64 0, .int .i64 0, .bool false, .int .i64 7, .int .i64 0, .int .i64 0] 33))
            have Oym_13 := Lib.hid (World.ownsRow.alloc Oym_12.out (.cells #[.int .i64 5, .int .i64 (1 + (s : Int)), .int .i64 0, .int .i64 0, .bool false, .int .i64 7, .int .i64 0, .int .i64 0] 33))
            have Xr_13 := Lib.hid (At5.alloc Xr_12.out (.cells #[.int .i64 5, .int .i64 (1 + (s : Int)), .int .i64 0, .int .i64 0, .bool false, .int .i64 7, .int .i64 0, .int .i64 0] 33))
            have Xy_13 := Lib.hid (At5.alloc Xy_12.out (.cells #[.int .i64 5, .int .i64 (1 + (s : Int)), .int .i64 0, .int .i64 0, .bool false, .int .i64 7, .int .i64 0, .int .i64 0] 33))
            have Ac_13 := Lib.hid (AtL.alloc Ac_12.out (.cells #[.int .i64 5, .int .i64 (1 + (s : Int)), .int .i64 0, .int .i64 0, .bool false, .int .i64 7, .int .i64 0, .int .i64 0] 33))
            have Cp_13 := Lib.hid (World.ownsRow.alloc Cp_12.out (.cells #[.int .i64 5, .int .i64 (1 + (s : Int)), .int .i64 0, .int .i64 0, .bool false, .int .i64 7, .int .i64 0, .int .i64 0] 33))
            have Ce_13 : Hid (OwnC (wr.alloc (.cells #[.int .i64 5, .int .i64 (1 + (s : Int)), .int .i64 0, .int .i64 0, .bool false, .int .i64 7, .int .i64 0, .int .i64 0] 33)) w.heap.size (.slice (some ⟨wr.heap.size, 0, none⟩) 1 1) [⟨5, 1 + (s : Int), 0, 0, false, 7, 0, 0⟩]) := Lib.hid (ownc_one wr w.heap.size HB12.out.size ⟨5, 1 + (s : Int), 0, 0, false, 7, 0, 0⟩)
            obtain ⟨⟨qc0, qc1, qc2, qc3, qc4, qc5, qc6, qc7⟩, _⟩ := Ac_12.out.z8
            obtain ⟨⟨qr0, qr1, qr2, qr3, qr4⟩, _⟩ := Xr_13.out
            go_wp2_with fail
            clear qc0 qc1 qc2 qc3 qc4 qc5 qc6 qc7 qr0 qr1 qr2 qr3 qr4
            generalize wr.alloc (.cells #[.int .i64 5, .int .i64 (1 + (s : Int)), .int .i64 0, .int .i64 0, .bool false, .int .i64 7, .int .i64 0, .int .i64 0] 33) = w13 at *
            refine (ipoldo_is [⟨5, 1 + (s : Int), 0, 0, false, 7, 0, 0⟩] (some ⟨wr.heap.size, 0, none⟩) 1 1 fr br arp crp (Pr) lr arm crm (Mr) HV2.out _ p rfl (OwnC.cs Ce_13.out) (by simp) ⟨⟨(OwnI.intA Orp_13.out).2.2, (OwnI.intA Orm_13.out).2.2⟩, (OwnI.intA Orp_13.out).2.1, (OwnI.intA Orm_13.out).2.1, by omega, by omega⟩ (HE.out.below HB13.out)).mono ?_
            rintro en w14 ⟨pv, mv, rfl, S, o, bP, o2, hS, b⟩
            have HB14 := Lib.hid (HB13.out.trans (b.mono HB13.out.size))
            have hs14 := Lib.hid b.size
            have Orp_14 := Lib.hid (owni_later Orp_13.out b)
            have Orm_14 := Lib.hid (owni_later Orm_13.out b)
            have Oyp_14 := Lib.hid (owni_later Oyp_13.out b)
            have Oym_14 := Lib.hid (owni_later Oym_13.out b)
            have Xr_14 := Lib.hid (At5.below Xr_13.out b)
            have Xy_14 := Lib.hid (At5.below Xy_13.out b)
            replace o : OwnI w14 w13.heap.size pv PV := o
            replace o2 : OwnI w14 S mv MV := o2
            obtain ⟨azp, czp, rfl, _, _⟩ := OwnI.tab o
            obtain ⟨azm, czm, rfl, _, _⟩ := OwnI.tab o2
            have Az := Lib.hid (apart2 bP o2)
            have Bzp := Lib.hid (OwnI.btw o)
            have Bzm := Lib.hid ((OwnI.btw o2).mono hS (Nat.le_refl _))
            have Ozp_14 := Lib.hid (owni_mono o HB13.out.size)
            have Ozm_14 := Lib.hid (owni_mono o2 (Nat.le_trans HB13.out.size hS))
            clear o o2 bP hS b
            have HB15 := Lib.hid (HB14.out.alloc HB14.out.size (.cells #[.int .i64 fV, .int .i64 bV, .slice azp (PV).length czp, .int .i64 lV, .slice azm (MV).length czm] 36))
            have hs15 := Lib.hid (show w14.heap.size + 1 = (w14.alloc (.cells #[.int .i64 fV, .int .i64 bV, .slice azp (PV).length czp, .int .i64 lV, .slice azm (MV).length czm] 36)).heap.size by simp)
            have Orp_15 := Lib.hid (World.ownsRow.alloc Orp_14.out (.cells #[.int .i64 fV, .int .i64 bV, .slice azp (PV).length czp, .int .i64 lV, .slice azm (MV).length czm] 36))
            have Orm_15 := Lib.hid (World.ownsRow.alloc Orm_14.out (.cells #[.int .i64 fV, .int .i64 bV, .slice azp (PV).length czp, .int .i64 lV, .slice azm (MV).length czm] 36))
            have Oyp_15 := Lib.hid (World.ownsRow.alloc Oyp_14.out (.cells #[.int .i64 fV, .int .i64 bV, .slice azp (PV).length czp, .int .i64 lV, .slice azm (MV).length czm] 36))
            have Oym_15 := Lib.hid (World.ownsRow.alloc Oym_14.out (.cells #[.int .i64 fV, .int .i64 bV, .slice azp (PV).length czp, .int .i64 lV, .slice azm (MV).length czm] 36))
            have Ozp_15 := Lib.hid (World.ownsRow.alloc Ozp_14.out (.cells #[.int .i64 fV, .int .i64 bV, .slice azp (PV).length czp, .int .i64 lV, .slice azm (MV).length czm] 36))
            have Ozm_15 := Lib.hid (World.ownsRow.alloc Ozm_14.out (.cells #[.int .i64 fV, .int .i64 bV, .slice azp (PV).length czp, .int .i64 lV, .slice azm (MV).length czm] 36))
            have Xr_15 := Lib.hid (At5.alloc Xr_14.out (.cells #[.int .i64 fV, .int .i64 bV, .slice azp (PV).length czp, .int .i64 lV, .slice azm (MV).length czm] 36))
            have Xy_15 := Lib.hid (At5.alloc Xy_14.out (.cells #[.int .i64 fV, .int .i64 bV, .slice azp (PV).length czp, .int .i64 lV, .slice azm (MV).length czm] 36))
            have Xz_15 := Lib.hid (At5.new w14 (.int .i64 fV) (.int .i64 bV) (.slice azp (PV).length czp) (.int .i64 lV) (.slice azm (MV).length czm) 36)
            obtain ⟨⟨qr0, qr1, qr2, qr3, qr4⟩, _⟩ := Xr_15.out
            obtain ⟨⟨qy0, qy1, qy2, qy3, qy4⟩, _⟩ := Xy_15.out
            go_wp2_with fail
            clear qr0 qr1 qr2 qr3 qr4
            clear qy0 qy1 qy2 qy3 qy4
            generalize w14.alloc (.cells #[.int .i64 fV, .int .i64 bV, .slice azp (PV).length czp, .int .i64 lV, .slice azm (MV).length czm] 36) = w15 at *
            refine (lyrt_is fV bV ayp cyp (PV) lV aym cym (MV) fV bV azp czp (PV) lV azm czm (MV) (show decide (((fV, bV, PV, lV, MV) : Rt) = (fV, bV, PV, lV, MV)) = true from decide_eq_true rfl) _ ⟨⟨(OwnI.intA Oyp_15.out).2.2, (OwnI.intA Oym_15.out).2.2⟩, (OwnI.intA Oyp_15.out).2.1, (OwnI.intA Oym_15.out).2.1, by omega, by omega⟩ ⟨⟨(OwnI.intA Ozp_15.out).2.2, (OwnI.intA Ozm_15.out).2.2⟩, (OwnI.intA Ozp_15.out).2.1, (OwnI.intA Ozm_15.out).2.1, by omega, by omega⟩).mono ?_
            rintro en w16 ⟨rfl, b⟩
            have HB16 := Lib.hid (HB15.out.trans (b.mono HB15.out.size))
            have hs16 := Lib.hid b.size
            have Orp_16 := Lib.hid (owni_later Orp_15.out b)
            have Orm_16 := Lib.hid (owni_later Orm_15.out b)
            have Oyp_16 := Lib.hid (owni_later Oyp_15.out b)
            have Oym_16 := Lib.hid (owni_later Oym_15.out b)
            have Ozp_16 := Lib.hid (owni_later Ozp_15.out b)
            have Ozm_16 := Lib.hid (owni_later Ozm_15.out b)
            have Xr_16 := Lib.hid (At5.below Xr_15.out b)
            have Xy_16 := Lib.hid (At5.below Xy_15.out b)
            have Xz_16 := Lib.hid (At5.below Xz_15.out b)
            clear b
            obtain ⟨⟨qr0, qr1, qr2, qr3, qr4⟩, _⟩ := Xr_16.out
            obtain ⟨⟨qy0, qy1, qy2, qy3, qy4⟩, _⟩ := Xy_16.out
            obtain ⟨⟨qz0, qz1, qz2, qz3, qz4⟩, _⟩ := Xz_16.out
            go_wp2_with fail
            clear qr0 qr1 qr2 qr3 qr4
            clear qy0 qy1 qy2 qy3 qy4
            clear qz0 qz1 qz2 qz3 qz4
            go_ret
            exact ⟨rfl, HB16.out⟩

end Go.Proofs.YtioppkalehnoaaaDoor
