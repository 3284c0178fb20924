/-
  The exact law of PolicyAll: the walk.
-/
import Derived.Test.YtioppkalehnoaaaGreatDoorClRs
namespace Go.Proofs.YtioppkalehnoaaaGreatDoor
open Go.RowKit
set_option linter.unusedSimpArgs false
set_option linter.unusedVariables false

theorem ownc_cs {w : World} {R n cap : Nat} {a : Option Addr} {L : List CL} (h : OwnC w R (.slice a n cap) L) : CsA w a L := by
  obtain ⟨a', c', e, _, h2⟩ := OwnC.tab h
  injection e with e1 _ _
  rw [e1]; exact h2

set_option maxRecDepth 100000 in
set_option maxHeartbeats 4000000 in
theorem exactPolicyAll_walk (a0 : Option Addr) (n0 cap0 : Nat) (L0 : List CL) (a1 : Option Addr) (n1 cap1 : Nat) (L1 : List RV) (w : World) (hn0 : n0 = L0.length) (hA0 : CsA w a0 L0) (hl0 : n0 ≤ 9223372036854775807) (hn1 : n1 = L1.length) (hA1 : RsB w a1 L1) (hl1 : n1 ≤ 9223372036854775807) (p : Addr) (hE : EV w p) (_ : True) :
    Calls Tryz.prog 4 #[.slice a0 n0 cap0, .slice a1 n1 cap1] w fun e w' => e = .returned (.bool true) ∧ Below w.heap.size w w' := by
  subst hn0 hn1
  have HA := Lib.hid hA0
  have HQ := Lib.hid hA1
  have HE := Lib.hid hE
  clear hA0 hA1 hE
  have HB0 := Lib.hid (Below.refl w.heap.size w)
  by_cases hlc : L0.length ≤ 1048576
  case neg =>
    go_enter Tryz.func4, Tryz.ntmps4
    have hz : szC 1048576 L0.length = -1 := by rw [szC, if_pos (by omega)]
    go_wp2_with fail
    refine (szcl_is hz (by omega) (by omega) (by omega) a0 cap0 _).mono ?_
    rintro en w0 ⟨rfl, rfl⟩
    go_wp2_with fail
    go_ret
    exact ⟨rfl, HB0.out⟩
  go_enter Tryz.func4, Tryz.ntmps4
  have hz : szC 1048576 L0.length = 1048576 - (L0.length : Int) := by rw [szC, if_neg (by omega)]
  have hz0 : ¬ (1048576 : Int) - (L0.length : Int) < 0 := by omega
  generalize hZ1 : (1048576 : Int) - (L0.length : Int) = Z1 at *
  go_wp2_with fail
  refine (szcl_is hz (by omega) (by omega) (by omega) a0 cap0 _).mono ?_
  rintro en w0 ⟨rfl, rfl⟩
  go_wp2_with fail
  refine (szs_z Z1 (by omega) (by omega) L1 a1 cap1 _ _ rfl HQ.out hl1).mono ?_
  rintro en w1 ⟨z, rfl, hzz, b⟩
  have HB1 := Lib.hid (HB0.out.trans (b.mono HB0.out.size))
  have hs1 := Lib.hid b.size
  clear b
  by_cases hneg : z < 0
  · go_wp2_with fail
    go_ret
    exact ⟨rfl, HB1.out⟩
  obtain ⟨hlr, hsm⟩ := hzz (by omega)
  have HS := Lib.hid hsm
  have HR := Lib.hid (HQ.out.rsa hsm)
  clear hsm hzz
  obtain ⟨U, hU⟩ : ∃ U, polAll L0 (L1.map RV.rt) = U := ⟨_, rfl⟩
  have hUl : U.length ≤ L1.length := by rw [← hU]; have := polAll_len L0 (L1.map RV.rt); simpa using this
  have HU := Lib.hid hU
  clear hU
  go_wp2_with fail
  refine (tocls_any L0 a0 cap0 _ _ rfl (HA.out.below HB1.out) hlc).mono ?_
  rintro en w2 ⟨v, rfl, oc, b⟩
  have HB2 := Lib.hid (HB1.out.trans (b.mono HB1.out.size))
  have hs2 := Lib.hid b.size
  obtain ⟨att, ctt, rfl, _, _⟩ := OwnC.tab oc
  have Btt : Hid (∀ k, (Value.slice att L0.length ctt).ownBlock = some k → w1.heap.size ≤ k ∧ k < w2.heap.size) := Lib.hid (fun k hk => World.ownsRow.lt oc k hk)
  have Ctt_2 := Lib.hid oc
  clear oc b
  go_wp2_with fail
  refine (tos_own L1 a1 cap1 _ _ rfl (HR.out.below HB2.out) hlr HS.out).mono ?_
  rintro en w3 ⟨Lu, gu, cu, rfl, hp, hm, b⟩
  have HB3 := Lib.hid (HB2.out.trans (b.mono HB2.out.size))
  have hs3 := Lib.hid b.size
  have Ctt_3 := Lib.hid (ownc_later Ctt_2.out b)
  have Pu_3 := Lib.hid hp.pab
  have Eu := Lib.hid hm
  have hlu : Lu.length = L1.length := by have := congrArg List.length hm; simpa using this
  have Hlu := Lib.hid hlu
  clear hp hm b hlu
  have Su := Lib.hid (rt_small Eu.out HS.out)
  have Mu : Hid (∀ x ∈ Lu, x.P.length ≤ 2000000 ∧ x.M.length ≤ 2000000) := Lib.hid (fun x hx => by have := Su.out x hx; omega)
  have alu : some (⟨gu, 0, none⟩ : Addr) = some ⟨gu, 0, none⟩ := rfl
  clear alu
  go_wp2_with fail
  refine (spolall_is L0 att _ ctt Lu (some ⟨gu, 0, none⟩) _ cu (show polAll L0 (Lu.map RV.rt) = U by rw [Eu.out]; exact HU.out) _ rfl (ownc_cs Ctt_3.out) (by omega) rfl (Pu_3.out.par.rsa Mu.out) (by have := Hlu.out; omega)).mono ?_
  rintro en w4 ⟨v, Lw, rfl, hA, hM⟩
  obtain ⟨aw, cw, rfl, _⟩ := hA.row.tab
  have b := hA.bel
  have HB4 := Lib.hid (HB3.out.trans (b.mono HB3.out.size))
  have hs4 := Lib.hid b.size
  have Pu_4 := Lib.hid (Pu_3.out.later b)
  have Ctt_4 := Lib.hid (ownc_later Ctt_3.out b)
  have Pw_4 := Lib.hid hA.par.pab
  have Ew := Lib.hid hM
  have Hlw := Lib.hid (show Lw.length = U.length by rw [← hM]; simp)
  have Sw := Lib.hid (pol_small (hM.trans HU.out.symm))
  have Mw : Hid (∀ x ∈ Lw, x.P.length ≤ 2000000 ∧ x.M.length ≤ 2000000) := Lib.hid (fun x hx => by have := Sw.out x hx; omega)
  clear hA hM b
  go_wp2_with fail
  refine (tocls_any L0 a0 cap0 _ _ rfl (HA.out.below HB4.out) hlc).mono ?_
  rintro en w5 ⟨v, rfl, oc, b⟩
  have HB5 := Lib.hid (HB4.out.trans (b.mono HB4.out.size))
  have hs5 := Lib.hid b.size
  have Pw_5 := Lib.hid (Pw_4.out.later b)
  obtain ⟨ax, cx, rfl, _, _⟩ := OwnC.tab oc
  have Bx : Hid (∀ k, (Value.slice ax L0.length cx).ownBlock = some k → w4.heap.size ≤ k ∧ k < w5.heap.size) := Lib.hid (fun k hk => World.ownsRow.lt oc k hk)
  have Cx_5 := Lib.hid oc
  clear oc b
  go_wp2_with fail
  refine (tos_own L1 a1 cap1 _ _ rfl (HR.out.below HB5.out) hlr HS.out).mono ?_
  rintro en w6 ⟨Ly, gy, cy, rfl, hp, hm, b⟩
  have HB6 := Lib.hid (HB5.out.trans (b.mono HB5.out.size))
  have hs6 := Lib.hid b.size
  have Pw_6 := Lib.hid (Pw_5.out.later b)
  have Cx_6 := Lib.hid (ownc_later Cx_5.out b)
  have Py_6 := Lib.hid hp.pab
  have Ey := Lib.hid hm
  have hly : Ly.length = L1.length := by have := congrArg List.length hm; simpa using this
  have Hly := Lib.hid hly
  clear hp hm b hly
  have Sy := Lib.hid (rt_small Ey.out HS.out)
  have My : Hid (∀ x ∈ Ly, x.P.length ≤ 2000000 ∧ x.M.length ≤ 2000000) := Lib.hid (fun x hx => by have := Sy.out x hx; omega)
  have aly : some (⟨gy, 0, none⟩ : Addr) = some ⟨gy, 0, none⟩ := rfl
  clear aly
  go_wp2_with fail
  refine (ipolall_is L0 ax _ cx Ly (some ⟨gy, 0, none⟩) _ cy (show polAll L0 (Ly.map RV.rt) = U by rw [Ey.out]; exact HU.out) _ p rfl (ownc_cs Cx_6.out) (by omega) rfl (Py_6.out.par.rsa My.out) (by have := Hly.out; omega) (HE.out.below HB6.out)).mono ?_
  rintro en w7 ⟨v, Lg, rfl, hA, hM⟩
  obtain ⟨ag, cg, rfl, _⟩ := hA.row.tab
  have b := hA.bel
  have HB7 := Lib.hid (HB6.out.trans (b.mono HB6.out.size))
  have hs7 := Lib.hid b.size
  have Pw_7 := Lib.hid (Pw_6.out.later b)
  have Py_7 := Lib.hid (Py_6.out.later b)
  have Cx_7 := Lib.hid (ownc_later Cx_6.out b)
  have Pg_7 := Lib.hid hA.par.pab
  have Eg := Lib.hid hM
  have Hlg := Lib.hid (show Lg.length = U.length by rw [← hM]; simp)
  have Sg := Lib.hid (pol_small (hM.trans HU.out.symm))
  have Mg : Hid (∀ x ∈ Lg, x.P.length ≤ 2000000 ∧ x.M.length ≤ 2000000) := Lib.hid (fun x hx => by have := Sg.out x hx; omega)
  clear hA hM b
  go_wp2_with fail
  refine (eqs_is Lg Lw ag aw cg cw _ _ _ rfl rfl (Pg_7.out.par.rsa Mg.out) (Pw_7.out.par.rsa Mw.out) (Eg.out.trans Ew.out.symm) (by have := Hlg.out; omega)).mono ?_
  rintro en w8 ⟨rfl, b⟩
  have HB8 := Lib.hid (HB7.out.trans (b.mono HB7.out.size))
  have hs8 := Lib.hid b.size
  have Pw_8 := Lib.hid (Pw_7.out.later b)
  have Py_8 := Lib.hid (Py_7.out.later b)
  have Pg_8 := Lib.hid (Pg_7.out.later b)
  have Cx_8 := Lib.hid (ownc_later Cx_7.out b)
  clear b
  go_wp2_with fail
  refine (tocls_any L0 a0 cap0 _ _ rfl (HA.out.below HB8.out) hlc).mono ?_
  rintro en w9 ⟨v, rfl, oc, b⟩
  have HB9 := Lib.hid (HB8.out.trans (b.mono HB8.out.size))
  have hs9 := Lib.hid b.size
  have Pw_9 := Lib.hid (Pw_8.out.later b)
  have Py_9 := Lib.hid (Py_8.out.later b)
  have Pg_9 := Lib.hid (Pg_8.out.later b)
  have Cx_9 := Lib.hid (ownc_later Cx_8.out b)
  obtain ⟨ak, ck, rfl, _, _⟩ := OwnC.tab oc
  have Bk : Hid (∀ k, (Value.slice ak L0.length ck).ownBlock = some k → w8.heap.size ≤ k ∧ k < w9.heap.size) := Lib.hid (fun k hk => World.ownsRow.lt oc k hk)
  have Ck_9 := Lib.hid oc
  clear oc b
  go_wp2_with fail
  refine (eqcls_is L0 ax ak cx ck _ _ _ rfl rfl (ownc_cs Cx_9.out) (ownc_cs Ck_9.out) (by omega)).mono ?_
  rintro en w10 ⟨rfl, b⟩
  have HB10 := Lib.hid (HB9.out.trans (b.mono HB9.out.size))
  have hs10 := Lib.hid b.size
  have Pw_10 := Lib.hid (Pw_9.out.later b)
  have Py_10 := Lib.hid (Py_9.out.later b)
  have Pg_10 := Lib.hid (Pg_9.out.later b)
  have Cx_10 := Lib.hid (ownc_later Cx_9.out b)
  have Ck_10 := Lib.hid (ownc_later Ck_9.out b)
  clear b
  go_wp2_with fail
  refine (tos_own L1 a1 cap1 _ _ rfl (HR.out.below HB10.out) hlr HS.out).mono ?_
  rintro en w11 ⟨Lv, gv, cv, rfl, hp, hm, b⟩
  have HB11 := Lib.hid (HB10.out.trans (b.mono HB10.out.size))
  have hs11 := Lib.hid b.size
  have Pw_11 := Lib.hid (Pw_10.out.later b)
  have Py_11 := Lib.hid (Py_10.out.later b)
  have Pg_11 := Lib.hid (Pg_10.out.later b)
  have Cx_11 := Lib.hid (ownc_later Cx_10.out b)
  have Pv_11 := Lib.hid hp.pab
  have Ev := Lib.hid hm
  have hlv : Lv.length = L1.length := by have := congrArg List.length hm; simpa using this
  have Hlv := Lib.hid hlv
  clear hp hm b hlv
  have Sv := Lib.hid (rt_small Ev.out HS.out)
  have Mv : Hid (∀ x ∈ Lv, x.P.length ≤ 2000000 ∧ x.M.length ≤ 2000000) := Lib.hid (fun x hx => by have := Sv.out x hx; omega)
  have alv : some (⟨gv, 0, none⟩ : Addr) = some ⟨gv, 0, none⟩ := rfl
  clear alv
  go_wp2_with fail
  refine (eqs_is Ly Lv (some ⟨gy, 0, none⟩) (some ⟨gv, 0, none⟩) cy cv _ _ _ rfl rfl (Py_11.out.par.rsa My.out) (Pv_11.out.par.rsa Mv.out) (Ey.out.trans Ev.out.symm) (by have := Hly.out; omega)).mono ?_
  rintro en w12 ⟨rfl, b⟩
  have HB12 := Lib.hid (HB11.out.trans (b.mono HB11.out.size))
  have hs12 := Lib.hid b.size
  have Pw_12 := Lib.hid (Pw_11.out.later b)
  have Py_12 := Lib.hid (Py_11.out.later b)
  have Pg_12 := Lib.hid (Pg_11.out.later b)
  have Pv_12 := Lib.hid (Pv_11.out.later b)
  have Cx_12 := Lib.hid (ownc_later Cx_11.out b)
  clear b
  have hnn : ¬ ((mkN (1 + L0.length * 8) Ly : Nat) : Int) < 0 := by omega
  have hnu : ¬ ((mkN 1 Lg : Nat) : Int) < 0 := by omega
  have heK : ((mkN 1 Lg : Nat) : Int) = ((mkN 1 Lg : Nat) : Int) := rfl
  clear heK
  go_wp2_with fail
  refine (markcl_any _ L0 _ _ Cx_12.out (by omega)).mono ?_
  rintro en w13 ⟨rfl, gg⟩
  have T : Tch (fun b => w4.heap.size ≤ b ∧ b < w5.heap.size) w12 w13 := Tch.of gg (fun k e => Bx.out k e)
  have hs13 := Lib.hid T.size
  have HB13 := Lib.hid (HB12.out.trans (Tch.below T HB12.out.size (by intro b hb; have := HB12.out.size; have h0 := HB4.out.size; have := hs1.out; have := hs2.out; have := hs3.out; have := hs4.out; have := hs5.out; have := hs6.out; have := hs7.out; have := hs8.out; have := hs9.out; have := hs10.out; have := hs11.out; have := hs12.out; omega)))
  have Pw_13 := Lib.hid (Pw_12.out.tch T (by intro b hb; have := hs1.out; have := hs2.out; have := hs3.out; have := hs4.out; have := hs5.out; have := hs6.out; have := hs7.out; have := hs8.out; have := hs9.out; have := hs10.out; have := hs11.out; have := hs12.out; omega))
  have Py_13 := Lib.hid (Py_12.out.tch T (by intro b hb; have := hs1.out; have := hs2.out; have := hs3.out; have := hs4.out; have := hs5.out; have := hs6.out; have := hs7.out; have := hs8.out; have := hs9.out; have := hs10.out; have := hs11.out; have := hs12.out; omega))
  have Pg_13 := Lib.hid (Pg_12.out.tch T (by intro b hb; have := hs1.out; have := hs2.out; have := hs3.out; have := hs4.out; have := hs5.out; have := hs6.out; have := hs7.out; have := hs8.out; have := hs9.out; have := hs10.out; have := hs11.out; have := hs12.out; omega))
  clear T gg
  go_wp2_with fail
  refine (markrts_any (1 + L0.length * 8) (by omega) Ly _ _ _ _ Py_13.out (by have := Hly.out; omega) (fun x hx => by have := Sy.out x hx; omega)).mono ?_
  rintro en w14 ⟨rfl, _, T⟩
  have hs14 := Lib.hid T.size
  have HB14 := Lib.hid (HB13.out.trans (Tch.below T HB13.out.size (by intro b hb; have := HB13.out.size; have h0 := HB5.out.size; have := hs1.out; have := hs2.out; have := hs3.out; have := hs4.out; have := hs5.out; have := hs6.out; have := hs7.out; have := hs8.out; have := hs9.out; have := hs10.out; have := hs11.out; have := hs12.out; have := hs13.out; omega)))
  have Pw_14 := Lib.hid (Pw_13.out.tch T (by intro b hb; have := hs1.out; have := hs2.out; have := hs3.out; have := hs4.out; have := hs5.out; have := hs6.out; have := hs7.out; have := hs8.out; have := hs9.out; have := hs10.out; have := hs11.out; have := hs12.out; have := hs13.out; omega))
  have Pg_14 := Lib.hid (Pg_13.out.tch T (by intro b hb; have := hs1.out; have := hs2.out; have := hs3.out; have := hs4.out; have := hs5.out; have := hs6.out; have := hs7.out; have := hs8.out; have := hs9.out; have := hs10.out; have := hs11.out; have := hs12.out; have := hs13.out; omega))
  clear T
  go_wp2_with fail
  refine (eqs_is Lg Lw ag aw cg cw _ _ _ rfl rfl (Pg_14.out.par.rsa Mg.out) (Pw_14.out.par.rsa Mw.out) (Eg.out.trans Ew.out.symm) (by have := Hlg.out; omega)).mono ?_
  rintro en w15 ⟨rfl, b⟩
  have HB15 := Lib.hid (HB14.out.trans (b.mono HB14.out.size))
  have hs15 := Lib.hid b.size
  have Pw_15 := Lib.hid (Pw_14.out.later b)
  have Pg_15 := Lib.hid (Pg_14.out.later b)
  clear b
  go_wp2_with fail
  refine (markrts_any 1 (by omega) Lg _ _ _ _ Pg_15.out (by have := Hlg.out; omega) (fun x hx => by have := Sg.out x hx; omega)).mono ?_
  rintro en w16 ⟨rfl, hK, T⟩
  have hs16 := Lib.hid T.size
  have HB16 := Lib.hid (HB15.out.trans (Tch.below T HB15.out.size (by intro b hb; have := HB15.out.size; have h0 := HB6.out.size; have := hs1.out; have := hs2.out; have := hs3.out; have := hs4.out; have := hs5.out; have := hs6.out; have := hs7.out; have := hs8.out; have := hs9.out; have := hs10.out; have := hs11.out; have := hs12.out; have := hs13.out; have := hs14.out; have := hs15.out; omega)))
  have Pw_16 := Lib.hid (Pw_15.out.tch T (by intro b hb; have := hs1.out; have := hs2.out; have := hs3.out; have := hs4.out; have := hs5.out; have := hs6.out; have := hs7.out; have := hs8.out; have := hs9.out; have := hs10.out; have := hs11.out; have := hs12.out; have := hs13.out; have := hs14.out; have := hs15.out; omega))
  have Pm_16 := Lib.hid hK
  have Mm : Hid (∀ x ∈ mkRs 1 Lg, x.P.length ≤ 2000000 ∧ x.M.length ≤ 2000000) := Lib.hid (mkRs_small (fun x hx => by have := Sg.out x hx; omega))
  clear T hK
  generalize hKK : mkN 1 Lg = K2 at *
  have heK : ((K2 : Int) != (K2 : Int)) = false := by simp
  go_wp2_with fail
  refine (heldrts_any 1 (by omega) Lg ag _ cg _ rfl (PaR.rsa Pm_16.out Mm.out) (by have := Hlg.out; omega) (fun x hx => by have := Sg.out x hx; omega)).mono ?_
  rintro en w0 ⟨rfl, rfl⟩
  rw [hKK]
  go_wp2_with fail
  refine (tocls_any L0 a0 cap0 _ _ rfl (HA.out.below HB16.out) hlc).mono ?_
  rintro en w17 ⟨v, rfl, oc, b⟩
  have HB17 := Lib.hid (HB16.out.trans (b.mono HB16.out.size))
  have hs17 := Lib.hid b.size
  have Pw_17 := Lib.hid (Pw_16.out.later b)
  have Pm_17 := Lib.hid (Pm_16.out.later b)
  obtain ⟨aq, cq, rfl, _, _⟩ := OwnC.tab oc
  have Bq : Hid (∀ k, (Value.slice aq L0.length cq).ownBlock = some k → w16.heap.size ≤ k ∧ k < w17.heap.size) := Lib.hid (fun k hk => World.ownsRow.lt oc k hk)
  have Cq_17 := Lib.hid oc
  clear oc b
  go_wp2_with fail
  refine (tos_own L1 a1 cap1 _ _ rfl (HR.out.below HB17.out) hlr HS.out).mono ?_
  rintro en w18 ⟨Lr, gr, cr, rfl, hp, hm, b⟩
  have HB18 := Lib.hid (HB17.out.trans (b.mono HB17.out.size))
  have hs18 := Lib.hid b.size
  have Pw_18 := Lib.hid (Pw_17.out.later b)
  have Cq_18 := Lib.hid (ownc_later Cq_17.out b)
  have Pm_18 := Lib.hid (Pm_17.out.later b)
  have Pr_18 := Lib.hid hp.pab
  have Er := Lib.hid hm
  have hlr : Lr.length = L1.length := by have := congrArg List.length hm; simpa using this
  have Hlr := Lib.hid hlr
  clear hp hm b hlr
  have Sr := Lib.hid (rt_small Er.out HS.out)
  have Mr : Hid (∀ x ∈ Lr, x.P.length ≤ 2000000 ∧ x.M.length ≤ 2000000) := Lib.hid (fun x hx => by have := Sr.out x hx; omega)
  have alr : some (⟨gr, 0, none⟩ : Addr) = some ⟨gr, 0, none⟩ := rfl
  clear alr
  have Pm_b := Lib.hid Pm_18.out
  go_wp2_with fail
  refine (ipolall_is L0 aq _ cq Lr (some ⟨gr, 0, none⟩) _ cr (show polAll L0 (Lr.map RV.rt) = U by rw [Er.out]; exact HU.out) _ p rfl (ownc_cs Cq_18.out) (by omega) rfl (Pr_18.out.par.rsa Mr.out) (by have := Hlr.out; omega) (HE.out.below HB18.out)).mono ?_
  rintro en w19 ⟨v, Lh, rfl, hA, hM⟩
  obtain ⟨ah, ch, rfl, _⟩ := hA.row.tab
  have b := hA.bel
  have HB19 := Lib.hid (HB18.out.trans (b.mono HB18.out.size))
  have hs19 := Lib.hid b.size
  have Pw_19 := Lib.hid (Pw_18.out.later b)
  have Pr_19 := Lib.hid (Pr_18.out.later b)
  have Cq_19 := Lib.hid (ownc_later Cq_18.out b)
  have Ph_19 := Lib.hid hA.par.pab
  have Eh := Lib.hid hM
  have Hlh := Lib.hid (show Lh.length = U.length by rw [← hM]; simp)
  have Sh := Lib.hid (pol_small (hM.trans HU.out.symm))
  have Mh : Hid (∀ x ∈ Lh, x.P.length ≤ 2000000 ∧ x.M.length ≤ 2000000) := Lib.hid (fun x hx => by have := Sh.out x hx; omega)
  have hbel := hA.bel
  clear hA hM b
  have Pm_19 := Lib.hid (PaR.later Pm_b.out hbel)
  go_wp2_with fail
  refine (eqs_is Lh Lw ah aw ch cw _ _ _ rfl rfl (Ph_19.out.par.rsa Mh.out) (Pw_19.out.par.rsa Mw.out) (Eh.out.trans Ew.out.symm) (by have := Hlh.out; omega)).mono ?_
  rintro en w20 ⟨rfl, b⟩
  have HB20 := Lib.hid (HB19.out.trans (b.mono HB19.out.size))
  have hs20 := Lib.hid b.size
  have Pw_20 := Lib.hid (Pw_19.out.later b)
  have Ph_20 := Lib.hid (Ph_19.out.later b)
  have Pm_20 := Lib.hid (Pm_19.out.later b)
  clear b
  go_wp2_with fail
  refine (heldrts_any 1 (by omega) Lg ag _ cg _ rfl (PaR.rsa Pm_20.out Mm.out) (by have := Hlg.out; omega) (fun x hx => by have := Sg.out x hx; omega)).mono ?_
  rintro en w0 ⟨rfl, rfl⟩
  rw [hKK]
  go_wp2_with fail
  go_ret
  exact ⟨rfl, HB20.out⟩
end Go.Proofs.YtioppkalehnoaaaGreatDoor
