/-
  The exact laws of PathOk, PathHas, PathAdd, PathCmp: the walks.
-/
import Derived.Test.YtnabcffpficgcaaDoorPEx
namespace Go.Proofs.YtnabcffpficgcaaDoor
open Go.RowKit
set_option linter.unusedSimpArgs false
set_option linter.unusedVariables false

set_option maxRecDepth 100000 in
set_option maxHeartbeats 4000000 in
theorem exactPathOk_walk (aP : Option Addr) (cP : Nat) (L : List Int) (w : World) (hT : IntA w aP L) (hcP : L.length ≤ cP) (hn : L.length ≤ 9223372036854775807) (p : Addr) (hE : EV w p) (_ : True) :
    Calls Tryd.prog 3 #[.slice aP L.length cP] w fun e w' => e = .returned (.bool true) ∧ Below w.heap.size w w' := by
  have HT := Lib.hid hT
  have HE := Lib.hid hE
  clear hT hE
  by_cases hl : L.length ≤ 1048576
  · have HB0 := Lib.hid (Below.refl w.heap.size w)
    generalize hU : pOk L = u
    have HU := Lib.hid hU
    have huu : (u != u) = false := by simp
    clear hU
    go_enter Tryd.func3, Tryd.ntmps3
    go_wp2_with fail
    refine (toI_any aP cP L _ (HT.out.below HB0.out) hl).mono ?_
    rintro e w1 ⟨v, rfl, o, b⟩
    have HB1 := Lib.hid (HB0.out.trans (b.mono HB0.out.size))
    have hs1 := Lib.hid b.size
    obtain ⟨aq, cq, rfl, hcq, tq⟩ := OwnI.tab o
    have Bq := Lib.hid (OwnI.btw o)
    have Oq_1 := Lib.hid o
    clear tq hcq
    clear b o
    go_wp2_with fail
    refine (psok_is HU.out aq cq _ _ rfl (OwnI.intA Oq_1.out).2.2 (OwnI.intA Oq_1.out).2.1 (by omega)).mono ?_
    rintro e w2 ⟨rfl, b⟩
    have HB2 := Lib.hid (HB1.out.trans (b.mono HB1.out.size))
    have hs2 := Lib.hid b.size
    have Oq_2 := Lib.hid (owni_later Oq_1.out b)
    clear b
    go_wp2_with fail
    refine (toI_any aP cP L _ (HT.out.below HB2.out) hl).mono ?_
    rintro e w3 ⟨v, rfl, o, b⟩
    have HB3 := Lib.hid (HB2.out.trans (b.mono HB2.out.size))
    have hs3 := Lib.hid b.size
    obtain ⟨ax, cx, rfl, hcx, tx⟩ := OwnI.tab o
    have Bx := Lib.hid (OwnI.btw o)
    have Ox_3 := Lib.hid o
    clear tx hcx
    clear b o
    go_wp2_with fail
    refine (piok_is HU.out ax cx _ _ p rfl (by omega) (OwnI.intA Ox_3.out).2.2 (HE.out.below HB3.out)).mono ?_
    rintro e w4 ⟨rfl, b⟩
    have HB4 := Lib.hid (HB3.out.trans (b.mono HB3.out.size))
    have hs4 := Lib.hid b.size
    have Ox_4 := Lib.hid (owni_later Ox_3.out b)
    clear b
    go_wp2_with fail
    refine (toI_any aP cP L _ (HT.out.below HB4.out) hl).mono ?_
    rintro e w5 ⟨v, rfl, o, b⟩
    have HB5 := Lib.hid (HB4.out.trans (b.mono HB4.out.size))
    have hs5 := Lib.hid b.size
    have Ox_5 := Lib.hid (owni_later Ox_4.out b)
    obtain ⟨ay, cy, rfl, hcy, ty⟩ := OwnI.tab o
    have By := Lib.hid (OwnI.btw o)
    have Oy_5 := Lib.hid o
    clear ty hcy
    clear b o
    go_wp2_with fail
    refine (eqI_is (show decide (L = L) = true from decide_eq_true rfl) ax ay cx cy _ _ _ rfl rfl (OwnI.intA Ox_5.out).2.2 (OwnI.intA Oy_5.out).2.2 (by omega) (by omega)).mono ?_
    rintro e w6 ⟨rfl, b⟩
    have HB6 := Lib.hid (HB5.out.trans (b.mono HB5.out.size))
    have hs6 := Lib.hid b.size
    have Ox_6 := Lib.hid (owni_later Ox_5.out b)
    have Oy_6 := Lib.hid (owni_later Oy_5.out b)
    clear b
    go_wp2_with fail
    go_ret
    exact ⟨rfl, HB6.out⟩
  · have hbig : (1048576 : Int) < (L.length : Int) := by omega
    clear hl
    go_enter Tryd.func3, Tryd.ntmps3
    go_wp2_with fail
    go_ret
    exact ⟨rfl, Below.refl _ _⟩

set_option maxRecDepth 100000 in
set_option maxHeartbeats 4000000 in
theorem exactPathHas_walk (aP : Option Addr) (cP : Nat) (L : List Int) (h : Int) (w : World) (hT : IntA w aP L) (hcP : L.length ≤ cP) (hn : L.length ≤ 9223372036854775807) (_ : (Lit.int .i64 h).wf = true) (p : Addr) (hE : EV w p) (_ : True) :
    Calls Tryd.prog 4 #[.slice aP L.length cP, .int .i64 h] w fun e w' => e = .returned (.bool true) ∧ Below w.heap.size w w' := by
  have HT := Lib.hid hT
  have HE := Lib.hid hE
  clear hT hE
  by_cases hl : L.length ≤ 1048576
  · have HB0 := Lib.hid (Below.refl w.heap.size w)
    generalize hU : pHas L h = u
    have HU := Lib.hid hU
    have huu : (u != u) = false := by simp
    clear hU
    go_enter Tryd.func4, Tryd.ntmps4
    go_wp2_with fail
    refine (toI_any aP cP L _ (HT.out.below HB0.out) hl).mono ?_
    rintro e w1 ⟨v, rfl, o, b⟩
    have HB1 := Lib.hid (HB0.out.trans (b.mono HB0.out.size))
    have hs1 := Lib.hid b.size
    obtain ⟨aq, cq, rfl, hcq, tq⟩ := OwnI.tab o
    have Bq := Lib.hid (OwnI.btw o)
    have Oq_1 := Lib.hid o
    clear tq hcq
    clear b o
    go_wp2_with fail
    refine (shasP_is HU.out aq cq _ _ rfl (OwnI.intA Oq_1.out).2.2 (OwnI.intA Oq_1.out).2.1 (by omega)).mono ?_
    rintro e w2 ⟨rfl, b⟩
    have HB2 := Lib.hid (HB1.out.trans (b.mono HB1.out.size))
    have hs2 := Lib.hid b.size
    have Oq_2 := Lib.hid (owni_later Oq_1.out b)
    clear b
    go_wp2_with fail
    refine (toI_any aP cP L _ (HT.out.below HB2.out) hl).mono ?_
    rintro e w3 ⟨v, rfl, o, b⟩
    have HB3 := Lib.hid (HB2.out.trans (b.mono HB2.out.size))
    have hs3 := Lib.hid b.size
    obtain ⟨ax, cx, rfl, hcx, tx⟩ := OwnI.tab o
    have Bx := Lib.hid (OwnI.btw o)
    have Ox_3 := Lib.hid o
    clear tx hcx
    clear b o
    go_wp2_with fail
    refine (pihas_is HU.out ax cx _ _ p rfl (by omega) (OwnI.intA Ox_3.out).2.2 (HE.out.below HB3.out)).mono ?_
    rintro e w4 ⟨rfl, b⟩
    have HB4 := Lib.hid (HB3.out.trans (b.mono HB3.out.size))
    have hs4 := Lib.hid b.size
    have Ox_4 := Lib.hid (owni_later Ox_3.out b)
    clear b
    go_wp2_with fail
    refine (toI_any aP cP L _ (HT.out.below HB4.out) hl).mono ?_
    rintro e w5 ⟨v, rfl, o, b⟩
    have HB5 := Lib.hid (HB4.out.trans (b.mono HB4.out.size))
    have hs5 := Lib.hid b.size
    have Ox_5 := Lib.hid (owni_later Ox_4.out b)
    obtain ⟨ay, cy, rfl, hcy, ty⟩ := OwnI.tab o
    have By := Lib.hid (OwnI.btw o)
    have Oy_5 := Lib.hid o
    clear ty hcy
    clear b o
    go_wp2_with fail
    refine (eqI_is (show decide (L = L) = true from decide_eq_true rfl) ax ay cx cy _ _ _ rfl rfl (OwnI.intA Ox_5.out).2.2 (OwnI.intA Oy_5.out).2.2 (by omega) (by omega)).mono ?_
    rintro e w6 ⟨rfl, b⟩
    have HB6 := Lib.hid (HB5.out.trans (b.mono HB5.out.size))
    have hs6 := Lib.hid b.size
    have Ox_6 := Lib.hid (owni_later Ox_5.out b)
    have Oy_6 := Lib.hid (owni_later Oy_5.out b)
    clear b
    go_wp2_with fail
    go_ret
    exact ⟨rfl, HB6.out⟩
  · have hbig : (1048576 : Int) < (L.length : Int) := by omega
    clear hl
    go_enter Tryd.func4, Tryd.ntmps4
    go_wp2_with fail
    go_ret
    exact ⟨rfl, Below.refl _ _⟩

theorem padd_len (L : List Int) (h : Int) : (padd L h).1.length ≤ 5 := by
  by_cases k : Path (h :: L)
  · rw [padd_yes k]; exact k.len
  · rw [padd_no k]; simp

set_option maxRecDepth 100000 in
set_option maxHeartbeats 4000000 in
theorem exactPathAdd_walk (aP : Option Addr) (cP : Nat) (L : List Int) (h : Int) (w : World) (hT : IntA w aP L) (hcP : L.length ≤ cP) (hn : L.length ≤ 9223372036854775807) (_ : (Lit.int .i64 h).wf = true) (p : Addr) (hE : EV w p) (_ : True) :
    Calls Tryd.prog 5 #[.slice aP L.length cP, .int .i64 h] w fun e w' => e = .returned (.bool true) ∧ Below w.heap.size w w' := by
  have HT := Lib.hid hT
  have HE := Lib.hid hE
  clear hT hE
  by_cases hl : L.length ≤ 1048576
  · have HB0 := Lib.hid (Below.refl w.heap.size w)
    obtain ⟨U, u, hU⟩ : ∃ U u, padd L h = (U, u) := ⟨_, _, rfl⟩
    have hUl : U.length ≤ 5 := by have := padd_len L h; rw [hU] at this; exact this
    have HU := Lib.hid hU
    have huu : (u != u) = false := by simp
    clear hU
    go_enter Tryd.func5, Tryd.ntmps5
    go_wp2_with fail
    refine (toI_any aP cP L _ (HT.out.below HB0.out) hl).mono ?_
    rintro e w1 ⟨v, rfl, o, b⟩
    have HB1 := Lib.hid (HB0.out.trans (b.mono HB0.out.size))
    have hs1 := Lib.hid b.size
    obtain ⟨aq, cq, rfl, hcq, tq⟩ := OwnI.tab o
    have Bq := Lib.hid (OwnI.btw o)
    have Oq_1 := Lib.hid o
    clear tq hcq
    clear b o
    go_wp2_with fail
    refine (sadd_is HU.out aq cq _ _ rfl (OwnI.intA Oq_1.out).2.2 (OwnI.intA Oq_1.out).2.1 (by omega)).mono ?_
    rintro e w2 ⟨v, rfl, o, b⟩
    have HB2 := Lib.hid (HB1.out.trans (b.mono HB1.out.size))
    have hs2 := Lib.hid b.size
    have Oq_2 := Lib.hid (owni_later Oq_1.out b)
    obtain ⟨aw, cw, rfl, hcw, tw⟩ := OwnI.tab o
    have Bw := Lib.hid (OwnI.btw o)
    have Ow_2 := Lib.hid o
    clear tw hcw
    clear b o
    go_wp2_with fail
    refine (toI_any aP cP L _ (HT.out.below HB2.out) hl).mono ?_
    rintro e w3 ⟨v, rfl, o, b⟩
    have HB3 := Lib.hid (HB2.out.trans (b.mono HB2.out.size))
    have hs3 := Lib.hid b.size
    have Ow_3 := Lib.hid (owni_later Ow_2.out b)
    obtain ⟨ax, cx, rfl, hcx, tx⟩ := OwnI.tab o
    have Bx := Lib.hid (OwnI.btw o)
    have Ox_3 := Lib.hid o
    clear tx hcx
    clear b o
    go_wp2_with fail
    refine (iadd_is HU.out ax cx _ _ p rfl (by omega) (OwnI.intA Ox_3.out).2.2 (HE.out.below HB3.out)).mono ?_
    rintro e w4 ⟨v, rfl, o, b⟩
    have HB4 := Lib.hid (HB3.out.trans (b.mono HB3.out.size))
    have hs4 := Lib.hid b.size
    have Ow_4 := Lib.hid (owni_later Ow_3.out b)
    have Ox_4 := Lib.hid (owni_later Ox_3.out b)
    obtain ⟨ag, cg, rfl, hcg, tg⟩ := OwnI.tab o
    have Bg := Lib.hid (OwnI.btw o)
    have Og_4 := Lib.hid o
    clear tg hcg
    clear b o
    go_wp2_with fail
    refine (eqI_is (show decide (U = U) = true from decide_eq_true rfl) ag aw cg cw _ _ _ rfl rfl (OwnI.intA Og_4.out).2.2 (OwnI.intA Ow_4.out).2.2 (by omega) (by omega)).mono ?_
    rintro e w5 ⟨rfl, b⟩
    have HB5 := Lib.hid (HB4.out.trans (b.mono HB4.out.size))
    have hs5 := Lib.hid b.size
    have Ow_5 := Lib.hid (owni_later Ow_4.out b)
    have Ox_5 := Lib.hid (owni_later Ox_4.out b)
    have Og_5 := Lib.hid (owni_later Og_4.out b)
    clear b
    go_wp2_with fail
    refine (toI_any aP cP L _ (HT.out.below HB5.out) hl).mono ?_
    rintro e w6 ⟨v, rfl, o, b⟩
    have HB6 := Lib.hid (HB5.out.trans (b.mono HB5.out.size))
    have hs6 := Lib.hid b.size
    have Ow_6 := Lib.hid (owni_later Ow_5.out b)
    have Ox_6 := Lib.hid (owni_later Ox_5.out b)
    have Og_6 := Lib.hid (owni_later Og_5.out b)
    obtain ⟨ay, cy, rfl, hcy, ty⟩ := OwnI.tab o
    have By := Lib.hid (OwnI.btw o)
    have Oy_6 := Lib.hid o
    clear ty hcy
    clear b o
    go_wp2_with fail
    refine (eqI_is (show decide (L = L) = true from decide_eq_true rfl) ax ay cx cy _ _ _ rfl rfl (OwnI.intA Ox_6.out).2.2 (OwnI.intA Oy_6.out).2.2 (by omega) (by omega)).mono ?_
    rintro e w7 ⟨rfl, b⟩
    have HB7 := Lib.hid (HB6.out.trans (b.mono HB6.out.size))
    have hs7 := Lib.hid b.size
    have Ow_7 := Lib.hid (owni_later Ow_6.out b)
    have Ox_7 := Lib.hid (owni_later Ox_6.out b)
    have Og_7 := Lib.hid (owni_later Og_6.out b)
    have Oy_7 := Lib.hid (owni_later Oy_6.out b)
    clear b
    go_wp2_with fail
    refine (pmark_any _ (L) _ _ Ox_7.out (by omega)).mono ?_
    rintro e w8 ⟨rfl, o, g⟩
    have HB8 := Lib.hid (HB7.out.grown g HB7.out.size (fun k e => Nat.le_trans HB2.out.size (Bx.out k e).1))
    have hs8 := Lib.hid g.size
    have Ow_8 := Lib.hid (World.ownsRow.kept Ow_7.out g (pBtw.apart Bw.out Bx.out (by have := hs1.out; have := hs2.out; have := hs3.out; have := hs4.out; have := hs5.out; have := hs6.out; have := hs7.out; omega)))
    have Og_8 := Lib.hid (World.ownsRow.kept Og_7.out g (pBtw.apart Bg.out Bx.out (by have := hs1.out; have := hs2.out; have := hs3.out; have := hs4.out; have := hs5.out; have := hs6.out; have := hs7.out; omega)))
    have Ox_8 := Lib.hid o
    clear o g
    have hnn : ¬ ((L.length : Int) + 1 < 0) := by omega
    go_wp2_with fail
    refine (eqI_is (show decide (U = U) = true from decide_eq_true rfl) ag aw cg cw _ _ _ rfl rfl (OwnI.intA Og_8.out).2.2 (OwnI.intA Ow_8.out).2.2 (by omega) (by omega)).mono ?_
    rintro e w9 ⟨rfl, b⟩
    have HB9 := Lib.hid (HB8.out.trans (b.mono HB8.out.size))
    have hs9 := Lib.hid b.size
    have Ow_9 := Lib.hid (owni_later Ow_8.out b)
    have Ox_9 := Lib.hid (owni_later Ox_8.out b)
    have Og_9 := Lib.hid (owni_later Og_8.out b)
    clear b
    go_wp2_with fail
    refine (pmark_any _ (U) _ _ Og_9.out (by omega)).mono ?_
    rintro e w10 ⟨rfl, o, g⟩
    have HB10 := Lib.hid (HB9.out.grown g HB9.out.size (fun k e => Nat.le_trans HB3.out.size (Bg.out k e).1))
    have hs10 := Lib.hid g.size
    have Ow_10 := Lib.hid (World.ownsRow.kept Ow_9.out g (pBtw.apart Bw.out Bg.out (by have := hs1.out; have := hs2.out; have := hs3.out; have := hs4.out; have := hs5.out; have := hs6.out; have := hs7.out; have := hs8.out; have := hs9.out; omega)))
    have Ox_10 := Lib.hid (World.ownsRow.kept Ox_9.out g (pBtw.apart Bx.out Bg.out (by have := hs1.out; have := hs2.out; have := hs3.out; have := hs4.out; have := hs5.out; have := hs6.out; have := hs7.out; have := hs8.out; have := hs9.out; omega)))
    have Og_10 := Lib.hid o
    clear o g
    go_wp2_with fail
    refine (pheld_any _ _ _ _ ((OwnI.intA Og_10.out).2.2) (by omega)).mono ?_
    rintro e w0 ⟨rfl, rfl⟩
    have hnu : ¬ ((U.length : Int) + 1 < 0) := by omega
    have heu : ((U.length : Int) + 1 != (U.length : Int) + 1) = false := by simp
    go_wp2_with fail
    refine (toI_any aP cP L _ (HT.out.below HB10.out) hl).mono ?_
    rintro e w11 ⟨v, rfl, o, b⟩
    have HB11 := Lib.hid (HB10.out.trans (b.mono HB10.out.size))
    have hs11 := Lib.hid b.size
    have Ow_11 := Lib.hid (owni_later Ow_10.out b)
    have Og_11 := Lib.hid (owni_later Og_10.out b)
    obtain ⟨az, cz, rfl, hcz, tz⟩ := OwnI.tab o
    have Bz := Lib.hid (OwnI.btw o)
    have Oz_11 := Lib.hid o
    clear tz hcz
    clear b o
    go_wp2_with fail
    refine (iadd_is HU.out az cz _ _ p rfl (by omega) (OwnI.intA Oz_11.out).2.2 (HE.out.below HB11.out)).mono ?_
    rintro e w12 ⟨v, rfl, o, b⟩
    have HB12 := Lib.hid (HB11.out.trans (b.mono HB11.out.size))
    have hs12 := Lib.hid b.size
    have Ow_12 := Lib.hid (owni_later Ow_11.out b)
    have Og_12 := Lib.hid (owni_later Og_11.out b)
    have Oz_12 := Lib.hid (owni_later Oz_11.out b)
    obtain ⟨ah, ch, rfl, hch, th⟩ := OwnI.tab o
    have Bh := Lib.hid (OwnI.btw o)
    have Oh_12 := Lib.hid o
    clear th hch
    clear b o
    go_wp2_with fail
    refine (eqI_is (show decide (U = U) = true from decide_eq_true rfl) ah aw ch cw _ _ _ rfl rfl (OwnI.intA Oh_12.out).2.2 (OwnI.intA Ow_12.out).2.2 (by omega) (by omega)).mono ?_
    rintro e w13 ⟨rfl, b⟩
    have HB13 := Lib.hid (HB12.out.trans (b.mono HB12.out.size))
    have hs13 := Lib.hid b.size
    have Ow_13 := Lib.hid (owni_later Ow_12.out b)
    have Og_13 := Lib.hid (owni_later Og_12.out b)
    have Oh_13 := Lib.hid (owni_later Oh_12.out b)
    clear b
    go_wp2_with fail
    refine (pheld_any _ _ _ _ ((OwnI.intA Og_13.out).2.2) (by omega)).mono ?_
    rintro e w0 ⟨rfl, rfl⟩
    go_wp2_with fail
    go_ret
    exact ⟨rfl, HB13.out⟩
  · have hbig : (1048576 : Int) < (L.length : Int) := by omega
    clear hl
    go_enter Tryd.func5, Tryd.ntmps5
    go_wp2_with fail
    go_ret
    exact ⟨rfl, Below.refl _ _⟩

set_option maxRecDepth 100000 in
set_option maxHeartbeats 4000000 in
theorem exactPathCmp_walk (aP : Option Addr) (cP : Nat) (L : List Int) (aQ : Option Addr) (cQ : Nat) (M : List Int) (w : World) (hT : IntA w aP L) (hcP : L.length ≤ cP) (hn : L.length ≤ 9223372036854775807) (hS : IntA w aQ M) (hcQ : M.length ≤ cQ) (hm : M.length ≤ 9223372036854775807) (p : Addr) (hE : EV w p) (_ : True) :
    Calls Tryd.prog 8 #[.slice aP L.length cP, .slice aQ M.length cQ] w fun e w' => e = .returned (.bool true) ∧ Below w.heap.size w w' := by
  have HT := Lib.hid hT
  have HS := Lib.hid hS
  have HE := Lib.hid hE
  clear hT hS hE
  by_cases hl : L.length ≤ 1048576
  · by_cases hk : M.length ≤ 1048576
    · have HB0 := Lib.hid (Below.refl w.heap.size w)
      generalize hU : pcmp L M = u
      have HU := Lib.hid hU
      have huu : (u != u) = false := by simp
      clear hU
      go_enter Tryd.func8, Tryd.ntmps8
      go_wp2_with fail
      refine (toI_any aP cP L _ (HT.out.below HB0.out) hl).mono ?_
      rintro e w1 ⟨v, rfl, o, b⟩
      have HB1 := Lib.hid (HB0.out.trans (b.mono HB0.out.size))
      have hs1 := Lib.hid b.size
      obtain ⟨aq, cq, rfl, hcq, tq⟩ := OwnI.tab o
      have Bq := Lib.hid (OwnI.btw o)
      have Oq_1 := Lib.hid o
      clear tq hcq
      clear b o
      go_wp2_with fail
      refine (toI_any aQ cQ M _ (HS.out.below HB1.out) hk).mono ?_
      rintro e w2 ⟨v, rfl, o, b⟩
      have HB2 := Lib.hid (HB1.out.trans (b.mono HB1.out.size))
      have hs2 := Lib.hid b.size
      have Oq_2 := Lib.hid (owni_later Oq_1.out b)
      obtain ⟨ar, cr, rfl, hcr, tr⟩ := OwnI.tab o
      have Br := Lib.hid (OwnI.btw o)
      have Or_2 := Lib.hid o
      clear tr hcr
      clear b o
      go_wp2_with fail
      refine (pscmp_is HU.out aq ar cq cr _ _ _ rfl rfl (OwnI.intA Oq_2.out).2.2 (OwnI.intA Or_2.out).2.2 (OwnI.intA Oq_2.out).2.1 (OwnI.intA Or_2.out).2.1 (by omega) (by omega)).mono ?_
      rintro e w3 ⟨rfl, b⟩
      have HB3 := Lib.hid (HB2.out.trans (b.mono HB2.out.size))
      have hs3 := Lib.hid b.size
      have Oq_3 := Lib.hid (owni_later Oq_2.out b)
      have Or_3 := Lib.hid (owni_later Or_2.out b)
      clear b
      go_wp2_with fail
      refine (toI_any aP cP L _ (HT.out.below HB3.out) hl).mono ?_
      rintro e w4 ⟨v, rfl, o, b⟩
      have HB4 := Lib.hid (HB3.out.trans (b.mono HB3.out.size))
      have hs4 := Lib.hid b.size
      obtain ⟨ax, cx, rfl, hcx, tx⟩ := OwnI.tab o
      have Bx := Lib.hid (OwnI.btw o)
      have Ox_4 := Lib.hid o
      clear tx hcx
      clear b o
      go_wp2_with fail
      refine (toI_any aQ cQ M _ (HS.out.below HB4.out) hk).mono ?_
      rintro e w5 ⟨v, rfl, o, b⟩
      have HB5 := Lib.hid (HB4.out.trans (b.mono HB4.out.size))
      have hs5 := Lib.hid b.size
      have Ox_5 := Lib.hid (owni_later Ox_4.out b)
      obtain ⟨az, cz, rfl, hcz, tz⟩ := OwnI.tab o
      have Bz := Lib.hid (OwnI.btw o)
      have Oz_5 := Lib.hid o
      clear tz hcz
      clear b o
      go_wp2_with fail
      refine (icmp_is HU.out ax az cx cz _ _ _ p rfl rfl (OwnI.intA Ox_5.out).2.2 (OwnI.intA Oz_5.out).2.2 (by omega) (by omega) (HE.out.below HB5.out)).mono ?_
      rintro e w6 ⟨rfl, b⟩
      have HB6 := Lib.hid (HB5.out.trans (b.mono HB5.out.size))
      have hs6 := Lib.hid b.size
      have Ox_6 := Lib.hid (owni_later Ox_5.out b)
      have Oz_6 := Lib.hid (owni_later Oz_5.out b)
      clear b
      go_wp2_with fail
      refine (toI_any aP cP L _ (HT.out.below HB6.out) hl).mono ?_
      rintro e w7 ⟨v, rfl, o, b⟩
      have HB7 := Lib.hid (HB6.out.trans (b.mono HB6.out.size))
      have hs7 := Lib.hid b.size
      have Ox_7 := Lib.hid (owni_later Ox_6.out b)
      have Oz_7 := Lib.hid (owni_later Oz_6.out b)
      obtain ⟨ay, cy, rfl, hcy, ty⟩ := OwnI.tab o
      have By := Lib.hid (OwnI.btw o)
      have Oy_7 := Lib.hid o
      clear ty hcy
      clear b o
      go_wp2_with fail
      refine (eqI_is (show decide (L = L) = true from decide_eq_true rfl) ax ay cx cy _ _ _ rfl rfl (OwnI.intA Ox_7.out).2.2 (OwnI.intA Oy_7.out).2.2 (by omega) (by omega)).mono ?_
      rintro e w8 ⟨rfl, b⟩
      have HB8 := Lib.hid (HB7.out.trans (b.mono HB7.out.size))
      have hs8 := Lib.hid b.size
      have Ox_8 := Lib.hid (owni_later Ox_7.out b)
      have Oz_8 := Lib.hid (owni_later Oz_7.out b)
      have Oy_8 := Lib.hid (owni_later Oy_7.out b)
      clear b
      go_wp2_with fail
      refine (toI_any aQ cQ M _ (HS.out.below HB8.out) hk).mono ?_
      rintro e w9 ⟨v, rfl, o, b⟩
      have HB9 := Lib.hid (HB8.out.trans (b.mono HB8.out.size))
      have hs9 := Lib.hid b.size
      have Oz_9 := Lib.hid (owni_later Oz_8.out b)
      obtain ⟨av, cv, rfl, hcv, tv⟩ := OwnI.tab o
      have Bv := Lib.hid (OwnI.btw o)
      have Ov_9 := Lib.hid o
      clear tv hcv
      clear b o
      go_wp2_with fail
      refine (eqI_is (show decide (M = M) = true from decide_eq_true rfl) az av cz cv _ _ _ rfl rfl (OwnI.intA Oz_9.out).2.2 (OwnI.intA Ov_9.out).2.2 (by omega) (by omega)).mono ?_
      rintro e w10 ⟨rfl, b⟩
      have HB10 := Lib.hid (HB9.out.trans (b.mono HB9.out.size))
      have hs10 := Lib.hid b.size
      have Oz_10 := Lib.hid (owni_later Oz_9.out b)
      have Ov_10 := Lib.hid (owni_later Ov_9.out b)
      clear b
      go_wp2_with fail
      go_ret
      exact ⟨rfl, HB10.out⟩
    · have hbig : (1048576 : Int) < (M.length : Int) := by omega
      clear hk
      go_enter Tryd.func8, Tryd.ntmps8
      go_wp2_with fail
      go_ret
      exact ⟨rfl, Below.refl _ _⟩
  · have hbig : (1048576 : Int) < (L.length : Int) := by omega
    clear hl
    go_enter Tryd.func8, Tryd.ntmps8
    go_wp2_with fail
    go_ret
    exact ⟨rfl, Below.refl _ _⟩

end Go.Proofs.YtnabcffpficgcaaDoor
