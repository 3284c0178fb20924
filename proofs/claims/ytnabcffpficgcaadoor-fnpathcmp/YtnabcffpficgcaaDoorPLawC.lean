/-
  The laws on drawn paths: which stands ahead.
-/
import Derived.Test.YtnabcffpficgcaaDoorPLawA
namespace Go.Proofs.YtnabcffpficgcaaDoor
open Go.RowKit
set_option linter.unusedSimpArgs false
set_option linter.unusedVariables false

set_option maxRecDepth 100000 in
set_option maxHeartbeats 1000000 in
theorem lawPathCmp (a0 : Option Addr) (len0 cap0 : Nat) (zs0 : List Int) (a1 : Option Addr) (len1 cap1 : Nat) (zs1 : List Int) (w : World) (h0 : IsRow w a0 len0 cap0 zs0) (h1 : IsRow w a1 len1 cap1 zs1) (p : Addr) (hE : EV w p) (hX : True) :
    Calls Tryd.prog 13 #[.slice a0 len0 cap0, .slice a1 len1 cap1] w fun e w' => e = .returned (.bool true) ∧ Below w.heap.size w w' := by
  have H0 := Lib.hid h0
  have H1 := Lib.hid h1
  have HE := Lib.hid hE
  have HX := Lib.hid hX
  clear h0 hE hX h1
  by_cases hl0 : (1048576 : Int) < (len0 : Int)
  · go_enter Tryd.func13, Tryd.ntmps13
    go_wp2_with fail
    go_ret
    exact ⟨rfl, Below.refl _ _⟩
  by_cases hl1 : (1048576 : Int) < (len1 : Int)
  · go_enter Tryd.func13, Tryd.ntmps13
    go_wp2_with fail
    go_ret
    exact ⟨rfl, Below.refl _ _⟩
  have HB0 := Lib.hid (Below.refl w.heap.size w)
  go_enter Tryd.func13, Tryd.ntmps13
  go_wp2_with fail
  refine (dPathCmp_any a0 len0 cap0 zs0 _ (isrow_later H0.out HB0.out)).mono ?_
  rintro e w1 ⟨v, v2, L, M, rfl, hl6, hm6, o, o2, b⟩
  have HB1 := Lib.hid (HB0.out.trans (b.mono HB0.out.size))
  have hs1 := Lib.hid b.size
  obtain ⟨ad, cd, rfl, hcd, td⟩ := OwnI.tab o
  have Bd := Lib.hid (OwnI.btw o)
  have Od_1 := Lib.hid o
  clear td hcd
  obtain ⟨ae, ce, rfl, hce, te⟩ := OwnI.tab o2
  have Be := Lib.hid (OwnI.btw o2)
  have Oe_1 := Lib.hid o2
  clear te hce b o o2
  generalize hU : pcmp L M = u
  have HU := Lib.hid hU
  have huu : (u != u) = false := by simp
  have hue : (u == u) = true := by simp
  clear hU
  go_wp2_with fail
  refine (icmp_is HU.out ad ae cd ce _ _ _ p rfl rfl (OwnI.intA Od_1.out).2.2 (OwnI.intA Oe_1.out).2.2 (by omega) (by omega) (HE.out.below HB1.out)).mono ?_
  rintro e w2 ⟨rfl, b⟩
  have HB2 := Lib.hid (HB1.out.trans (b.mono HB1.out.size))
  have hs2 := Lib.hid b.size
  have Od_2 := Lib.hid (owni_later Od_1.out b)
  have Oe_2 := Lib.hid (owni_later Oe_1.out b)
  clear b
  go_wp2_with fail
  refine (scmp_is HU.out ad ae cd ce _ _ _ rfl rfl (OwnI.intA Od_2.out).2.2 (OwnI.intA Oe_2.out).2.2 (OwnI.intA Od_2.out).2.1 (OwnI.intA Oe_2.out).2.1 (by omega) (by omega)).mono ?_
  rintro e w3 ⟨rfl, b⟩
  have HB3 := Lib.hid (HB2.out.trans (b.mono HB2.out.size))
  have hs3 := Lib.hid b.size
  have Od_3 := Lib.hid (owni_later Od_2.out b)
  have Oe_3 := Lib.hid (owni_later Oe_2.out b)
  clear b
  cases ho : pOk L with
  | false =>
    go_wp2_with fail
    refine (sok_is ho ad cd _ _ rfl (OwnI.intA Od_3.out).2.2 (OwnI.intA Od_3.out).2.1 (by omega)).mono ?_
    rintro e w4 ⟨rfl, b⟩
    have HB4 := Lib.hid (HB3.out.trans (b.mono HB3.out.size))
    have hs4 := Lib.hid b.size
    have Od_4 := Lib.hid (owni_later Od_3.out b)
    have Oe_4 := Lib.hid (owni_later Oe_3.out b)
    clear b
    go_wp2_with fail
    refine (scmp_is HU.out ad ae cd ce _ _ _ rfl rfl (OwnI.intA Od_4.out).2.2 (OwnI.intA Oe_4.out).2.2 (OwnI.intA Od_4.out).2.1 (OwnI.intA Oe_4.out).2.1 (by omega) (by omega)).mono ?_
    rintro e w5 ⟨rfl, b⟩
    have HB5 := Lib.hid (HB4.out.trans (b.mono HB4.out.size))
    have hs5 := Lib.hid b.size
    have Od_5 := Lib.hid (owni_later Od_4.out b)
    have Oe_5 := Lib.hid (owni_later Oe_4.out b)
    clear b
    go_wp2_with fail
    go_ret
    exact ⟨rfl, HB5.out⟩
  | true =>
    go_wp2_with fail
    refine (sok_is ho ad cd _ _ rfl (OwnI.intA Od_3.out).2.2 (OwnI.intA Od_3.out).2.1 (by omega)).mono ?_
    rintro e w4 ⟨rfl, b⟩
    have HB4 := Lib.hid (HB3.out.trans (b.mono HB3.out.size))
    have hs4 := Lib.hid b.size
    have Od_4 := Lib.hid (owni_later Od_3.out b)
    have Oe_4 := Lib.hid (owni_later Oe_3.out b)
    clear b
    cases hq : pOk M with
    | false =>
      go_wp2_with fail
      refine (sok_is hq ae ce _ _ rfl (OwnI.intA Oe_4.out).2.2 (OwnI.intA Oe_4.out).2.1 (by omega)).mono ?_
      rintro e w5 ⟨rfl, b⟩
      have HB5 := Lib.hid (HB4.out.trans (b.mono HB4.out.size))
      have hs5 := Lib.hid b.size
      have Od_5 := Lib.hid (owni_later Od_4.out b)
      have Oe_5 := Lib.hid (owni_later Oe_4.out b)
      clear b
      go_wp2_with fail
      refine (scmp_is HU.out ad ae cd ce _ _ _ rfl rfl (OwnI.intA Od_5.out).2.2 (OwnI.intA Oe_5.out).2.2 (OwnI.intA Od_5.out).2.1 (OwnI.intA Oe_5.out).2.1 (by omega) (by omega)).mono ?_
      rintro e w6 ⟨rfl, b⟩
      have HB6 := Lib.hid (HB5.out.trans (b.mono HB5.out.size))
      have hs6 := Lib.hid b.size
      have Od_6 := Lib.hid (owni_later Od_5.out b)
      have Oe_6 := Lib.hid (owni_later Oe_5.out b)
      clear b
      go_wp2_with fail
      go_ret
      exact ⟨rfl, HB6.out⟩
    | true =>
      go_wp2_with fail
      refine (sok_is hq ae ce _ _ rfl (OwnI.intA Oe_4.out).2.2 (OwnI.intA Oe_4.out).2.1 (by omega)).mono ?_
      rintro e w5 ⟨rfl, b⟩
      have HB5 := Lib.hid (HB4.out.trans (b.mono HB4.out.size))
      have hs5 := Lib.hid b.size
      have Od_5 := Lib.hid (owni_later Od_4.out b)
      have Oe_5 := Lib.hid (owni_later Oe_4.out b)
      clear b
      have HL := Lib.hid ((pOk_iff L).1 ho)
      have HM := Lib.hid ((pOk_iff M).1 hq)
      have HZ : Hid (lcmp L M = u) := Lib.hid (by rw [← pcmp_yes HL.out HM.out]; exact HU.out)
      clear ho hq
      have t1 : (len1 : Int).tmod 5 = ((len1 % 5 : Nat) : Int) := by rw [Int.tmod_eq_emod_of_nonneg (by omega)]; omega
      have hr5 : len1 % 5 < 5 := by omega
      generalize len1 % 5 = r at *
      obtain ⟨U, y, hUy⟩ : ∃ U y, padd L (1 + (r : Int)) = (U, y) := ⟨_, _, rfl⟩
      obtain ⟨V, z, hVz⟩ : ∃ V z, padd M (1 + (r : Int)) = (V, z) := ⟨_, _, rfl⟩
      have hUl : U.length ≤ 5 := by have := padd_len L (1 + (r : Int)); rw [hUy] at this; exact this
      have hVl : V.length ≤ 5 := by have := padd_len M (1 + (r : Int)); rw [hVz] at this; exact this
      have HUy := Lib.hid hUy
      have HVz := Lib.hid hVz
      clear hUy hVz
      have hw : IntKind.i64.wrap (1 + (r : Int)) = 1 + (r : Int) := by rw [IntKind.wrap_i64]; omega
      go_wp2_with fail
      refine (iadd_is HUy.out ad cd _ _ p rfl (by omega) (OwnI.intA Od_5.out).2.2 (HE.out.below HB5.out)).mono ?_
      rintro e w6 ⟨v, rfl, o, b⟩
      have HB6 := Lib.hid (HB5.out.trans (b.mono HB5.out.size))
      have hs6 := Lib.hid b.size
      have Od_6 := Lib.hid (owni_later Od_5.out b)
      have Oe_6 := Lib.hid (owni_later Oe_5.out b)
      obtain ⟨ax, cx, rfl, hcx, tx⟩ := OwnI.tab o
      have Bx := Lib.hid (OwnI.btw o)
      have Ox_6 := Lib.hid o
      clear tx hcx
      clear b o
      go_wp2_with fail
      refine (iadd_is HVz.out ae ce _ _ p rfl (by omega) (OwnI.intA Oe_6.out).2.2 (HE.out.below HB6.out)).mono ?_
      rintro e w7 ⟨v, rfl, o, b⟩
      have HB7 := Lib.hid (HB6.out.trans (b.mono HB6.out.size))
      have hs7 := Lib.hid b.size
      have Od_7 := Lib.hid (owni_later Od_6.out b)
      have Oe_7 := Lib.hid (owni_later Oe_6.out b)
      have Ox_7 := Lib.hid (owni_later Ox_6.out b)
      obtain ⟨ay, cy, rfl, hcy, ty⟩ := OwnI.tab o
      have By := Lib.hid (OwnI.btw o)
      have Oy_7 := Lib.hid o
      clear ty hcy
      clear b o
      have HXY : Hid (y = true → z = true → pcmp U V = u) := Lib.hid (fun hy hz => by
        subst hy hz
        by_cases q1 : Path ((1 + (r : Int)) :: L)
        · by_cases q2 : Path ((1 + (r : Int)) :: M)
          · have e1 := HUy.out; rw [padd_yes q1] at e1
            have e2 := HVz.out; rw [padd_yes q2] at e2
            obtain rfl : (1 + (r : Int)) :: L = U := by simpa using e1
            obtain rfl : (1 + (r : Int)) :: M = V := by simpa using e2
            rw [pcmp_yes q1 q2, lcmp_cons]; exact HZ.out
          · have e2 := HVz.out; rw [padd_no q2] at e2; simp at e2
        · have e1 := HUy.out; rw [padd_no q1] at e1; simp at e1)
      have hv : u = -1 ∨ u = 0 ∨ u = 1 := by rw [← HZ.out]; exact lcmp_vals L M
      have HBA : Hid (pcmp M L = -u) := Lib.hid (by rw [pcmp_yes HM.out HL.out, lcmp_neg, HZ.out])
      have HEQ : Hid (u = 0 ↔ L = M) := Lib.hid (by rw [← HZ.out]; exact lcmp_zero L M)
      have HLT : Hid (L.length < M.length → u = -1) := Lib.hid (fun h => by rw [← HZ.out]; exact lcmp_lt h)
      clear huu hue
      rcases hv with rfl | rfl | rfl
      · have hba : pcmp M L = 1 := by simpa using HBA.out
        have heq : decide (L = M) = false := by have := HEQ.out; simp at this; simpa using this
        by_cases hge : (M.length : Int) ≤ (L.length : Int)
        · go_wp2_with fail
          refine (icmp_is hba ae ad ce cd _ _ _ p rfl rfl (OwnI.intA Oe_7.out).2.2 (OwnI.intA Od_7.out).2.2 (by omega) (by omega) (HE.out.below HB7.out)).mono ?_
          rintro e w8 ⟨rfl, b⟩
          have HB8 := Lib.hid (HB7.out.trans (b.mono HB7.out.size))
          have hs8 := Lib.hid b.size
          have Od_8 := Lib.hid (owni_later Od_7.out b)
          have Oe_8 := Lib.hid (owni_later Oe_7.out b)
          have Ox_8 := Lib.hid (owni_later Ox_7.out b)
          have Oy_8 := Lib.hid (owni_later Oy_7.out b)
          clear b
          go_wp2_with fail
          refine (lyI_is heq ad ae cd ce _ _ _ rfl rfl (OwnI.intA Od_8.out).2.2 (OwnI.intA Oe_8.out).2.2 (by omega) (by omega)).mono ?_
          rintro e w9 ⟨rfl, b⟩
          have HB9 := Lib.hid (HB8.out.trans (b.mono HB8.out.size))
          have hs9 := Lib.hid b.size
          have Od_9 := Lib.hid (owni_later Od_8.out b)
          have Oe_9 := Lib.hid (owni_later Oe_8.out b)
          have Ox_9 := Lib.hid (owni_later Ox_8.out b)
          have Oy_9 := Lib.hid (owni_later Oy_8.out b)
          clear b
          cases y with
          | false =>
            go_wp2_with fail
            go_ret
            exact ⟨rfl, HB9.out⟩
          | true =>
            cases z with
            | false =>
              go_wp2_with fail
              go_ret
              exact ⟨rfl, HB9.out⟩
            | true =>
              have hxy := HXY.out rfl rfl
              go_wp2_with fail
              refine (icmp_is hxy ax ay cx cy _ _ _ p rfl rfl (OwnI.intA Ox_9.out).2.2 (OwnI.intA Oy_9.out).2.2 (by omega) (by omega) (HE.out.below HB9.out)).mono ?_
              rintro e w10 ⟨rfl, b⟩
              have HB10 := Lib.hid (HB9.out.trans (b.mono HB9.out.size))
              have hs10 := Lib.hid b.size
              have Od_10 := Lib.hid (owni_later Od_9.out b)
              have Oe_10 := Lib.hid (owni_later Oe_9.out b)
              have Ox_10 := Lib.hid (owni_later Ox_9.out b)
              have Oy_10 := Lib.hid (owni_later Oy_9.out b)
              clear b
              go_wp2_with fail
              go_ret
              exact ⟨rfl, HB10.out⟩
        · go_wp2_with fail
          refine (icmp_is hba ae ad ce cd _ _ _ p rfl rfl (OwnI.intA Oe_7.out).2.2 (OwnI.intA Od_7.out).2.2 (by omega) (by omega) (HE.out.below HB7.out)).mono ?_
          rintro e w8 ⟨rfl, b⟩
          have HB8 := Lib.hid (HB7.out.trans (b.mono HB7.out.size))
          have hs8 := Lib.hid b.size
          have Od_8 := Lib.hid (owni_later Od_7.out b)
          have Oe_8 := Lib.hid (owni_later Oe_7.out b)
          have Ox_8 := Lib.hid (owni_later Ox_7.out b)
          have Oy_8 := Lib.hid (owni_later Oy_7.out b)
          clear b
          go_wp2_with fail
          refine (lyI_is heq ad ae cd ce _ _ _ rfl rfl (OwnI.intA Od_8.out).2.2 (OwnI.intA Oe_8.out).2.2 (by omega) (by omega)).mono ?_
          rintro e w9 ⟨rfl, b⟩
          have HB9 := Lib.hid (HB8.out.trans (b.mono HB8.out.size))
          have hs9 := Lib.hid b.size
          have Od_9 := Lib.hid (owni_later Od_8.out b)
          have Oe_9 := Lib.hid (owni_later Oe_8.out b)
          have Ox_9 := Lib.hid (owni_later Ox_8.out b)
          have Oy_9 := Lib.hid (owni_later Oy_8.out b)
          clear b
          cases y with
          | false =>
            go_wp2_with fail
            go_ret
            exact ⟨rfl, HB9.out⟩
          | true =>
            cases z with
            | false =>
              go_wp2_with fail
              go_ret
              exact ⟨rfl, HB9.out⟩
            | true =>
              have hxy := HXY.out rfl rfl
              go_wp2_with fail
              refine (icmp_is hxy ax ay cx cy _ _ _ p rfl rfl (OwnI.intA Ox_9.out).2.2 (OwnI.intA Oy_9.out).2.2 (by omega) (by omega) (HE.out.below HB9.out)).mono ?_
              rintro e w10 ⟨rfl, b⟩
              have HB10 := Lib.hid (HB9.out.trans (b.mono HB9.out.size))
              have hs10 := Lib.hid b.size
              have Od_10 := Lib.hid (owni_later Od_9.out b)
              have Oe_10 := Lib.hid (owni_later Oe_9.out b)
              have Ox_10 := Lib.hid (owni_later Ox_9.out b)
              have Oy_10 := Lib.hid (owni_later Oy_9.out b)
              clear b
              go_wp2_with fail
              go_ret
              exact ⟨rfl, HB10.out⟩
      · have hba : pcmp M L = 0 := by simpa using HBA.out
        have heq : decide (L = M) = true := by have := HEQ.out; simpa using this
        have hge : (M.length : Int) ≤ (L.length : Int) := by
          by_cases q : L.length < M.length
          · have := HLT.out q; omega
          · omega
        go_wp2_with fail
        refine (icmp_is hba ae ad ce cd _ _ _ p rfl rfl (OwnI.intA Oe_7.out).2.2 (OwnI.intA Od_7.out).2.2 (by omega) (by omega) (HE.out.below HB7.out)).mono ?_
        rintro e w8 ⟨rfl, b⟩
        have HB8 := Lib.hid (HB7.out.trans (b.mono HB7.out.size))
        have hs8 := Lib.hid b.size
        have Od_8 := Lib.hid (owni_later Od_7.out b)
        have Oe_8 := Lib.hid (owni_later Oe_7.out b)
        have Ox_8 := Lib.hid (owni_later Ox_7.out b)
        have Oy_8 := Lib.hid (owni_later Oy_7.out b)
        clear b
        go_wp2_with fail
        refine (lyI_is heq ad ae cd ce _ _ _ rfl rfl (OwnI.intA Od_8.out).2.2 (OwnI.intA Oe_8.out).2.2 (by omega) (by omega)).mono ?_
        rintro e w9 ⟨rfl, b⟩
        have HB9 := Lib.hid (HB8.out.trans (b.mono HB8.out.size))
        have hs9 := Lib.hid b.size
        have Od_9 := Lib.hid (owni_later Od_8.out b)
        have Oe_9 := Lib.hid (owni_later Oe_8.out b)
        have Ox_9 := Lib.hid (owni_later Ox_8.out b)
        have Oy_9 := Lib.hid (owni_later Oy_8.out b)
        clear b
        cases y with
        | false =>
          go_wp2_with fail
          go_ret
          exact ⟨rfl, HB9.out⟩
        | true =>
          cases z with
          | false =>
            go_wp2_with fail
            go_ret
            exact ⟨rfl, HB9.out⟩
          | true =>
            have hxy := HXY.out rfl rfl
            go_wp2_with fail
            refine (icmp_is hxy ax ay cx cy _ _ _ p rfl rfl (OwnI.intA Ox_9.out).2.2 (OwnI.intA Oy_9.out).2.2 (by omega) (by omega) (HE.out.below HB9.out)).mono ?_
            rintro e w10 ⟨rfl, b⟩
            have HB10 := Lib.hid (HB9.out.trans (b.mono HB9.out.size))
            have hs10 := Lib.hid b.size
            have Od_10 := Lib.hid (owni_later Od_9.out b)
            have Oe_10 := Lib.hid (owni_later Oe_9.out b)
            have Ox_10 := Lib.hid (owni_later Ox_9.out b)
            have Oy_10 := Lib.hid (owni_later Oy_9.out b)
            clear b
            go_wp2_with fail
            go_ret
            exact ⟨rfl, HB10.out⟩
      · have hba : pcmp M L = -1 := by simpa using HBA.out
        have heq : decide (L = M) = false := by have := HEQ.out; simp at this; simpa using this
        have hge : (M.length : Int) ≤ (L.length : Int) := by
          by_cases q : L.length < M.length
          · have := HLT.out q; omega
          · omega
        go_wp2_with fail
        refine (icmp_is hba ae ad ce cd _ _ _ p rfl rfl (OwnI.intA Oe_7.out).2.2 (OwnI.intA Od_7.out).2.2 (by omega) (by omega) (HE.out.below HB7.out)).mono ?_
        rintro e w8 ⟨rfl, b⟩
        have HB8 := Lib.hid (HB7.out.trans (b.mono HB7.out.size))
        have hs8 := Lib.hid b.size
        have Od_8 := Lib.hid (owni_later Od_7.out b)
        have Oe_8 := Lib.hid (owni_later Oe_7.out b)
        have Ox_8 := Lib.hid (owni_later Ox_7.out b)
        have Oy_8 := Lib.hid (owni_later Oy_7.out b)
        clear b
        go_wp2_with fail
        refine (lyI_is heq ad ae cd ce _ _ _ rfl rfl (OwnI.intA Od_8.out).2.2 (OwnI.intA Oe_8.out).2.2 (by omega) (by omega)).mono ?_
        rintro e w9 ⟨rfl, b⟩
        have HB9 := Lib.hid (HB8.out.trans (b.mono HB8.out.size))
        have hs9 := Lib.hid b.size
        have Od_9 := Lib.hid (owni_later Od_8.out b)
        have Oe_9 := Lib.hid (owni_later Oe_8.out b)
        have Ox_9 := Lib.hid (owni_later Ox_8.out b)
        have Oy_9 := Lib.hid (owni_later Oy_8.out b)
        clear b
        cases y with
        | false =>
          go_wp2_with fail
          go_ret
          exact ⟨rfl, HB9.out⟩
        | true =>
          cases z with
          | false =>
            go_wp2_with fail
            go_ret
            exact ⟨rfl, HB9.out⟩
          | true =>
            have hxy := HXY.out rfl rfl
            go_wp2_with fail
            refine (icmp_is hxy ax ay cx cy _ _ _ p rfl rfl (OwnI.intA Ox_9.out).2.2 (OwnI.intA Oy_9.out).2.2 (by omega) (by omega) (HE.out.below HB9.out)).mono ?_
            rintro e w10 ⟨rfl, b⟩
            have HB10 := Lib.hid (HB9.out.trans (b.mono HB9.out.size))
            have hs10 := Lib.hid b.size
            have Od_10 := Lib.hid (owni_later Od_9.out b)
            have Oe_10 := Lib.hid (owni_later Oe_9.out b)
            have Ox_10 := Lib.hid (owni_later Ox_9.out b)
            have Oy_10 := Lib.hid (owni_later Oy_9.out b)
            clear b
            go_wp2_with fail
            go_ret
            exact ⟨rfl, HB10.out⟩

set_option maxRecDepth 100000 in
set_option maxHeartbeats 1000000 in
theorem lawPathThree (a0 : Option Addr) (len0 cap0 : Nat) (zs0 : List Int) (a1 : Option Addr) (len1 cap1 : Nat) (zs1 : List Int) (w : World) (h0 : IsRow w a0 len0 cap0 zs0) (h1 : IsRow w a1 len1 cap1 zs1) (p : Addr) (hE : EV w p) (hX : True) :
    Calls Tryd.prog 14 #[.slice a0 len0 cap0, .slice a1 len1 cap1] w fun e w' => e = .returned (.bool true) ∧ Below w.heap.size w w' := by
  have H0 := Lib.hid h0
  have H1 := Lib.hid h1
  have HE := Lib.hid hE
  have HX := Lib.hid hX
  clear h0 hE hX h1
  by_cases hl0 : (1048576 : Int) < (len0 : Int)
  · go_enter Tryd.func14, Tryd.ntmps14
    go_wp2_with fail
    go_ret
    exact ⟨rfl, Below.refl _ _⟩
  by_cases hl1 : (1048576 : Int) < (len1 : Int)
  · go_enter Tryd.func14, Tryd.ntmps14
    go_wp2_with fail
    go_ret
    exact ⟨rfl, Below.refl _ _⟩
  have HB0 := Lib.hid (Below.refl w.heap.size w)
  go_enter Tryd.func14, Tryd.ntmps14
  go_wp2_with fail
  refine (dPathCmp_any a0 len0 cap0 zs0 _ (isrow_later H0.out HB0.out)).mono ?_
  rintro e w1 ⟨v, v2, L, M, rfl, hl6, hm6, o, o2, b⟩
  have HB1 := Lib.hid (HB0.out.trans (b.mono HB0.out.size))
  have hs1 := Lib.hid b.size
  obtain ⟨ad, cd, rfl, hcd, td⟩ := OwnI.tab o
  have Bd := Lib.hid (OwnI.btw o)
  have Od_1 := Lib.hid o
  clear td hcd
  obtain ⟨ae, ce, rfl, hce, te⟩ := OwnI.tab o2
  have Be := Lib.hid (OwnI.btw o2)
  have Oe_1 := Lib.hid o2
  clear te hce b o o2
  generalize hU : pcmp L M = u
  have HU := Lib.hid hU
  have huu : (u != u) = false := by simp
  have hue : (u == u) = true := by simp
  clear hU
  go_wp2_with fail
  refine (icmp_is HU.out ad ae cd ce _ _ _ p rfl rfl (OwnI.intA Od_1.out).2.2 (OwnI.intA Oe_1.out).2.2 (by omega) (by omega) (HE.out.below HB1.out)).mono ?_
  rintro e w2 ⟨rfl, b⟩
  have HB2 := Lib.hid (HB1.out.trans (b.mono HB1.out.size))
  have hs2 := Lib.hid b.size
  have Od_2 := Lib.hid (owni_later Od_1.out b)
  have Oe_2 := Lib.hid (owni_later Oe_1.out b)
  clear b
  go_wp2_with fail
  refine (scmp_is HU.out ad ae cd ce _ _ _ rfl rfl (OwnI.intA Od_2.out).2.2 (OwnI.intA Oe_2.out).2.2 (OwnI.intA Od_2.out).2.1 (OwnI.intA Oe_2.out).2.1 (by omega) (by omega)).mono ?_
  rintro e w3 ⟨rfl, b⟩
  have HB3 := Lib.hid (HB2.out.trans (b.mono HB2.out.size))
  have hs3 := Lib.hid b.size
  have Od_3 := Lib.hid (owni_later Od_2.out b)
  have Oe_3 := Lib.hid (owni_later Oe_2.out b)
  clear b
  cases ho : pOk L with
  | false =>
    go_wp2_with fail
    refine (sok_is ho ad cd _ _ rfl (OwnI.intA Od_3.out).2.2 (OwnI.intA Od_3.out).2.1 (by omega)).mono ?_
    rintro e w4 ⟨rfl, b⟩
    have HB4 := Lib.hid (HB3.out.trans (b.mono HB3.out.size))
    have hs4 := Lib.hid b.size
    have Od_4 := Lib.hid (owni_later Od_3.out b)
    have Oe_4 := Lib.hid (owni_later Oe_3.out b)
    clear b
    go_wp2_with fail
    refine (scmp_is HU.out ad ae cd ce _ _ _ rfl rfl (OwnI.intA Od_4.out).2.2 (OwnI.intA Oe_4.out).2.2 (OwnI.intA Od_4.out).2.1 (OwnI.intA Oe_4.out).2.1 (by omega) (by omega)).mono ?_
    rintro e w5 ⟨rfl, b⟩
    have HB5 := Lib.hid (HB4.out.trans (b.mono HB4.out.size))
    have hs5 := Lib.hid b.size
    have Od_5 := Lib.hid (owni_later Od_4.out b)
    have Oe_5 := Lib.hid (owni_later Oe_4.out b)
    clear b
    go_wp2_with fail
    go_ret
    exact ⟨rfl, HB5.out⟩
  | true =>
    go_wp2_with fail
    refine (sok_is ho ad cd _ _ rfl (OwnI.intA Od_3.out).2.2 (OwnI.intA Od_3.out).2.1 (by omega)).mono ?_
    rintro e w4 ⟨rfl, b⟩
    have HB4 := Lib.hid (HB3.out.trans (b.mono HB3.out.size))
    have hs4 := Lib.hid b.size
    have Od_4 := Lib.hid (owni_later Od_3.out b)
    have Oe_4 := Lib.hid (owni_later Oe_3.out b)
    clear b
    cases hq : pOk M with
    | false =>
      go_wp2_with fail
      refine (sok_is hq ae ce _ _ rfl (OwnI.intA Oe_4.out).2.2 (OwnI.intA Oe_4.out).2.1 (by omega)).mono ?_
      rintro e w5 ⟨rfl, b⟩
      have HB5 := Lib.hid (HB4.out.trans (b.mono HB4.out.size))
      have hs5 := Lib.hid b.size
      have Od_5 := Lib.hid (owni_later Od_4.out b)
      have Oe_5 := Lib.hid (owni_later Oe_4.out b)
      clear b
      go_wp2_with fail
      refine (scmp_is HU.out ad ae cd ce _ _ _ rfl rfl (OwnI.intA Od_5.out).2.2 (OwnI.intA Oe_5.out).2.2 (OwnI.intA Od_5.out).2.1 (OwnI.intA Oe_5.out).2.1 (by omega) (by omega)).mono ?_
      rintro e w6 ⟨rfl, b⟩
      have HB6 := Lib.hid (HB5.out.trans (b.mono HB5.out.size))
      have hs6 := Lib.hid b.size
      have Od_6 := Lib.hid (owni_later Od_5.out b)
      have Oe_6 := Lib.hid (owni_later Oe_5.out b)
      clear b
      go_wp2_with fail
      go_ret
      exact ⟨rfl, HB6.out⟩
    | true =>
      go_wp2_with fail
      refine (sok_is hq ae ce _ _ rfl (OwnI.intA Oe_4.out).2.2 (OwnI.intA Oe_4.out).2.1 (by omega)).mono ?_
      rintro e w5 ⟨rfl, b⟩
      have HB5 := Lib.hid (HB4.out.trans (b.mono HB4.out.size))
      have hs5 := Lib.hid b.size
      have Od_5 := Lib.hid (owni_later Od_4.out b)
      have Oe_5 := Lib.hid (owni_later Oe_4.out b)
      clear b
      have HL := Lib.hid ((pOk_iff L).1 ho)
      have HM := Lib.hid ((pOk_iff M).1 hq)
      have HZ : Hid (lcmp L M = u) := Lib.hid (by rw [← pcmp_yes HL.out HM.out]; exact HU.out)
      clear ho hq
      go_wp2_with fail
      refine (dPathCmp_any a1 len1 cap1 zs1 _ (isrow_later H1.out HB5.out)).mono ?_
      rintro e w6 ⟨v, v2, N, N2, rfl, hn6, hn62, o, o2, b⟩
      have HB6 := Lib.hid (HB5.out.trans (b.mono HB5.out.size))
      have hs6 := Lib.hid b.size
      have Od_6 := Lib.hid (owni_later Od_5.out b)
      have Oe_6 := Lib.hid (owni_later Oe_5.out b)
      obtain ⟨af, cf, rfl, hcf, tf⟩ := OwnI.tab o
      have Bf := Lib.hid (OwnI.btw o)
      have Of_6 := Lib.hid o
      clear tf hcf
      obtain ⟨af2, cf2, rfl, hcf2, tf2⟩ := OwnI.tab o2
      clear b o o2 hcf2 tf2
      cases hc : pOk N with
      | false =>
        go_wp2_with fail
        refine (iok_is hc af cf _ _ p rfl (by omega) (OwnI.intA Of_6.out).2.2 (HE.out.below HB6.out)).mono ?_
        rintro e w7 ⟨rfl, b⟩
        have HB7 := Lib.hid (HB6.out.trans (b.mono HB6.out.size))
        have hs7 := Lib.hid b.size
        have Od_7 := Lib.hid (owni_later Od_6.out b)
        have Oe_7 := Lib.hid (owni_later Oe_6.out b)
        have Of_7 := Lib.hid (owni_later Of_6.out b)
        clear b
        go_wp2_with fail
        go_ret
        exact ⟨rfl, HB7.out⟩
      | true =>
        have HN := Lib.hid ((pOk_iff N).1 hc)
        go_wp2_with fail
        refine (iok_is hc af cf _ _ p rfl (by omega) (OwnI.intA Of_6.out).2.2 (HE.out.below HB6.out)).mono ?_
        rintro e w7 ⟨rfl, b⟩
        have HB7 := Lib.hid (HB6.out.trans (b.mono HB6.out.size))
        have hs7 := Lib.hid b.size
        have Od_7 := Lib.hid (owni_later Od_6.out b)
        have Oe_7 := Lib.hid (owni_later Oe_6.out b)
        have Of_7 := Lib.hid (owni_later Of_6.out b)
        clear b
        by_cases hu : u = -1
        · subst hu
          generalize hV : pcmp M N = v
          have HV := Lib.hid hV
          clear hV
          by_cases hv : v = -1
          · subst hv
            have hW : pcmp L N = -1 := by
              have h2 := HV.out
              rw [pcmp_yes HM.out HN.out] at h2
              rw [pcmp_yes HL.out HN.out]; exact lcmp_trans HZ.out h2
            go_wp2_with fail
            refine (icmp_is HV.out ae af ce cf _ _ _ p rfl rfl (OwnI.intA Oe_7.out).2.2 (OwnI.intA Of_7.out).2.2 (by omega) (by omega) (HE.out.below HB7.out)).mono ?_
            rintro e w8 ⟨rfl, b⟩
            have HB8 := Lib.hid (HB7.out.trans (b.mono HB7.out.size))
            have hs8 := Lib.hid b.size
            have Od_8 := Lib.hid (owni_later Od_7.out b)
            have Oe_8 := Lib.hid (owni_later Oe_7.out b)
            have Of_8 := Lib.hid (owni_later Of_7.out b)
            clear b
            go_wp2_with fail
            refine (icmp_is hW ad af cd cf _ _ _ p rfl rfl (OwnI.intA Od_8.out).2.2 (OwnI.intA Of_8.out).2.2 (by omega) (by omega) (HE.out.below HB8.out)).mono ?_
            rintro e w9 ⟨rfl, b⟩
            have HB9 := Lib.hid (HB8.out.trans (b.mono HB8.out.size))
            have hs9 := Lib.hid b.size
            have Od_9 := Lib.hid (owni_later Od_8.out b)
            have Oe_9 := Lib.hid (owni_later Oe_8.out b)
            have Of_9 := Lib.hid (owni_later Of_8.out b)
            clear b
            go_wp2_with fail
            go_ret
            exact ⟨rfl, HB9.out⟩
          · have hv1 : (v != -1) = true := by simpa using hv
            clear hv
            go_wp2_with fail
            refine (icmp_is HV.out ae af ce cf _ _ _ p rfl rfl (OwnI.intA Oe_7.out).2.2 (OwnI.intA Of_7.out).2.2 (by omega) (by omega) (HE.out.below HB7.out)).mono ?_
            rintro e w8 ⟨rfl, b⟩
            have HB8 := Lib.hid (HB7.out.trans (b.mono HB7.out.size))
            have hs8 := Lib.hid b.size
            have Od_8 := Lib.hid (owni_later Od_7.out b)
            have Oe_8 := Lib.hid (owni_later Oe_7.out b)
            have Of_8 := Lib.hid (owni_later Of_7.out b)
            clear b
            go_wp2_with fail
            go_ret
            exact ⟨rfl, HB8.out⟩
        · have hu1 : (u != -1) = true := by simpa using hu
          clear hu
          go_wp2_with fail
          go_ret
          exact ⟨rfl, HB7.out⟩

end Go.Proofs.YtnabcffpficgcaaDoor
