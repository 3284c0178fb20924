/-
  The laws on texts of paths: exact, and two paths have two texts.
-/
import Derived.Test.YtnabcffpficgcaaDoorPText
import Derived.Test.YtnabcffpficgcaaDoorPLawA
namespace Go.Proofs.YtnabcffpficgcaaDoor
open Go.RowKit
set_option linter.unusedSimpArgs false
set_option linter.unusedVariables false

set_option maxRecDepth 100000 in
set_option maxHeartbeats 2000000 in
theorem exactPathText_walk (aP : Option Addr) (cP : Nat) (L : List Int) (w : World) (hT : IntA w aP L) (hcP : L.length ≤ cP) (hn : L.length ≤ 9223372036854775807) (p : Addr) (hE : EV w p) (_ : True) :
    Calls Tryd.prog 6 #[.slice aP L.length cP] w fun e w' => e = .returned (.bool true) ∧ Below w.heap.size w w' := by
  have HT := Lib.hid hT
  have HE := Lib.hid hE
  clear hT hE
  by_cases hl : L.length ≤ 1048576
  · have HB0 := Lib.hid (Below.refl w.heap.size w)
    generalize hU : ptext L = s
    have HU := Lib.hid hU
    have hse : (s.toList == s.toList) = true := by simp
    have hsn : (s.toList != s.toList) = false := by simp
    clear hU
    go_enter Tryd.func6, Tryd.ntmps6
    go_wp2_with fail
    refine (toI_any aP cP L _ (HT.out.below HB0.out) hl).mono ?_
    rintro e w1 ⟨v, rfl, o, b⟩
    have HB1 := Lib.hid (HB0.out.trans (b.mono HB0.out.size))
    have hs1 := Lib.hid b.size
    obtain ⟨aq, cq, rfl, hcq, tq⟩ := OwnI.tab o
    have Bq := Lib.hid (OwnI.btw o)
    have Oq_1 := Lib.hid o
    clear tq hcq
    clear b o
    go_wp2_with fail
    refine (stext_is HU.out aq cq _ _ rfl (OwnI.intA Oq_1.out).2.2 (OwnI.intA Oq_1.out).2.1 (by omega)).mono ?_
    rintro e w2 ⟨rfl, b⟩
    have HB2 := Lib.hid (HB1.out.trans (b.mono HB1.out.size))
    have hs2 := Lib.hid b.size
    have Oq_2 := Lib.hid (owni_later Oq_1.out b)
    clear b
    go_wp2_with fail
    refine (toI_any aP cP L _ (HT.out.below HB2.out) hl).mono ?_
    rintro e w3 ⟨v, rfl, o, b⟩
    have HB3 := Lib.hid (HB2.out.trans (b.mono HB2.out.size))
    have hs3 := Lib.hid b.size
    obtain ⟨ax, cx, rfl, hcx, tx⟩ := OwnI.tab o
    have Bx := Lib.hid (OwnI.btw o)
    have Ox_3 := Lib.hid o
    clear tx hcx
    clear b o
    go_wp2_with fail
    refine (itext_is HU.out ax cx _ _ p rfl (by omega) (OwnI.intA Ox_3.out).2.2 (HE.out.below HB3.out)).mono ?_
    rintro e w4 ⟨rfl, b⟩
    have HB4 := Lib.hid (HB3.out.trans (b.mono HB3.out.size))
    have hs4 := Lib.hid b.size
    have Ox_4 := Lib.hid (owni_later Ox_3.out b)
    clear b
    go_wp2_with fail
    refine (toI_any aP cP L _ (HT.out.below HB4.out) hl).mono ?_
    rintro e w5 ⟨v, rfl, o, b⟩
    have HB5 := Lib.hid (HB4.out.trans (b.mono HB4.out.size))
    have hs5 := Lib.hid b.size
    have Ox_5 := Lib.hid (owni_later Ox_4.out b)
    obtain ⟨ay, cy, rfl, hcy, ty⟩ := OwnI.tab o
    have By := Lib.hid (OwnI.btw o)
    have Oy_5 := Lib.hid o
    clear ty hcy
    clear b o
    go_wp2_with fail
    refine (eqI_is (show decide (L = L) = true from decide_eq_true rfl) ax ay cx cy _ _ _ rfl rfl (OwnI.intA Ox_5.out).2.2 (OwnI.intA Oy_5.out).2.2 (by omega) (by omega)).mono ?_
    rintro e w6 ⟨rfl, b⟩
    have HB6 := Lib.hid (HB5.out.trans (b.mono HB5.out.size))
    have hs6 := Lib.hid b.size
    have Ox_6 := Lib.hid (owni_later Ox_5.out b)
    have Oy_6 := Lib.hid (owni_later Oy_5.out b)
    clear b
    go_wp2_with fail
    go_ret
    exact ⟨rfl, HB6.out⟩
  · have hbig : (1048576 : Int) < (L.length : Int) := by omega
    clear hl
    go_enter Tryd.func6, Tryd.ntmps6
    go_wp2_with fail
    go_ret
    exact ⟨rfl, Below.refl _ _⟩

set_option maxRecDepth 100000 in
set_option maxHeartbeats 1000000 in
theorem lawPathTexts (a0 : Option Addr) (len0 cap0 : Nat) (zs0 : List Int) (w : World) (h0 : IsRow w a0 len0 cap0 zs0) (p : Addr) (hE : EV w p) (hX : True) :
    Calls Tryd.prog 17 #[.slice a0 len0 cap0] w fun e w' => e = .returned (.bool true) ∧ Below w.heap.size w w' := by
  have H0 := Lib.hid h0
  have HE := Lib.hid hE
  have HX := Lib.hid hX
  clear h0 hE hX
  by_cases hl0 : (1048576 : Int) < (len0 : Int)
  · go_enter Tryd.func17, Tryd.ntmps17
    go_wp2_with fail
    go_ret
    exact ⟨rfl, Below.refl _ _⟩
  have HB0 := Lib.hid (Below.refl w.heap.size w)
  go_enter Tryd.func17, Tryd.ntmps17
  go_wp2_with fail
  refine (dPathCmp_any a0 len0 cap0 zs0 _ (isrow_later H0.out HB0.out)).mono ?_
  rintro e w1 ⟨v, v2, L, M, rfl, hl6, hm6, o, o2, b⟩
  have HB1 := Lib.hid (HB0.out.trans (b.mono HB0.out.size))
  have hs1 := Lib.hid b.size
  obtain ⟨ad, cd, rfl, hcd, td⟩ := OwnI.tab o
  have Bd := Lib.hid (OwnI.btw o)
  have Od_1 := Lib.hid o
  clear td hcd
  obtain ⟨ae, ce, rfl, hce, te⟩ := OwnI.tab o2
  have Be := Lib.hid (OwnI.btw o2)
  have Oe_1 := Lib.hid o2
  clear te hce b o o2
  generalize hU : pcmp L M = u
  have HU := Lib.hid hU
  have huu : (u != u) = false := by simp
  have hue : (u == u) = true := by simp
  clear hU
  go_wp2_with fail
  refine (icmp_is HU.out ad ae cd ce _ _ _ p rfl rfl (OwnI.intA Od_1.out).2.2 (OwnI.intA Oe_1.out).2.2 (by omega) (by omega) (HE.out.below HB1.out)).mono ?_
  rintro e w2 ⟨rfl, b⟩
  have HB2 := Lib.hid (HB1.out.trans (b.mono HB1.out.size))
  have hs2 := Lib.hid b.size
  have Od_2 := Lib.hid (owni_later Od_1.out b)
  have Oe_2 := Lib.hid (owni_later Oe_1.out b)
  clear b
  go_wp2_with fail
  refine (pscmp_is HU.out ad ae cd ce _ _ _ rfl rfl (OwnI.intA Od_2.out).2.2 (OwnI.intA Oe_2.out).2.2 (OwnI.intA Od_2.out).2.1 (OwnI.intA Oe_2.out).2.1 (by omega) (by omega)).mono ?_
  rintro e w3 ⟨rfl, b⟩
  have HB3 := Lib.hid (HB2.out.trans (b.mono HB2.out.size))
  have hs3 := Lib.hid b.size
  have Od_3 := Lib.hid (owni_later Od_2.out b)
  have Oe_3 := Lib.hid (owni_later Oe_2.out b)
  clear b
  cases ho : pOk L with
  | false =>
    go_wp2_with fail
    refine (psok_is ho ad cd _ _ rfl (OwnI.intA Od_3.out).2.2 (OwnI.intA Od_3.out).2.1 (by omega)).mono ?_
    rintro e w4 ⟨rfl, b⟩
    have HB4 := Lib.hid (HB3.out.trans (b.mono HB3.out.size))
    have hs4 := Lib.hid b.size
    have Od_4 := Lib.hid (owni_later Od_3.out b)
    have Oe_4 := Lib.hid (owni_later Oe_3.out b)
    clear b
    go_wp2_with fail
    refine (pscmp_is HU.out ad ae cd ce _ _ _ rfl rfl (OwnI.intA Od_4.out).2.2 (OwnI.intA Oe_4.out).2.2 (OwnI.intA Od_4.out).2.1 (OwnI.intA Oe_4.out).2.1 (by omega) (by omega)).mono ?_
    rintro e w5 ⟨rfl, b⟩
    have HB5 := Lib.hid (HB4.out.trans (b.mono HB4.out.size))
    have hs5 := Lib.hid b.size
    have Od_5 := Lib.hid (owni_later Od_4.out b)
    have Oe_5 := Lib.hid (owni_later Oe_4.out b)
    clear b
    go_wp2_with fail
    go_ret
    exact ⟨rfl, HB5.out⟩
  | true =>
    go_wp2_with fail
    refine (psok_is ho ad cd _ _ rfl (OwnI.intA Od_3.out).2.2 (OwnI.intA Od_3.out).2.1 (by omega)).mono ?_
    rintro e w4 ⟨rfl, b⟩
    have HB4 := Lib.hid (HB3.out.trans (b.mono HB3.out.size))
    have hs4 := Lib.hid b.size
    have Od_4 := Lib.hid (owni_later Od_3.out b)
    have Oe_4 := Lib.hid (owni_later Oe_3.out b)
    clear b
    cases hq : pOk M with
    | false =>
      go_wp2_with fail
      refine (psok_is hq ae ce _ _ rfl (OwnI.intA Oe_4.out).2.2 (OwnI.intA Oe_4.out).2.1 (by omega)).mono ?_
      rintro e w5 ⟨rfl, b⟩
      have HB5 := Lib.hid (HB4.out.trans (b.mono HB4.out.size))
      have hs5 := Lib.hid b.size
      have Od_5 := Lib.hid (owni_later Od_4.out b)
      have Oe_5 := Lib.hid (owni_later Oe_4.out b)
      clear b
      go_wp2_with fail
      refine (pscmp_is HU.out ad ae cd ce _ _ _ rfl rfl (OwnI.intA Od_5.out).2.2 (OwnI.intA Oe_5.out).2.2 (OwnI.intA Od_5.out).2.1 (OwnI.intA Oe_5.out).2.1 (by omega) (by omega)).mono ?_
      rintro e w6 ⟨rfl, b⟩
      have HB6 := Lib.hid (HB5.out.trans (b.mono HB5.out.size))
      have hs6 := Lib.hid b.size
      have Od_6 := Lib.hid (owni_later Od_5.out b)
      have Oe_6 := Lib.hid (owni_later Oe_5.out b)
      clear b
      go_wp2_with fail
      go_ret
      exact ⟨rfl, HB6.out⟩
    | true =>
      go_wp2_with fail
      refine (psok_is hq ae ce _ _ rfl (OwnI.intA Oe_4.out).2.2 (OwnI.intA Oe_4.out).2.1 (by omega)).mono ?_
      rintro e w5 ⟨rfl, b⟩
      have HB5 := Lib.hid (HB4.out.trans (b.mono HB4.out.size))
      have hs5 := Lib.hid b.size
      have Od_5 := Lib.hid (owni_later Od_4.out b)
      have Oe_5 := Lib.hid (owni_later Oe_4.out b)
      clear b
      have HL := Lib.hid ((pOk_iff L).1 ho)
      have HM := Lib.hid ((pOk_iff M).1 hq)
      generalize hX : decide (L = M) = x
      have HX2 := Lib.hid hX
      have hxx : (x == x) = true := by simp
      obtain ⟨s, hs⟩ : ∃ s, ptext L = s := ⟨_, rfl⟩
      obtain ⟨s2, hs2⟩ : ∃ s2, ptext M = s2 := ⟨_, rfl⟩
      have hss : (s.toList == s2.toList) = x := by rw [text_eq, ← hs, ← hs2, ptexts_eq HL.out HM.out]; exact hX
      have HS := Lib.hid hs
      have HS2 := Lib.hid hs2
      clear hX hs hs2 ho hq
      go_wp2_with fail
      refine (itext_is HS.out ad cd _ _ p rfl (by omega) (OwnI.intA Od_5.out).2.2 (HE.out.below HB5.out)).mono ?_
      rintro e w6 ⟨rfl, b⟩
      have HB6 := Lib.hid (HB5.out.trans (b.mono HB5.out.size))
      have hs6 := Lib.hid b.size
      have Od_6 := Lib.hid (owni_later Od_5.out b)
      have Oe_6 := Lib.hid (owni_later Oe_5.out b)
      clear b
      go_wp2_with fail
      refine (itext_is HS2.out ae ce _ _ p rfl (by omega) (OwnI.intA Oe_6.out).2.2 (HE.out.below HB6.out)).mono ?_
      rintro e w7 ⟨rfl, b⟩
      have HB7 := Lib.hid (HB6.out.trans (b.mono HB6.out.size))
      have hs7 := Lib.hid b.size
      have Od_7 := Lib.hid (owni_later Od_6.out b)
      have Oe_7 := Lib.hid (owni_later Oe_6.out b)
      clear b
      go_wp2_with fail
      refine (lyI_is HX2.out ad ae cd ce _ _ _ rfl rfl (OwnI.intA Od_7.out).2.2 (OwnI.intA Oe_7.out).2.2 (by omega) (by omega)).mono ?_
      rintro e w8 ⟨rfl, b⟩
      have HB8 := Lib.hid (HB7.out.trans (b.mono HB7.out.size))
      have hs8 := Lib.hid b.size
      have Od_8 := Lib.hid (owni_later Od_7.out b)
      have Oe_8 := Lib.hid (owni_later Oe_7.out b)
      clear b
      go_wp2_with fail
      go_ret
      exact ⟨rfl, HB8.out⟩

end Go.Proofs.YtnabcffpficgcaaDoor
