/-
  The law that seals of one range are none of another one: the walk.
-/
import Derived.Test.YtnnmgbgkgnejlaaDoorSlDn
import Derived.Test.YtnnmgbgkgnejlaaDoorHalfR
namespace Go.Proofs.YtnnmgbgkgnejlaaDoor
open Go.RowKit
set_option linter.unusedSimpArgs false
set_option linter.unusedVariables false

set_option maxRecDepth 100000 in
set_option maxHeartbeats 4000000 in
theorem lawSealRange (a0 : Option Addr) (len0 cap0 : Nat) (zs0 : List Int) (w : World) (h0 : IsRow w a0 len0 cap0 zs0) (p : Addr) (hE : EV w p) (hT : PowS w) :
    Calls Tryd.prog 9 #[.slice a0 len0 cap0] w fun e w' => e = .returned (.bool true) ∧ Below w.heap.size w w' := by
  have H0 := Lib.hid h0
  have HE := Lib.hid hE
  have HT := Lib.hid hT
  clear h0 hE hT
  by_cases hl0 : (1048576 : Int) < (len0 : Int)
  · go_enter Tryd.func9, Tryd.ntmps9
    go_wp2_with fail
    go_ret
    exact ⟨rfl, Below.refl _ _⟩
  go_enter Tryd.func9, Tryd.ntmps9
  go_wp2_with fail
  refine (drM_any a0 len0 cap0 zs0 _ H0.out).mono ?_
  rintro en w1 ⟨f, b, l, P, M, a, c, d, e, t, rfl, ⟨hlP, hlM, t0, t7⟩, hm, b1⟩
  have H1 := Lib.hid (And.intro hm b1)
  clear hm b1
  go_wp2_with (refine wpList_stY rfl 27 _ _ rfl w1.heap.size #[.int .i64 f, .int .i64 b, .slice a P.length c, .int .i64 l, .slice d M.length e] ?x2 ?y2 ?o2 ?i2 _ (AtY.new5 w1 _ _ _ _ _ _) rfl ?g2)
  try case x2 => simp [Act.eval]
  try case y2 => simp [Act.eval]
  try case o2 => simp [Value.oneCell']
  try case i2 => rfl
  intro w2 a2 g2
  have HS := Lib.hid (Sm.mk' H1.out.2 H1.out.1 HE.out HT.out a2 g2).2
  clear a2 g2
  obtain ⟨q0, q1, q2, q3, q4⟩ := HS.out.box.five
  go_wp2_with fail
  refine (isealmake_is f b a c P l d e M t rfl _ p HS.out.rt HS.out.ev).mono ?_
  rintro en w3 ⟨v3, L, rfl, hR, hQ, hsm, b3⟩
  obtain ⟨la, lc, rfl, _⟩ := OwnSl.tab hR.row
  have HS3 := Lib.hid (HS.out.go b3)
  have HL3 := Lib.hid (SlR.sla hR (fun x hx => by have := hsm x hx; omega))
  have HQ := Lib.hid hQ
  have hLl : L.length ≤ 6 := by have h1 := makeS_len f b P l M t; rw [← hQ, sealsP_len] at h1; omega
  clear hR hQ hsm b3 q0 q1 q2 q3 q4 HS
  obtain ⟨q0, q1, q2, q3, q4⟩ := HS3.out.box.five
  go_wp2_with fail
  refine (ssealmake_is f b a c P l d e M t rfl _ HS3.out.rt).mono ?_
  rintro en w4 ⟨v4, L4, rfl, hR, hQ4, hsm, b4⟩
  obtain ⟨la4, lc4, rfl, _⟩ := OwnSl.tab hR.row
  have HS4 := Lib.hid (HS3.out.go b4)
  have HL4 := Lib.hid (HL3.out.below b4)
  have HX4 := Lib.hid (SlR.sla hR (fun x hx => by have := hsm x hx; omega))
  have HQ4 := Lib.hid (HQ.out.trans hQ4.symm)
  clear hR hQ4 hsm b4 q0 q1 q2 q3 q4 HS3 HL3
  go_wp2_with fail
  refine (lyseals_is L L4 la la4 lc lc4 _ _ _ rfl rfl HL4.out HX4.out HQ4.out (by omega)).mono ?_
  rintro en w5 ⟨rfl, b5⟩
  have HS5 := Lib.hid (HS4.out.go b5)
  have HL5 := Lib.hid (HL4.out.below b5)
  clear b5 HS4 HL4 HX4 HQ4
  cases hk : tellB f b P l M t with
  | false =>
    obtain rfl := make_nil HQ.out hk
    obtain ⟨q0, q1, q2, q3, q4⟩ := HS5.out.box.five
    go_wp2_with fail
    refine (ssealmake_is f b a c P l d e M t rfl _ HS5.out.rt).mono ?_
    rintro en w6 ⟨v6, L6, rfl, hR, hQ6, hsm, b6⟩
    obtain ⟨la6, lc6, rfl, _⟩ := OwnSl.tab hR.row
    have HS6 := Lib.hid (HS5.out.go b6)
    have HL6 := Lib.hid (HL5.out.below b6)
    have HX6 := Lib.hid (SlR.sla hR (fun x hx => by have := hsm x hx; omega))
    have HQ6 := Lib.hid (HQ.out.trans hQ6.symm)
    clear hR hQ6 hsm b6 q0 q1 q2 q3 q4
    go_wp2_with fail
    refine (lyseals_is [] L6 la la6 lc lc6 _ _ _ rfl rfl HL6.out HX6.out HQ6.out (by simp)).mono ?_
    rintro en w7 ⟨rfl, b7⟩
    have HS7 := Lib.hid (HS6.out.go b7)
    clear b7
    go_wp2_with fail
    go_ret
    exact ⟨rfl, HS7.out.bel⟩
  | true =>
    obtain ⟨hA, hLP⟩ := make_all HQ.out hk
    have HA := Lib.hid hA
    have HK := Lib.hid hk
    have hP0 := tell_pos hk
    have HWL := Lib.hid (makeS_w HQ.out)
    have e0 : ((L.length : Int) == 0) = false := by rw [beq_eq_false_iff_ne]; omega
    obtain ⟨pb, po, rfl, c0⟩ := path_last HS5.out.rt.1.1 hP0
    obtain ⟨K, hK⟩ : ∃ K, P.length - 1 = K := ⟨_, rfl⟩
    have ek : IntKind.i64.wrap ((P.length : Int) - 1) = (K : Int) := by rw [IntKind.wrap_i64]; omega
    have i0 : (0 : Int) ≤ (K : Int) := by omega
    have i1 : (K : Int) < (P.length : Int) := by omega
    obtain ⟨g, hg⟩ : ∃ g, P.getD (P.length - 1) 0 = g := ⟨_, rfl⟩
    have HG := Lib.hid hg
    rw [hg, hK] at c0
    clear hA hk hLP hg hK
    obtain ⟨q0, q1, q2, q3, q4⟩ := HS5.out.box.five
    obtain ⟨W, hW⟩ : ∃ W, w5.alloc (.cells #[.int .i64 g, .int .i64 0, .int .i64 0] 48) = W := ⟨_, rfl⟩
    have HH6 := Lib.hid (show HvA W (some ⟨w5.heap.size, 0, none⟩) [⟨g, 0, 0⟩] by rw [← hW]; exact hva_one w5 g 0 0)
    have bb : Below w5.heap.size w5 W := by rw [← hW]; exact (Below.refl _ _).alloc (Nat.le_refl _) _
    have HS6 := Lib.hid (HS5.out.go bb)
    have HL6 := Lib.hid (HL5.out.below bb)
    obtain ⟨F, C, x, hv⟩ : ∃ F C x, halfV f b true = .tuple #[.agg #[.int .i64 F, .int .i64 C], .bool x] ∧ (x = true → C = b + 1) := by
      by_cases hn : halfB f b = true
      · exact ⟨_, _, _, halfV_yes true hn, fun _ => rfl⟩
      · exact ⟨_, _, _, halfV_no true (by simpa using hn), fun h => by cases h⟩
    have HV := Lib.hid hv
    clear hv bb
    obtain ⟨r0, r1, r2, r3, r4⟩ := HS6.out.box.five
    go_wp2_with fail
    refine ((rhalf_any f b true _).mono ?_)
    rw [HV.out.1]
    rintro en w7 ⟨rfl, b7⟩
    have HS7 := Lib.hid (HS6.out.go b7)
    have HL7 := Lib.hid (HL6.out.below b7)
    have HH7 := Lib.hid (HH6.out.below b7)
    clear b7 q0 q1 q2 q3 q4 r0 r1 r2 r3 r4 hW HS5 HL5 c0 ek i0 i1 HS6 HL6 HH6
    obtain ⟨w8, hw8⟩ : ∃ W, w7.alloc (.cells #[.int .i64 F, .int .i64 C] 24) = W := ⟨_, rfl⟩
    have b8 : Below w7.heap.size w7 w8 := by rw [← hw8]; exact (Below.refl _ _).alloc (Nat.le_refl _) _
    have a8 : AtY w8 w7.heap.size [.int .i64 F, .int .i64 C] := by rw [← hw8]; exact AtY.new2 w7 _ _ _
    have HS8 := Lib.hid (HS7.out.go b8)
    have HL8 := Lib.hid (HL7.out.below b8)
    have HH8 := Lib.hid (HH7.out.below b8)
    have HR8 := Lib.hid a8
    clear a8 b8 HS7 HL7 HH7
    obtain ⟨q0, q1, q2, q3, q4⟩ := HS8.out.box.five
    obtain ⟨w9, hw9⟩ : ∃ W, w8.alloc (.cells #[.int .i64 f, .int .i64 b, .slice (some ⟨pb, po, none⟩) P.length c, .int .i64 l, .slice d M.length e] 27) = W := ⟨_, rfl⟩
    have b9 : Below w8.heap.size w8 w9 := by rw [← hw9]; exact (Below.refl _ _).alloc (Nat.le_refl _) _
    have a9 : AtY w9 w8.heap.size [.int .i64 f, .int .i64 b, .slice (some ⟨pb, po, none⟩) P.length c, .int .i64 l, .slice d M.length e] := by rw [← hw9]; exact AtY.new5 w8 _ _ _ _ _ _
    have HS9 := Lib.hid (HS8.out.go b9)
    have HL9 := Lib.hid (HL8.out.below b9)
    have HH9 := Lib.hid (HH8.out.below b9)
    have HR9 := Lib.hid (HR8.out.below b9)
    have HX9 := Lib.hid a9
    have b89 := Lib.hid b9
    clear a9 b9
    have z0 := (HR9.out 0 _ rfl).1
    have z1 := (HR9.out 1 _ rfl).1
    go_wp2_with (refine wpList_st2Y rfl 24 _ _ rfl w8.heap.size (.int .i64 F) (.int .i64 C) ?x3 ?y3 ⟨rfl, rfl⟩ ?i3 _ _ _ HX9.out ?g3)
    try case x3 => simp [Act.eval]
    try case y3 => simp [Act.eval]
    try case i3 => rfl
    intro w10 a10 g10
    have b10 : Below w8.heap.size w8 w10 := b89.out.grown g10 b89.out.size (fun k hk => by cases hk; exact Nat.le_refl _)
    have HS10 := Lib.hid (HS8.out.go b10)
    have HH10 := Lib.hid (HvA.below HH8.out b10)
    have HL10 := Lib.hid (HL8.out.below b10)
    have HX10 := Lib.hid a10
    clear a10 g10 b10 z0 z1 HS9 HL9 HH9 HR9 HX9 hw8 hw9 q0 q1 q2 q3 q4
    have HOK := Lib.hid (show decide (lackM [⟨g, 0, 0⟩] L f b P l M t = 0) = true from decide_eq_true (by rw [← HG.out]; exact ok_self HK.out HA.out))
    have HNO := Lib.hid (show x = true → decide (lackM [⟨g, 0, 0⟩] L F C P l M t = 0) = false from fun hx => decide_eq_false (no_range HK.out HA.out (fun q => by have := HV.out.2 hx; omega)))
    obtain ⟨q0, q1, q2, q3, q4⟩ := HS10.out.box.five
    go_wp2_with fail
    refine (isealok_is [⟨g, 0, 0⟩] L HWL.out (some ⟨w5.heap.size, 0, none⟩) la 1 lc f b (some ⟨pb, po, none⟩) c P l d e M t HOK.out _ p HH10.out (by simp) HL10.out (by omega) HS10.out.rt HS10.out.ev HS10.out.pw).mono ?_
    rintro en w11 ⟨rfl, b11⟩
    have HS11 := Lib.hid (HS10.out.go b11)
    have HH11 := Lib.hid (HvA.below HH10.out b11)
    have HL11 := Lib.hid (HL10.out.below b11)
    have HX11 := Lib.hid (HX10.out.below b11)
    clear b11 q0 q1 q2 q3 q4 HS10 HH10 HL10 HX10
    cases x with
    | false =>
      go_wp2_with fail
      go_ret
      exact ⟨rfl, HS11.out.bel⟩
    | true =>
      obtain ⟨q0, q1, q2, q3, q4⟩ := HX11.out.five
      go_wp2_with fail
      refine (isealok_is [⟨g, 0, 0⟩] L HWL.out (some ⟨w5.heap.size, 0, none⟩) la 1 lc F C (some ⟨pb, po, none⟩) c P l d e M t (HNO.out (by first | rfl | trivial)) _ p HH11.out (by simp) HL11.out (by omega) HS11.out.rt HS11.out.ev HS11.out.pw).mono ?_
      rintro en w12 ⟨rfl, b12⟩
      have HS12 := Lib.hid (HS11.out.go b12)
      clear b12
      go_wp2_with fail
      go_ret
      exact ⟨rfl, HS12.out.bel⟩
end Go.Proofs.YtnnmgbgkgnejlaaDoor
