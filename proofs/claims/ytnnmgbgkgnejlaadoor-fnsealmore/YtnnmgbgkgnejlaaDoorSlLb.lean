/-
  The law that more seals, and more holders, take nothing: the walk.
-/
import Derived.Test.YtnnmgbgkgnejlaaDoorSlDp
import Derived.Test.YtnnmgbgkgnejlaaDoorSlRg
namespace Go.Proofs.YtnnmgbgkgnejlaaDoor
open Go.RowKit
set_option linter.unusedSimpArgs false
set_option linter.unusedVariables false

theorem okB_iv {f b : Int} (h : okB f b = true) : Iv f ∧ Iv b := by
  have := (okB_iff f b).1 h
  unfold Iv; omega
theorem inta_one (w : World) : IntA (w.alloc (.cells #[.int .i64 1] 3)) (some ⟨w.heap.size, 0, none⟩) [1] := .inr ⟨_, 0, rfl, fun i e hi => by
  match i, hi with
  | 0, hi =>
    obtain rfl : (1 : Int) = e := by simpa using hi
    simp⟩
theorem IntA.but {w w' : World} {a : Option Addr} {L : List Int} {row : Option Nat} (h : IntA w a L) (hg : w.grownBy w' row) (hb : ∀ b off, a = some ⟨b, off, none⟩ → some b ≠ row) : IntA w' a L := by
  rcases h with h | ⟨b, off, e, h⟩
  · exact .inl h
  · exact .inr ⟨b, off, e, fun i x hi => hg.cell (h i x hi) (hb b off e)⟩
set_option maxRecDepth 100000 in
set_option maxHeartbeats 4000000 in
theorem lawSealMore (a0 : Option Addr) (len0 cap0 : Nat) (zs0 : List Int) (a1 : Option Addr) (len1 cap1 : Nat) (zs1 : List Int) (w : World) (h0 : IsRow w a0 len0 cap0 zs0) (h1 : IsRow w a1 len1 cap1 zs1) (p : Addr) (hE : EV w p) (hT : PowS w) :
    Calls Tryd.prog 10 #[.slice a0 len0 cap0, .slice a1 len1 cap1] w fun e w' => e = .returned (.bool true) ∧ Below w.heap.size w w' := by
  have H0 := Lib.hid h0
  have HE := Lib.hid hE
  have HT := Lib.hid hT
  clear h0 hE hT h1
  by_cases hl0 : (1048576 : Int) < (len0 : Int)
  · go_enter Tryd.func10, Tryd.ntmps10
    go_wp2_with fail
    go_ret
    exact ⟨rfl, Below.refl _ _⟩
  by_cases hl1 : (1048576 : Int) < (len1 : Int)
  · go_enter Tryd.func10, Tryd.ntmps10
    go_wp2_with fail
    go_ret
    exact ⟨rfl, Below.refl _ _⟩
  go_enter Tryd.func10, Tryd.ntmps10
  go_wp2_with fail
  refine (drO_any a0 len0 cap0 zs0 _ H0.out).mono ?_
  rintro en w1 ⟨f, b, l, t, P, M, a, c, d, e, al, cl, L, ah, ch, H, rfl, ⟨hlH, hlL, hlP, hlM, t0, t6⟩, ⟨hch, hcl⟩, hW, oH, oL, sA, hm, b1⟩
  have H1 := Lib.hid (And.intro oH (And.intro oL (And.intro sA (And.intro hm b1))))
  have HW := Lib.hid hW
  clear oH oL sA hm b1 hW
  go_wp2_with (refine wpList_stY rfl 27 _ _ rfl w1.heap.size #[.int .i64 f, .int .i64 b, .slice a P.length c, .int .i64 l, .slice d M.length e] ?x1 ?y1 ?o1 ?i1 _ (AtY.new5 w1 _ _ _ _ _ _) rfl ?g1)
  try case x1 => simp [Act.eval]
  try case y1 => simp [Act.eval]
  try case o1 => simp [Value.oneCell']
  try case i1 => rfl
  intro w2 a2 g2
  have HS := Lib.hid (Sg.mk' H1.out.2.2.2.2 H1.out.2.2.2.1 HE.out HT.out H1.out.1 H1.out.2.1 H1.out.2.2.1 a2 g2)
  clear a2 g2 H1
  obtain ⟨q0, q1, q2, q3, q4⟩ := HS.out.sm.box.five
  obtain ⟨ok, hok⟩ : ∃ ok, decide (lackM H L f b P l M t = 0) = ok := ⟨_, rfl⟩
  have HOK := Lib.hid hok
  clear hok
  go_wp2_with fail
  refine (isealok_is H L HW.out ah al ch cl f b a c P l d e M t HOK.out _ p HS.out.hv (by omega) HS.out.sl (by omega) HS.out.sm.rt HS.out.sm.ev HS.out.sm.pw).mono ?_
  rintro en w3 ⟨rfl, b3⟩
  have HS3 := Lib.hid (HS.out.go b3)
  clear b3 q0 q1 q2 q3 q4 HS
  obtain ⟨q0, q1, q2, q3, q4⟩ := HS3.out.sm.box.five
  go_wp2_with fail
  refine (sealok_is H L ah al ch cl f b a c P l d e M t HOK.out _ HS3.out.hv (by omega) HS3.out.sl (by omega) HS3.out.sm.rt).mono ?_
  rintro en w4 ⟨rfl, b4⟩
  have HS4 := Lib.hid (HS3.out.go b4)
  clear b4 q0 q1 q2 q3 q4 HS3
  obtain ⟨q0, q1, q2, q3, q4⟩ := HS4.out.sm.box.five
  cases ok with
  | false =>
    go_wp2_with fail
    refine (sealok_is H L ah al ch cl f b a c P l d e M t HOK.out _ HS4.out.hv (by omega) HS4.out.sl (by omega) HS4.out.sm.rt).mono ?_
    rintro en w5 ⟨rfl, b5⟩
    have HS5 := Lib.hid (HS4.out.go b5)
    clear b5
    go_wp2_with fail
    go_ret
    exact ⟨rfl, HS5.out.sm.bel⟩
  | true =>
    have HLK := Lib.hid (of_decide_eq_true HOK.out)
    have HTL := Lib.hid (lackM_zero.1 HLK.out).1
    obtain ⟨N, hN⟩ : ∃ N : Nat, (len1 : Int) % 10 = (N : Int) ∧ N ≤ 9 := ⟨len1 % 10, by omega, by omega⟩
    obtain ⟨hN, hN9⟩ := hN
    have htm : (len1 : Int).tmod 10 = (N : Int) := by rw [Int.tmod_eq_emod_of_nonneg (by omega)]; exact hN
    go_wp2_with (refine wpList_stY rfl 27 _ _ rfl w4.heap.size #[.int .i64 f, .int .i64 b, .slice a P.length c, .int .i64 l, .slice d M.length e] ?x2 ?y2 ?o2 ?i2 _ (AtY.new5 w4 _ _ _ _ _ _) rfl ?g2)
    try case x2 => simp [Act.eval]
    try case y2 => simp [Act.eval]
    try case o2 => simp [Value.oneCell']
    try case i2 => rfl
    intro w5 a5 g5
    have b5 : Below w4.heap.size w4 w5 := ((Below.refl w4.heap.size w4).alloc (Nat.le_refl _) _).grown g5 (by simp) (fun k hk => by cases hk; exact Nat.le_refl _)
    have B5 := Lib.hid b5
    have A5 := Lib.hid a5
    clear a5 g5 b5 q0 q1 q2 q3 q4
    go_wp2_with (refine wpList_st1Y rfl 3 _ _ rfl w4.heap.size 3 (.int .i64 (N : Int)) ?x3 ?y3 rfl rfl infoI1s _ A5.out (by simp) ?g3)
    try case x3 => simp [Act.eval]
    try case y3 => (simp [Act.eval]; try omega)
    intro w6 a6 g6
    have b6 : Below w4.heap.size w4 w6 := B5.out.grown g6 B5.out.size (fun k hk => by cases hk; exact Nat.le_refl _)
    have B6 := Lib.hid b6
    have A6 := Lib.hid a6
    clear a6 g6 b6
    go_wp2_with (refine wpList_st1Y rfl 25 _ _ rfl w4.heap.size 4 (.slice none 0 0) ?x4 ?y4 rfl rfl infoIs _ A6.out (by simp) ?g4)
    try case x4 => simp [Act.eval]
    try case y4 => simp [Act.eval]
    intro w7 a7 g7
    have b7 : Below w4.heap.size w4 w7 := B6.out.grown g7 B6.out.size (fun k hk => by cases hk; exact Nat.le_refl _)
    have HS7 := Lib.hid (HS4.out.go b7)
    have A7 := Lib.hid (show AtY w7 w4.heap.size [.int .i64 f, .int .i64 b, .slice a P.length c, .int .i64 (N : Int), .slice none 0 0] from a7)
    clear a7 g7 b7 A5 B5 A6 B6 HS4
    go_wp2_with fail
    refine (lyR_ok len1 _ (by omega)).mono ?_
    rintro en w8 ⟨g, k, hgk, rfl, b8⟩
    have HS8 := Lib.hid (HS7.out.go b8)
    have A8 := Lib.hid (A7.out.below b8)
    have HGK := Lib.hid hgk
    clear b8 hgk HS7 A7
    obtain ⟨w9, hw9⟩ : ∃ W, w8.alloc (.cells #[.int .i64 1] 3) = W := ⟨_, rfl⟩
    obtain ⟨w10, hw10⟩ : ∃ W, w9.alloc (.cells #[.int .i64 1, .int .i64 2, .int .i64 g, .int .i64 k, .slice (some ⟨w8.heap.size, 0, none⟩) 1 1] 34) = W := ⟨_, rfl⟩
    have b9 : Below w8.heap.size w8 w9 := by rw [← hw9]; exact (Below.refl _ _).alloc (Nat.le_refl _) _
    have b10 : Below w9.heap.size w9 w10 := by rw [← hw10]; exact (Below.refl _ _).alloc (Nat.le_refl _) _
    have O10 := Lib.hid (show OwnSl w10 w8.heap.size (.slice (some ⟨w9.heap.size, 0, none⟩) 1 1) [⟨1, 2, g, k, some ⟨w8.heap.size, 0, none⟩, 1, [1]⟩] by rw [← hw10]; exact ownsl_one w9 w8.heap.size b9.size 1 2 g k (some ⟨w8.heap.size, 0, none⟩) 1 [1])
    have I10 := Lib.hid (show IntA w10 (some ⟨w8.heap.size, 0, none⟩) [1] from IntA.below (by rw [← hw9]; exact inta_one w8) b10)
    have B10 := Lib.hid (next b9 b10)
    have HS10 := Lib.hid (HS8.out.go B10.out)
    have hs98 := b9.size
    have hs89 : w9.heap.size = w8.heap.size + 1 := by rw [← hw9]; simp
    have HS89 := Lib.hid hs89
    clear b9 b10 hs89
    go_wp2_with (refine wpList_apS rfl _ _ rfl w8.heap.size (.slice (some ⟨w9.heap.size, 0, none⟩) 1 1) [⟨1, 2, g, k, some ⟨w8.heap.size, 0, none⟩, 1, [1]⟩] ?x5 O10.out al L.length cl L rfl ?y5 HS10.out.ll hcl (by simp; omega) B10.out.size ?g5)
    try case x5 => simp [Act.eval]
    try case y5 => simp [Act.eval]
    intro v11 w11 o11 g11
    have b11 := below_app B10.out O10.out (Nat.le_refl _) g11
    obtain ⟨L2, hL2⟩ : ∃ L2 : List SV, (⟨1, 2, g, k, some ⟨w8.heap.size, 0, none⟩, 1, [1]⟩ : SV) :: L = L2 := ⟨_, rfl⟩
    have HL2 := Lib.hid hL2
    have hl2 : L2.length ≤ 13 := by rw [← hL2]; simp; omega
    replace o11 : OwnSl w11 w8.heap.size v11 L2 := by rw [← hL2]; exact o11
    obtain ⟨am, cm, rfl, _⟩ := OwnSl.tab o11
    have HS11 := Lib.hid (HS8.out.go b11)
    have A11 := Lib.hid (A8.out.below b11)
    have SA11 := Lib.hid (show SlA w11 am L2 from OwnSl.sla o11 (fun x hx => by
      rw [← hL2] at hx
      rcases List.mem_cons.1 hx with rfl | q
      · exact ⟨IntA.but I10.out g11 (fun bb oo he hr => by have := HS89.out; simp [Value.ownBlock] at he hr; omega), by simp, by simp⟩
      · exact HS11.out.sl.2 x q))
    have HW2 := Lib.hid (show ∀ x ∈ L2, SpW x.p from fun x hx => by
      rw [← hL2] at hx
      rcases List.mem_cons.1 hx with rfl | q
      · have hv := okB_iv HGK.out
        exact ⟨by simp [SV.p, Iv], by simp [SV.p, Iv], hv.1, hv.2, fun y hy => by simp [SV.p] at hy; subst hy; simp [Iv]⟩
      · exact HW.out x q)
    clear o11 g11 b11 hL2 O10 I10 B10 HS10 hw9 hw10 HS8 A8
    go_wp2_with fail
    refine (lyR_ok len1 _ (by omega)).mono ?_
    rintro en w12 ⟨g2, k2, hgk2, rfl, b12⟩
    have HS12 := Lib.hid (HS11.out.go b12)
    have A12 := Lib.hid (A11.out.below b12)
    have SA12 := Lib.hid (SlA.below SA11.out b12)
    clear b12 hgk2 HS11 A11 SA11
    obtain ⟨w13, hw13⟩ : ∃ W, w12.alloc (.cells #[.int .i64 3, .int .i64 g2, .int .i64 k2] 48) = W := ⟨_, rfl⟩
    have b13 : Below w12.heap.size w12 w13 := by rw [← hw13]; exact (Below.refl _ _).alloc (Nat.le_refl _) _
    have O13 := Lib.hid (show OwnHv w13 w12.heap.size (.slice (some ⟨w12.heap.size, 0, none⟩) 1 1) [⟨3, g2, k2⟩] by rw [← hw13]; exact ownhv_one w12 w12.heap.size (Nat.le_refl _) 3 g2 k2)
    have B13 := Lib.hid b13
    have HS13 := Lib.hid (HS12.out.go B13.out)
    clear b13
    go_wp2_with (refine wpList_apH rfl _ _ rfl w12.heap.size (.slice (some ⟨w12.heap.size, 0, none⟩) 1 1) [⟨3, g2, k2⟩] ?x6 O13.out ah H.length ch H rfl ?y6 HS13.out.hl hch (by simp; omega) B13.out.size ?g6)
    try case x6 => simp [Act.eval]
    try case y6 => simp [Act.eval]
    intro v14 w14 o14 g14
    have b14 := below_app B13.out O13.out (Nat.le_refl _) g14
    obtain ⟨H2, hH2⟩ : ∃ H2 : List HV, (⟨3, g2, k2⟩ : HV) :: H = H2 := ⟨_, rfl⟩
    have hl3 : H2.length ≤ 6 := by rw [← hH2]; simp; omega
    replace o14 : OwnHv w14 w12.heap.size v14 H2 := by rw [← hH2]; exact o14
    obtain ⟨an, cn, rfl, _⟩ := OwnHv.tab o14
    have HS14 := Lib.hid (HS12.out.go b14)
    have A14 := Lib.hid (A12.out.below b14)
    have SA14 := Lib.hid (SlA.below SA12.out b14)
    have HV14 := Lib.hid (OwnHv.hva o14)
    have HZ1 := Lib.hid (show decide (lackM H2 L2 f b P l M t = 0) = true from decide_eq_true (by
      rw [← hH2, ← HL2.out]
      exact ok_more (H2 := [⟨3, g2, k2⟩]) (L2 := [⟨1, 2, g, k, some ⟨w8.heap.size, 0, none⟩, 1, [1]⟩]) HLK.out HTL.out))
    have HZ2 := Lib.hid (show decide (lackM H L f b P (N : Int) [] t = 0) = true from decide_eq_true (ok_more (H2 := []) (L2 := []) HLK.out (tell_like HTL.out ⟨by omega, by omega⟩)))
    clear o14 g14 b14 hH2 O13 B13 HS13 hw13 HS12 A12 SA12
    obtain ⟨q0, q1, q2, q3, q4⟩ := HS14.out.sm.box.five
    go_wp2_with fail
    refine (isealok_is H2 L2 HW2.out an am cn cm f b a c P l d e M t HZ1.out _ p HV14.out (by omega) SA14.out (by omega) HS14.out.sm.rt HS14.out.sm.ev HS14.out.sm.pw).mono ?_
    rintro en w15 ⟨rfl, b15⟩
    have HS15 := Lib.hid (HS14.out.go b15)
    have A15 := Lib.hid (A14.out.below b15)
    clear b15 q0 q1 q2 q3 q4
    obtain ⟨q0, q1, q2, q3, q4⟩ := A15.out.five
    go_wp2_with fail
    refine (isealok_is H L HW.out ah al ch cl f b a c P (N : Int) none 0 [] t HZ2.out _ p HS15.out.hv (by omega) HS15.out.sl (by omega) (rtm_like HS15.out.sm.rt) HS15.out.sm.ev HS15.out.sm.pw).mono ?_
    rintro en w16 ⟨rfl, b16⟩
    have HS16 := Lib.hid (HS15.out.go b16)
    clear b16
    go_wp2_with fail
    go_ret
    exact ⟨rfl, HS16.out.sm.bel⟩
end Go.Proofs.YtnnmgbgkgnejlaaDoor
