/-
  The law that nobody can leave a house out of a path: the walk.
-/
import Derived.Test.YtnnmgbgkgnejlaaDoorSlBw
namespace Go.Proofs.YtnnmgbgkgnejlaaDoor
open Go.RowKit
set_option linter.unusedSimpArgs false
set_option linter.unusedVariables false

set_option maxRecDepth 100000 in
set_option maxHeartbeats 4000000 in
theorem lawShorten (a0 : Option Addr) (len0 cap0 : Nat) (zs0 : List Int) (a1 : Option Addr) (len1 cap1 : Nat) (zs1 : List Int) (w : World) (h0 : IsRow w a0 len0 cap0 zs0) (h1 : IsRow w a1 len1 cap1 zs1) (p : Addr) (hE : EV w p) (hT : PowS w) :
    Calls Tryd.prog 8 #[.slice a0 len0 cap0, .slice a1 len1 cap1] w fun e w' => e = .returned (.bool true) ∧ Below w.heap.size w w' := by
  have H0 := Lib.hid h0
  have HE := Lib.hid hE
  have HT := Lib.hid hT
  clear h0 hE hT h1
  by_cases hl0 : (1048576 : Int) < (len0 : Int)
  · go_enter Tryd.func8, Tryd.ntmps8
    go_wp2_with fail
    go_ret
    exact ⟨rfl, Below.refl _ _⟩
  by_cases hl1 : (1048576 : Int) < (len1 : Int)
  · go_enter Tryd.func8, Tryd.ntmps8
    go_wp2_with fail
    go_ret
    exact ⟨rfl, Below.refl _ _⟩
  go_enter Tryd.func8, Tryd.ntmps8
  go_wp2_with fail
  refine (drM_any a0 len0 cap0 zs0 _ H0.out).mono ?_
  rintro en w1 ⟨f, b, l, P, M, a, c, d, e, t, rfl, ⟨hlP, hlM, t0, t7⟩, hm, b1⟩
  have H1 := Lib.hid (And.intro hm b1)
  clear hm b1
  go_wp2_with (refine wpList_stY rfl 27 _ _ rfl w1.heap.size #[.int .i64 f, .int .i64 b, .slice a P.length c, .int .i64 l, .slice d M.length e] ?x2 ?y2 ?o2 ?i2 _ (AtY.new5 w1 _ _ _ _ _ _) rfl ?g2)
  try case x2 => simp [Act.eval]
  try case y2 => simp [Act.eval]
  try case o2 => simp [Value.oneCell']
  try case i2 => rfl
  intro w2 a2 g2
  have HS := Lib.hid (Sm.mk' H1.out.2 H1.out.1 HE.out HT.out a2 g2).2
  clear a2 g2
  obtain ⟨q0, q1, q2, q3, q4⟩ := HS.out.box.five
  go_wp2_with fail
  refine (isealmake_is f b a c P l d e M t rfl _ p HS.out.rt HS.out.ev).mono ?_
  rintro en w3 ⟨v3, L, rfl, hR, hQ, hsm, b3⟩
  obtain ⟨la, lc, rfl, _⟩ := OwnSl.tab hR.row
  have HS3 := Lib.hid (HS.out.go b3)
  have HL3 := Lib.hid (SlR.sla hR (fun x hx => by have := hsm x hx; omega))
  have HQ := Lib.hid hQ
  have hLl : L.length ≤ 6 := by have h1 := makeS_len f b P l M t; rw [← hQ, sealsP_len] at h1; omega
  clear hR hQ hsm b3 q0 q1 q2 q3 q4 HS
  obtain ⟨q0, q1, q2, q3, q4⟩ := HS3.out.box.five
  go_wp2_with fail
  refine (ssealmake_is f b a c P l d e M t rfl _ HS3.out.rt).mono ?_
  rintro en w4 ⟨v4, L4, rfl, hR, hQ4, hsm, b4⟩
  obtain ⟨la4, lc4, rfl, _⟩ := OwnSl.tab hR.row
  have HS4 := Lib.hid (HS3.out.go b4)
  have HL4 := Lib.hid (HL3.out.below b4)
  have HX4 := Lib.hid (SlR.sla hR (fun x hx => by have := hsm x hx; omega))
  have HQ4 := Lib.hid (HQ.out.trans hQ4.symm)
  clear hR hQ4 hsm b4 q0 q1 q2 q3 q4 HS3 HL3
  go_wp2_with fail
  refine (lyseals_is L L4 la la4 lc lc4 _ _ _ rfl rfl HL4.out HX4.out HQ4.out (by omega)).mono ?_
  rintro en w5 ⟨rfl, b5⟩
  have HS5 := Lib.hid (HS4.out.go b5)
  have HL5 := Lib.hid (HL4.out.below b5)
  clear b5 HS4 HL4 HX4 HQ4
  by_cases h2 : L.length < 2
  · have h2i : (L.length : Int) < 2 := by omega
    have hlP2 := hlP
    obtain ⟨q0, q1, q2, q3, q4⟩ := HS5.out.box.five
    go_wp2_with fail
    refine (ssealmake_is f b a c P l d e M t rfl _ HS5.out.rt).mono ?_
    rintro en w6 ⟨v6, L6, rfl, hR, hQ6, hsm, b6⟩
    obtain ⟨la6, lc6, rfl, _⟩ := OwnSl.tab hR.row
    have HS6 := Lib.hid (HS5.out.go b6)
    have HL6 := Lib.hid (HL5.out.below b6)
    have HX6 := Lib.hid (SlR.sla hR (fun x hx => by have := hsm x hx; omega))
    have HQ6 := Lib.hid (HQ.out.trans hQ6.symm)
    clear hR hQ6 hsm b6 q0 q1 q2 q3 q4
    go_wp2_with fail
    refine (lyseals_is L L6 la la6 lc lc6 _ _ _ rfl rfl HL6.out HX6.out HQ6.out (by omega)).mono ?_
    rintro en w7 ⟨rfl, b7⟩
    have HS7 := Lib.hid (HS6.out.go b7)
    clear b7
    go_wp2_with fail
    go_ret
    exact ⟨rfl, HS7.out.bel⟩
  have h2i : ¬ (L.length : Int) < 2 := by omega
  cases hk : tellB f b P l M t with
  | false =>
    obtain rfl := make_nil HQ.out hk
    simp at h2
  | true =>
    obtain ⟨hA, hLP⟩ := make_all HQ.out hk
    have HA := Lib.hid hA
    have HK := Lib.hid hk
    have hP0 := tell_pos hk
    have hP2 : 2 ≤ P.length := by omega
    have HWL := Lib.hid (makeS_w HQ.out)
    obtain ⟨pb, po, rfl, c0⟩ := path_last HS5.out.rt.1.1 hP0
    obtain ⟨K, hK⟩ : ∃ K, P.length - 1 = K := ⟨_, rfl⟩
    have ek : IntKind.i64.wrap ((P.length : Int) - 1) = (K : Int) := by rw [IntKind.wrap_i64]; omega
    have i0 : (0 : Int) ≤ (K : Int) := by omega
    have i1 : (K : Int) < (P.length : Int) := by omega
    obtain ⟨g, hg⟩ : ∃ g, P.getD (P.length - 1) 0 = g := ⟨_, rfl⟩
    have HG := Lib.hid hg
    obtain ⟨J, hJ⟩ : ∃ J : Nat, (len1 : Int).tmod (K : Int) = (J : Int) ∧ J < K := ⟨len1 % K, by rw [Int.tmod_eq_emod_of_nonneg (by omega)]; omega, Nat.mod_lt _ (by omega)⟩
    obtain ⟨hJ, hJK⟩ := hJ
    have HJP := Lib.hid (show J < P.length - 1 by omega)
    have kz : ¬ (K : Int) = 0 := by omega
    rw [hg, hK] at c0
    have hPK : P.length = K + 1 := by omega
    have HPK := Lib.hid hPK
    clear hA hk hLP hg hK
    obtain ⟨W, hW⟩ : ∃ W, w5.alloc (.cells #[.int .i64 g, .int .i64 0, .int .i64 0] 48) = W := ⟨_, rfl⟩
    have HH6 := Lib.hid (show HvA W (some ⟨w5.heap.size, 0, none⟩) [⟨g, 0, 0⟩] by rw [← hW]; exact hva_one w5 g 0 0)
    have bb : Below w5.heap.size w5 W := by rw [← hW]; exact (Below.refl _ _).alloc (Nat.le_refl _) _
    have HS6 := Lib.hid (HS5.out.go bb)
    have HL6 := Lib.hid (HL5.out.below bb)
    clear bb hPK
    obtain ⟨q0, q1, q2, q3, q4⟩ := HS5.out.box.five
    obtain ⟨r0, r1, r2, r3, r4⟩ := HS6.out.box.five
    go_upto_region 9 with fail
    have HQC := Lib.hid (And.intro r0 (And.intro r1 (And.intro r2 (And.intro r3 r4))))
    clear q0 q1 q2 q3 q4 r0 r1 r2 r3 r4 c0 hW HS5 HL5
    obtain ⟨D1, hD1⟩ : ∃ D1, P.take J = D1 := ⟨_, rfl⟩
    obtain ⟨D2, hD2⟩ : ∃ D2, P.drop (J + 1) = D2 := ⟨_, rfl⟩
    have HD1 := Lib.hid hD1
    have HD2 := Lib.hid hD2
    have HL1 := Lib.hid (show D1.length = J by have := HPK.out; rw [← hD1]; simp; omega)
    have HL2 := Lib.hid (show D2.length = P.length - (J + 1) by rw [← hD2]; simp)
    have HI1 := Lib.hid (show IntA W (some ⟨pb, po, none⟩) D1 by rw [← hD1]; exact IntA.take HS6.out.rt.1.1 J)
    have HI2 := Lib.hid (show IntA W (some ⟨pb, po + (J + 1), none⟩) D2 by rw [← hD2]; exact IntA.drop HS6.out.rt.1.1 (J + 1))
    have hcP := HS6.out.rt.2.1
    have hpk := HPK.out
    have j0 : (0 : Int) ≤ (J : Int) := by omega
    have j1 : (J : Int) ≤ (P.length : Int) := by omega
    have j2 : (J : Int) ≤ (c : Int) := by omega
    have jK : IntKind.i64.wrap ((J : Int) + 1) = ((J + 1 : Nat) : Int) := by rw [IntKind.wrap_i64]; omega
    have j3 : (0 : Int) ≤ ((J + 1 : Nat) : Int) := by omega
    have j3' : (0 : Int) ≤ (J : Int) + 1 := by omega
    have j4 : ((J + 1 : Nat) : Int) ≤ (P.length : Int) := by omega
    have j4' : (J : Int) + 1 ≤ (P.length : Int) := by omega
    have j5 : ((J + 1 : Nat) : Int) ≤ (c : Int) := by omega
    have j5' : (J : Int) + 1 ≤ (c : Int) := by omega
    have hcj : ¬ c = J + 1 := by omega
    have hlt1 : J < P.length := by omega
    have HX1 := Lib.hid (show D1.length ≤ c ∧ D2.length ≤ c - (J + 1) ∧ D1.length ≤ 6 ∧ D2.length ≤ 6 by have h1 := HL1.out; have h2 := HL2.out; omega)
    clear hD1 hD2 hpk
    go_cut [10] from 63 (fun bx wx => ∃ (nb : Nat) (xa : Option Addr) (xc : Nat) (D3 : List Int), bx = .pointer (some ⟨nb, 0, none⟩) ∧ Hid (D1 ++ D2 = D3) ∧ Hid (LessE W wx nb xa xc D3 f b d e M))
    case first =>
      refine wp_region_held_drew (S := fun Wx => (Wx.cell? ⟨w1.heap.size, 0, none⟩ = some (.int .i64 f) ∧ Wx.cell? ⟨w1.heap.size, 1, none⟩ = some (.int .i64 b) ∧ Wx.cell? ⟨w1.heap.size, 2, none⟩ = some (.slice (some ⟨pb, po, none⟩) P.length c) ∧ Wx.cell? ⟨w1.heap.size, 3, none⟩ = some (.int .i64 l) ∧ Wx.cell? ⟨w1.heap.size, 4, none⟩ = some (.slice d M.length e)) ∧ Hid True) (by kernel_rfl) ?_ (fun hHeld => ?_)
      · exact ⟨HQC.out, Lib.hid trivial⟩
      refine takeH (i := 0) (v := ?_) rfl rfl (by kernel_rfl) (by kernel_rfl) (by kernel_rfl) (fun _ _ _ h => h) (by rfl) ?_ (by assumption) ?_
      rotate_left 1
      · intro w hSw
        (try dsimp only at hSw)
        go_simp
        try with_reducible rfl
      try simp only [List.setIfInBounds_toArray, List.set_cons_zero, List.set_cons_succ]
      refine takeH (i := 1) (v := ?_) rfl rfl (by kernel_rfl) (by kernel_rfl) (by kernel_rfl) (fun _ _ _ h => h) (by rfl) ?_ (by assumption) ?_
      rotate_left 1
      · intro w hSw
        (try dsimp only at hSw)
        go_simp
        try with_reducible rfl
      try simp only [List.setIfInBounds_toArray, List.set_cons_zero, List.set_cons_succ]
      refine takeH (i := 3) (v := ?_) rfl rfl (by kernel_rfl) (by kernel_rfl) (by kernel_rfl) (fun _ _ _ h => h) (by rfl) ?_ (by assumption) ?_
      rotate_left 1
      · intro w hSw
        (try dsimp only at hSw)
        go_simp
        try with_reducible rfl
      try simp only [List.setIfInBounds_toArray, List.set_cons_zero, List.set_cons_succ]
      refine takeH (i := 4) (v := ?_) rfl rfl (by kernel_rfl) (by kernel_rfl) (by kernel_rfl) (fun _ _ _ h => h) (by rfl) ?_ (by assumption) ?_
      rotate_left 1
      · intro w hSw
        (try dsimp only at hSw)
        go_simp
        try with_reducible rfl
      try simp only [List.setIfInBounds_toArray, List.set_cons_zero, List.set_cons_succ]
      refine takeH (i := 5) (v := ?_) rfl rfl (by kernel_rfl) (by kernel_rfl) (by kernel_rfl) (fun _ _ _ h => h) (by rfl) ?_ (by assumption) ?_
      rotate_left 1
      · intro w hSw
        (try dsimp only at hSw)
        go_simp
        try with_reducible rfl
      try simp only [List.setIfInBounds_toArray, List.set_cons_zero, List.set_cons_succ]
      refine takeH (i := 6) (v := ?_) rfl rfl (by kernel_rfl) (by kernel_rfl) (by kernel_rfl) (fun _ _ _ h => h) (by rfl) ?_ (by assumption) ?_
      rotate_left 1
      · intro w hSw
        (try dsimp only at hSw)
        go_simp
        try with_reducible rfl
      try simp only [List.setIfInBounds_toArray, List.set_cons_zero, List.set_cons_succ]
      refine takeH (i := 8) (v := ?_) rfl rfl (by kernel_rfl) (by kernel_rfl) (by kernel_rfl) (fun _ _ _ h => h) (by rfl) ?_ (by assumption) ?_
      rotate_left 1
      · intro w hSw
        (try dsimp only at hSw)
        go_simp
        try with_reducible rfl
      try simp only [List.setIfInBounds_toArray, List.set_cons_zero, List.set_cons_succ]
      refine takeH (i := 9) (v := ?_) rfl rfl (by kernel_rfl) (by kernel_rfl) (by kernel_rfl) (fun _ _ _ h => h) (by rfl) ?_ (by assumption) ?_
      rotate_left 1
      · intro w hSw
        (try dsimp only at hSw)
        go_simp
        try with_reducible rfl
      try simp only [List.setIfInBounds_toArray, List.set_cons_zero, List.set_cons_succ]
      refine takeH (i := 10) (v := ?_) rfl rfl (by kernel_rfl) (by kernel_rfl) (by kernel_rfl) (fun _ _ _ h => h) (by rfl) ?_ (by assumption) ?_
      rotate_left 1
      · intro w hSw
        (try dsimp only at hSw)
        go_simp
        try with_reducible rfl
      try simp only [List.setIfInBounds_toArray, List.set_cons_zero, List.set_cons_succ]
      refine takeH (i := 11) (v := ?_) rfl rfl (by kernel_rfl) (by kernel_rfl) (by kernel_rfl) (fun _ _ _ h => h) (by rfl) ?_ (by assumption) ?_
      rotate_left 1
      · intro w hSw
        (try dsimp only at hSw)
        go_simp
        try with_reducible rfl
      try simp only [List.setIfInBounds_toArray, List.set_cons_zero, List.set_cons_succ]
      refine takeH (i := 12) (v := ?_) rfl rfl (by kernel_rfl) (by kernel_rfl) (by kernel_rfl) (fun _ _ _ h => h) (by rfl) ?_ (by assumption) ?_
      rotate_left 1
      · intro w hSw
        (try dsimp only at hSw)
        go_simp
        try with_reducible rfl
      try simp only [List.setIfInBounds_toArray, List.set_cons_zero, List.set_cons_succ]
      refine takeH (i := 14) (v := ?_) rfl rfl (by kernel_rfl) (by kernel_rfl) (by kernel_rfl) (fun _ _ _ h => h) (by rfl) ?_ (by assumption) ?_
      rotate_left 1
      · intro w hSw
        (try dsimp only at hSw)
        go_simp
        try with_reducible rfl
      try simp only [List.setIfInBounds_toArray, List.set_cons_zero, List.set_cons_succ]
      refine takeH (i := 15) (v := ?_) rfl rfl (by kernel_rfl) (by kernel_rfl) (by kernel_rfl) (fun _ _ _ h => h) (by rfl) ?_ (by assumption) ?_
      rotate_left 1
      · intro w hSw
        (try dsimp only at hSw)
        go_simp
        try with_reducible rfl
      try simp only [List.setIfInBounds_toArray, List.set_cons_zero, List.set_cons_succ]
      refine wpAnyH_ready (rs := [2, 17]) (by kernel_rfl) (by simp) ?_
      refine AllReadyH.cons rfl (fun K hK => ?_) (AllReadyH.cons rfl (fun K hK => ?_) (AllReadyH.nil))
      · go_simp
        have be1 : Below W.drew.heap.size W.drew ((W.alloc (.cells #[] 3)).drew) := (show Below W.drew.heap.size W.drew (W.drew.alloc (.cells #[] 3)) from (Below.refl _ _).alloc (Nat.le_refl _) _)
        have BB1 := Lib.hid (next ((Below.refl W.heap.size W).drew) be1)
        have O1 := Lib.hid (show OwnI ((W.alloc (.cells #[] 3)).drew) W.heap.size (.slice (some ⟨W.heap.size, 0, none⟩) 0 0) [] from owni_empty W.drew W.heap.size (Nat.le_refl _))
        generalize ((W.alloc (.cells #[] 3)).drew) = wz1 at *
        refine hK.out _ _ ?_ (fun hNew => ?_)
        · exact ⟨⟨cell_later (BB1.out) HQC.out.1, cell_later (BB1.out) HQC.out.2.1, cell_later (BB1.out) HQC.out.2.2.1, cell_later (BB1.out) HQC.out.2.2.2.1, cell_later (BB1.out) HQC.out.2.2.2.2⟩, Lib.hid trivial⟩
        clear hK K hHeld
        have hHeld := hNew
        clear hNew
        try simp only [Act.put, List.setIfInBounds_toArray, List.set_cons_zero, List.set_cons_succ]
        refine wpAnyH_ready (rs := [7, 17]) (by kernel_rfl) (by simp) ?_
        refine AllReadyH.cons rfl (fun K hK => ?_) (AllReadyH.cons rfl (fun K hK => ?_) (AllReadyH.nil))
        · refine wp_appI (.tmp 65) (.tmp 69) rfl W.heap.size (.slice (some ⟨W.heap.size, 0, none⟩) 0 0) [] (by simp [Act.eval]) O1.out (some ⟨pb, po, none⟩) c D1 (by simp [Act.eval, HL1.out]) (HI1.out.below BB1.out) HX1.out.1 (by have := HX1.out; first | (simp; omega) | omega) BB1.out.size ?_
          intro v2 w902 own2 grow2
          have bq2 : Below W.heap.size W w902 := below_app BB1.out O1.out (Nat.le_refl _) grow2
          replace own2 : OwnI w902 W.heap.size v2 D1 := own2
          obtain ⟨xa2, xc2, rfl, _, _⟩ := OwnI.tab own2
          have O2 := Lib.hid own2
          have BB2 := Lib.hid bq2
          clear own2 grow2 bq2
          generalize hw2 : w902 = wz2 at *
          clear hw2
          show K (Act.put _ (some 70) _) wz2
          refine hK.out _ _ ?_ (fun hNew => ?_)
          · exact ⟨⟨cell_later (BB2.out) HQC.out.1, cell_later (BB2.out) HQC.out.2.1, cell_later (BB2.out) HQC.out.2.2.1, cell_later (BB2.out) HQC.out.2.2.2.1, cell_later (BB2.out) HQC.out.2.2.2.2⟩, Lib.hid trivial⟩
          clear hK K hHeld
          have hHeld := hNew
          clear hNew
          try simp only [Act.put, List.setIfInBounds_toArray, List.set_cons_zero, List.set_cons_succ]
          refine wpAnyH_ready (rs := [13, 17]) (by kernel_rfl) (by simp) ?_
          refine AllReadyH.cons rfl (fun K hK => ?_) (AllReadyH.cons rfl (fun K hK => ?_) (AllReadyH.nil))
          · refine wp_appI (.tmp 70) (.tmp 75) rfl W.heap.size (.slice xa2 D1.length xc2) D1 (by simp [Act.eval]) O2.out (some ⟨pb, po + (J + 1), none⟩) (c - (J + 1)) D2 (by simp [Act.eval, HL2.out]) (HI2.out.below BB2.out) HX1.out.2.1 (by have := HX1.out; first | (simp; omega) | omega) BB2.out.size ?_
            intro v3 w903 own3 grow3
            have bq3 : Below W.heap.size W w903 := below_app BB2.out O2.out (Nat.le_refl _) grow3
            obtain ⟨D3, hD3⟩ : ∃ D3 : List Int, D1 ++ D2 = D3 := ⟨_, rfl⟩
            have HD3 := Lib.hid hD3
            rw [hD3] at own3
            clear hD3
            obtain ⟨xa3, xc3, rfl, _, _⟩ := OwnI.tab own3
            have O3 := Lib.hid own3
            have BB3 := Lib.hid bq3
            clear own3 grow3 bq3
            generalize hw3 : w903 = wz3 at *
            clear hw3
            show K (Act.put _ (some 76) _) wz3
            refine hK.out _ _ ?_ (fun hNew => ?_)
            · exact ⟨⟨cell_later (BB3.out) HQC.out.1, cell_later (BB3.out) HQC.out.2.1, cell_later (BB3.out) HQC.out.2.2.1, cell_later (BB3.out) HQC.out.2.2.2.1, cell_later (BB3.out) HQC.out.2.2.2.2⟩, Lib.hid trivial⟩
            clear hK K hHeld
            have hHeld := hNew
            clear hNew
            try simp only [Act.put, List.setIfInBounds_toArray, List.set_cons_zero, List.set_cons_succ]
            refine takeH (i := 16) (v := ?_) rfl rfl (by kernel_rfl) (by kernel_rfl) (by kernel_rfl) (fun _ _ _ h => h) (by rfl) ?_ (by assumption) ?_
            rotate_left 1
            · intro w hSw
              (try dsimp only at hSw)
              go_simp
              try with_reducible rfl
            try simp only [List.setIfInBounds_toArray, List.set_cons_zero, List.set_cons_succ]
            refine wpAnyH_ready (rs := [17]) (by kernel_rfl) (by simp) ?_
            refine AllReadyH.cons rfl (fun K hK => ?_) (AllReadyH.nil)
            go_simp
            have be4 : Below wz3.heap.size wz3 (wz3.alloc (.cells #[.int .i64 0, .int .i64 0, .slice none 0 0, .int .i64 0, .slice none 0 0] 27)) := (Below.refl _ _).alloc (Nat.le_refl _) _
            have BB4 := Lib.hid (next BB3.out be4)
            have Z4 := Lib.hid (show OwnRX (wz3.alloc (.cells #[.int .i64 0, .int .i64 0, .slice none 0 0, .int .i64 0, .slice none 0 0] 27)) W.heap.size wz3.heap.size from rb_zero wz3 W.heap.size BB3.out.size)
            have O4 := Lib.hid (owni_later O3.out be4)
            generalize (wz3.alloc (.cells #[.int .i64 0, .int .i64 0, .slice none 0 0, .int .i64 0, .slice none 0 0] 27)) = wz4 at *
            refine hK.out _ _ ?_ (fun hNew => ?_)
            · exact ⟨⟨cell_later (BB4.out) HQC.out.1, cell_later (BB4.out) HQC.out.2.1, cell_later (BB4.out) HQC.out.2.2.1, cell_later (BB4.out) HQC.out.2.2.2.1, cell_later (BB4.out) HQC.out.2.2.2.2⟩, Lib.hid trivial⟩
            clear hK K hHeld
            have hHeld := hNew
            clear hNew
            try simp only [Act.put, List.setIfInBounds_toArray, List.set_cons_zero, List.set_cons_succ]
            refine wpAnyH_ready (rs := [18]) (by kernel_rfl) (by simp) ?_
            refine AllReadyH.cons rfl (fun K hK => ?_) (AllReadyH.nil)
            refine wp_stY 27 (.tmp 10) (.tmp 79) rfl (wz3.heap.size) #[.int .i64 f, .int .i64 b, .slice xa3 D3.length xc3, .int .i64 0, .slice d M.length e] (by simp [Act.eval]) (by simp [Act.eval]) (by simp [Value.oneCell']) infoR5s _ Z4.out.aty rfl ?_
            intro wz9 aa gg
            have HF := Lib.hid (less_end BB4.out Z4.out O4.out aa gg)
            clear aa gg
            refine hK.out _ _ ?_ (fun hNew => ?_)
            · exact ⟨⟨cell_later (HF.out.2.2.2) HQC.out.1, cell_later (HF.out.2.2.2) HQC.out.2.1, cell_later (HF.out.2.2.2) HQC.out.2.2.1, cell_later (HF.out.2.2.2) HQC.out.2.2.2.1, cell_later (HF.out.2.2.2) HQC.out.2.2.2.2⟩, Lib.hid trivial⟩
            clear hK K hHeld
            have hHeld := hNew
            clear hNew
            try simp only [Act.put, List.setIfInBounds_toArray, List.set_cons_zero, List.set_cons_succ]
            refine wpAnyH_done (by kernel_rfl) ?_ _
            clear hHeld
            go_wp2_with fail
            go_meet
            exact ⟨_, _, _, D3, rfl, HD3, HF⟩
          · go_simp
            have be3 : Below wz2.heap.size wz2 (wz2.alloc (.cells #[.int .i64 0, .int .i64 0, .slice none 0 0, .int .i64 0, .slice none 0 0] 27)) := (Below.refl _ _).alloc (Nat.le_refl _) _
            have BB3 := Lib.hid (next BB2.out be3)
            have Z3 := Lib.hid (show OwnRX (wz2.alloc (.cells #[.int .i64 0, .int .i64 0, .slice none 0 0, .int .i64 0, .slice none 0 0] 27)) W.heap.size wz2.heap.size from rb_zero wz2 W.heap.size BB2.out.size)
            have O3 := Lib.hid (owni_later O2.out be3)
            generalize (wz2.alloc (.cells #[.int .i64 0, .int .i64 0, .slice none 0 0, .int .i64 0, .slice none 0 0] 27)) = wz3 at *
            refine hK.out _ _ ?_ (fun hNew => ?_)
            · exact ⟨⟨cell_later (BB3.out) HQC.out.1, cell_later (BB3.out) HQC.out.2.1, cell_later (BB3.out) HQC.out.2.2.1, cell_later (BB3.out) HQC.out.2.2.2.1, cell_later (BB3.out) HQC.out.2.2.2.2⟩, Lib.hid trivial⟩
            clear hK K hHeld
            have hHeld := hNew
            clear hNew
            try simp only [Act.put, List.setIfInBounds_toArray, List.set_cons_zero, List.set_cons_succ]
            refine wpAnyH_ready (rs := [13]) (by kernel_rfl) (by simp) ?_
            refine AllReadyH.cons rfl (fun K hK => ?_) (AllReadyH.nil)
            refine wp_appI (.tmp 70) (.tmp 75) rfl W.heap.size (.slice xa2 D1.length xc2) D1 (by simp [Act.eval]) O3.out (some ⟨pb, po + (J + 1), none⟩) (c - (J + 1)) D2 (by simp [Act.eval, HL2.out]) (HI2.out.below BB3.out) HX1.out.2.1 (by have := HX1.out; first | (simp; omega) | omega) BB3.out.size ?_
            intro v4 w904 own4 grow4
            have bq4 : Below W.heap.size W w904 := below_app BB3.out O3.out (Nat.le_refl _) grow4
            obtain ⟨D3, hD3⟩ : ∃ D3 : List Int, D1 ++ D2 = D3 := ⟨_, rfl⟩
            have HD3 := Lib.hid hD3
            rw [hD3] at own4
            clear hD3
            have Z4 := Lib.hid (Z3.out.app O3.out grow4)
            obtain ⟨xa4, xc4, rfl, _, _⟩ := OwnI.tab own4
            have O4 := Lib.hid own4
            have BB4 := Lib.hid bq4
            clear own4 grow4 bq4
            generalize hw4 : w904 = wz4 at *
            clear hw4
            show K (Act.put _ (some 76) _) wz4
            refine hK.out _ _ ?_ (fun hNew => ?_)
            · exact ⟨⟨cell_later (BB4.out) HQC.out.1, cell_later (BB4.out) HQC.out.2.1, cell_later (BB4.out) HQC.out.2.2.1, cell_later (BB4.out) HQC.out.2.2.2.1, cell_later (BB4.out) HQC.out.2.2.2.2⟩, Lib.hid trivial⟩
            clear hK K hHeld
            have hHeld := hNew
            clear hNew
            try simp only [Act.put, List.setIfInBounds_toArray, List.set_cons_zero, List.set_cons_succ]
            refine takeH (i := 16) (v := ?_) rfl rfl (by kernel_rfl) (by kernel_rfl) (by kernel_rfl) (fun _ _ _ h => h) (by rfl) ?_ (by assumption) ?_
            rotate_left 1
            · intro w hSw
              (try dsimp only at hSw)
              go_simp
              try with_reducible rfl
            try simp only [List.setIfInBounds_toArray, List.set_cons_zero, List.set_cons_succ]
            refine wpAnyH_ready (rs := [18]) (by kernel_rfl) (by simp) ?_
            refine AllReadyH.cons rfl (fun K hK => ?_) (AllReadyH.nil)
            refine wp_stY 27 (.tmp 10) (.tmp 79) rfl (wz2.heap.size) #[.int .i64 f, .int .i64 b, .slice xa4 D3.length xc4, .int .i64 0, .slice d M.length e] (by simp [Act.eval]) (by simp [Act.eval]) (by simp [Value.oneCell']) infoR5s _ Z4.out.aty rfl ?_
            intro wz9 aa gg
            have HF := Lib.hid (less_end BB4.out Z4.out O4.out aa gg)
            clear aa gg
            refine hK.out _ _ ?_ (fun hNew => ?_)
            · exact ⟨⟨cell_later (HF.out.2.2.2) HQC.out.1, cell_later (HF.out.2.2.2) HQC.out.2.1, cell_later (HF.out.2.2.2) HQC.out.2.2.1, cell_later (HF.out.2.2.2) HQC.out.2.2.2.1, cell_later (HF.out.2.2.2) HQC.out.2.2.2.2⟩, Lib.hid trivial⟩
            clear hK K hHeld
            have hHeld := hNew
            clear hNew
            try simp only [Act.put, List.setIfInBounds_toArray, List.set_cons_zero, List.set_cons_succ]
            refine wpAnyH_done (by kernel_rfl) ?_ _
            clear hHeld
            go_wp2_with fail
            go_meet
            exact ⟨_, _, _, D3, rfl, HD3, HF⟩
        · go_simp
          have be2 : Below wz1.heap.size wz1 (wz1.alloc (.cells #[.int .i64 0, .int .i64 0, .slice none 0 0, .int .i64 0, .slice none 0 0] 27)) := (Below.refl _ _).alloc (Nat.le_refl _) _
          have BB2 := Lib.hid (next BB1.out be2)
          have Z2 := Lib.hid (show OwnRX (wz1.alloc (.cells #[.int .i64 0, .int .i64 0, .slice none 0 0, .int .i64 0, .slice none 0 0] 27)) W.heap.size wz1.heap.size from rb_zero wz1 W.heap.size BB1.out.size)
          have O2 := Lib.hid (owni_later O1.out be2)
          generalize (wz1.alloc (.cells #[.int .i64 0, .int .i64 0, .slice none 0 0, .int .i64 0, .slice none 0 0] 27)) = wz2 at *
          refine hK.out _ _ ?_ (fun hNew => ?_)
          · exact ⟨⟨cell_later (BB2.out) HQC.out.1, cell_later (BB2.out) HQC.out.2.1, cell_later (BB2.out) HQC.out.2.2.1, cell_later (BB2.out) HQC.out.2.2.2.1, cell_later (BB2.out) HQC.out.2.2.2.2⟩, Lib.hid trivial⟩
          clear hK K hHeld
          have hHeld := hNew
          clear hNew
          try simp only [Act.put, List.setIfInBounds_toArray, List.set_cons_zero, List.set_cons_succ]
          refine wpAnyH_ready (rs := [7]) (by kernel_rfl) (by simp) ?_
          refine AllReadyH.cons rfl (fun K hK => ?_) (AllReadyH.nil)
          refine wp_appI (.tmp 65) (.tmp 69) rfl W.heap.size (.slice (some ⟨W.heap.size, 0, none⟩) 0 0) [] (by simp [Act.eval]) O2.out (some ⟨pb, po, none⟩) c D1 (by simp [Act.eval, HL1.out]) (HI1.out.below BB2.out) HX1.out.1 (by have := HX1.out; first | (simp; omega) | omega) BB2.out.size ?_
          intro v3 w903 own3 grow3
          have bq3 : Below W.heap.size W w903 := below_app BB2.out O2.out (Nat.le_refl _) grow3
          replace own3 : OwnI w903 W.heap.size v3 D1 := own3
          have Z3 := Lib.hid (Z2.out.app O2.out grow3)
          obtain ⟨xa3, xc3, rfl, _, _⟩ := OwnI.tab own3
          have O3 := Lib.hid own3
          have BB3 := Lib.hid bq3
          clear own3 grow3 bq3
          generalize hw3 : w903 = wz3 at *
          clear hw3
          show K (Act.put _ (some 70) _) wz3
          refine hK.out _ _ ?_ (fun hNew => ?_)
          · exact ⟨⟨cell_later (BB3.out) HQC.out.1, cell_later (BB3.out) HQC.out.2.1, cell_later (BB3.out) HQC.out.2.2.1, cell_later (BB3.out) HQC.out.2.2.2.1, cell_later (BB3.out) HQC.out.2.2.2.2⟩, Lib.hid trivial⟩
          clear hK K hHeld
          have hHeld := hNew
          clear hNew
          try simp only [Act.put, List.setIfInBounds_toArray, List.set_cons_zero, List.set_cons_succ]
          refine wpAnyH_ready (rs := [13]) (by kernel_rfl) (by simp) ?_
          refine AllReadyH.cons rfl (fun K hK => ?_) (AllReadyH.nil)
          refine wp_appI (.tmp 70) (.tmp 75) rfl W.heap.size (.slice xa3 D1.length xc3) D1 (by simp [Act.eval]) O3.out (some ⟨pb, po + (J + 1), none⟩) (c - (J + 1)) D2 (by simp [Act.eval, HL2.out]) (HI2.out.below BB3.out) HX1.out.2.1 (by have := HX1.out; first | (simp; omega) | omega) BB3.out.size ?_
          intro v4 w904 own4 grow4
          have bq4 : Below W.heap.size W w904 := below_app BB3.out O3.out (Nat.le_refl _) grow4
          obtain ⟨D3, hD3⟩ : ∃ D3 : List Int, D1 ++ D2 = D3 := ⟨_, rfl⟩
          have HD3 := Lib.hid hD3
          rw [hD3] at own4
          clear hD3
          have Z4 := Lib.hid (Z3.out.app O3.out grow4)
          obtain ⟨xa4, xc4, rfl, _, _⟩ := OwnI.tab own4
          have O4 := Lib.hid own4
          have BB4 := Lib.hid bq4
          clear own4 grow4 bq4
          generalize hw4 : w904 = wz4 at *
          clear hw4
          show K (Act.put _ (some 76) _) wz4
          refine hK.out _ _ ?_ (fun hNew => ?_)
          · exact ⟨⟨cell_later (BB4.out) HQC.out.1, cell_later (BB4.out) HQC.out.2.1, cell_later (BB4.out) HQC.out.2.2.1, cell_later (BB4.out) HQC.out.2.2.2.1, cell_later (BB4.out) HQC.out.2.2.2.2⟩, Lib.hid trivial⟩
          clear hK K hHeld
          have hHeld := hNew
          clear hNew
          try simp only [Act.put, List.setIfInBounds_toArray, List.set_cons_zero, List.set_cons_succ]
          refine takeH (i := 16) (v := ?_) rfl rfl (by kernel_rfl) (by kernel_rfl) (by kernel_rfl) (fun _ _ _ h => h) (by rfl) ?_ (by assumption) ?_
          rotate_left 1
          · intro w hSw
            (try dsimp only at hSw)
            go_simp
            try with_reducible rfl
          try simp only [List.setIfInBounds_toArray, List.set_cons_zero, List.set_cons_succ]
          refine wpAnyH_ready (rs := [18]) (by kernel_rfl) (by simp) ?_
          refine AllReadyH.cons rfl (fun K hK => ?_) (AllReadyH.nil)
          refine wp_stY 27 (.tmp 10) (.tmp 79) rfl (wz1.heap.size) #[.int .i64 f, .int .i64 b, .slice xa4 D3.length xc4, .int .i64 0, .slice d M.length e] (by simp [Act.eval]) (by simp [Act.eval]) (by simp [Value.oneCell']) infoR5s _ Z4.out.aty rfl ?_
          intro wz9 aa gg
          have HF := Lib.hid (less_end BB4.out Z4.out O4.out aa gg)
          clear aa gg
          refine hK.out _ _ ?_ (fun hNew => ?_)
          · exact ⟨⟨cell_later (HF.out.2.2.2) HQC.out.1, cell_later (HF.out.2.2.2) HQC.out.2.1, cell_later (HF.out.2.2.2) HQC.out.2.2.1, cell_later (HF.out.2.2.2) HQC.out.2.2.2.1, cell_later (HF.out.2.2.2) HQC.out.2.2.2.2⟩, Lib.hid trivial⟩
          clear hK K hHeld
          have hHeld := hNew
          clear hNew
          try simp only [Act.put, List.setIfInBounds_toArray, List.set_cons_zero, List.set_cons_succ]
          refine wpAnyH_done (by kernel_rfl) ?_ _
          clear hHeld
          go_wp2_with fail
          go_meet
          exact ⟨_, _, _, D3, rfl, HD3, HF⟩
      · go_simp
        have be1 : Below W.drew.heap.size W.drew ((W.alloc (.cells #[.int .i64 0, .int .i64 0, .slice none 0 0, .int .i64 0, .slice none 0 0] 27)).drew) := (show Below W.drew.heap.size W.drew (W.drew.alloc (.cells #[.int .i64 0, .int .i64 0, .slice none 0 0, .int .i64 0, .slice none 0 0] 27)) from (Below.refl _ _).alloc (Nat.le_refl _) _)
        have BB1 := Lib.hid (next ((Below.refl W.heap.size W).drew) be1)
        have Z1 := Lib.hid (show OwnRX ((W.alloc (.cells #[.int .i64 0, .int .i64 0, .slice none 0 0, .int .i64 0, .slice none 0 0] 27)).drew) W.heap.size W.heap.size from rb_zero W.drew W.heap.size (Nat.le_refl _))
        generalize ((W.alloc (.cells #[.int .i64 0, .int .i64 0, .slice none 0 0, .int .i64 0, .slice none 0 0] 27)).drew) = wz1 at *
        refine hK.out _ _ ?_ (fun hNew => ?_)
        · exact ⟨⟨cell_later (BB1.out) HQC.out.1, cell_later (BB1.out) HQC.out.2.1, cell_later (BB1.out) HQC.out.2.2.1, cell_later (BB1.out) HQC.out.2.2.2.1, cell_later (BB1.out) HQC.out.2.2.2.2⟩, Lib.hid trivial⟩
        clear hK K hHeld
        have hHeld := hNew
        clear hNew
        try simp only [Act.put, List.setIfInBounds_toArray, List.set_cons_zero, List.set_cons_succ]
        refine wpAnyH_ready (rs := [2]) (by kernel_rfl) (by simp) ?_
        refine AllReadyH.cons rfl (fun K hK => ?_) (AllReadyH.nil)
        go_simp
        have be2 : Below wz1.heap.size wz1 (wz1.alloc (.cells #[] 3)) := (Below.refl _ _).alloc (Nat.le_refl _) _
        have BB2 := Lib.hid (next BB1.out be2)
        have O2 := Lib.hid (show OwnI (wz1.alloc (.cells #[] 3)) W.heap.size (.slice (some ⟨wz1.heap.size, 0, none⟩) 0 0) [] from owni_empty wz1 W.heap.size BB1.out.size)
        have Z2 := Lib.hid (Z1.out.later be2)
        generalize (wz1.alloc (.cells #[] 3)) = wz2 at *
        refine hK.out _ _ ?_ (fun hNew => ?_)
        · exact ⟨⟨cell_later (BB2.out) HQC.out.1, cell_later (BB2.out) HQC.out.2.1, cell_later (BB2.out) HQC.out.2.2.1, cell_later (BB2.out) HQC.out.2.2.2.1, cell_later (BB2.out) HQC.out.2.2.2.2⟩, Lib.hid trivial⟩
        clear hK K hHeld
        have hHeld := hNew
        clear hNew
        try simp only [Act.put, List.setIfInBounds_toArray, List.set_cons_zero, List.set_cons_succ]
        refine wpAnyH_ready (rs := [7]) (by kernel_rfl) (by simp) ?_
        refine AllReadyH.cons rfl (fun K hK => ?_) (AllReadyH.nil)
        refine wp_appI (.tmp 65) (.tmp 69) rfl W.heap.size (.slice (some ⟨wz1.heap.size, 0, none⟩) 0 0) [] (by simp [Act.eval]) O2.out (some ⟨pb, po, none⟩) c D1 (by simp [Act.eval, HL1.out]) (HI1.out.below BB2.out) HX1.out.1 (by have := HX1.out; first | (simp; omega) | omega) BB2.out.size ?_
        intro v3 w903 own3 grow3
        have bq3 : Below W.heap.size W w903 := below_app BB2.out O2.out (Nat.le_refl _) grow3
        replace own3 : OwnI w903 W.heap.size v3 D1 := own3
        have Z3 := Lib.hid (Z2.out.app O2.out grow3)
        obtain ⟨xa3, xc3, rfl, _, _⟩ := OwnI.tab own3
        have O3 := Lib.hid own3
        have BB3 := Lib.hid bq3
        clear own3 grow3 bq3
        generalize hw3 : w903 = wz3 at *
        clear hw3
        show K (Act.put _ (some 70) _) wz3
        refine hK.out _ _ ?_ (fun hNew => ?_)
        · exact ⟨⟨cell_later (BB3.out) HQC.out.1, cell_later (BB3.out) HQC.out.2.1, cell_later (BB3.out) HQC.out.2.2.1, cell_later (BB3.out) HQC.out.2.2.2.1, cell_later (BB3.out) HQC.out.2.2.2.2⟩, Lib.hid trivial⟩
        clear hK K hHeld
        have hHeld := hNew
        clear hNew
        try simp only [Act.put, List.setIfInBounds_toArray, List.set_cons_zero, List.set_cons_succ]
        refine wpAnyH_ready (rs := [13]) (by kernel_rfl) (by simp) ?_
        refine AllReadyH.cons rfl (fun K hK => ?_) (AllReadyH.nil)
        refine wp_appI (.tmp 70) (.tmp 75) rfl W.heap.size (.slice xa3 D1.length xc3) D1 (by simp [Act.eval]) O3.out (some ⟨pb, po + (J + 1), none⟩) (c - (J + 1)) D2 (by simp [Act.eval, HL2.out]) (HI2.out.below BB3.out) HX1.out.2.1 (by have := HX1.out; first | (simp; omega) | omega) BB3.out.size ?_
        intro v4 w904 own4 grow4
        have bq4 : Below W.heap.size W w904 := below_app BB3.out O3.out (Nat.le_refl _) grow4
        obtain ⟨D3, hD3⟩ : ∃ D3 : List Int, D1 ++ D2 = D3 := ⟨_, rfl⟩
        have HD3 := Lib.hid hD3
        rw [hD3] at own4
        clear hD3
        have Z4 := Lib.hid (Z3.out.app O3.out grow4)
        obtain ⟨xa4, xc4, rfl, _, _⟩ := OwnI.tab own4
        have O4 := Lib.hid own4
        have BB4 := Lib.hid bq4
        clear own4 grow4 bq4
        generalize hw4 : w904 = wz4 at *
        clear hw4
        show K (Act.put _ (some 76) _) wz4
        refine hK.out _ _ ?_ (fun hNew => ?_)
        · exact ⟨⟨cell_later (BB4.out) HQC.out.1, cell_later (BB4.out) HQC.out.2.1, cell_later (BB4.out) HQC.out.2.2.1, cell_later (BB4.out) HQC.out.2.2.2.1, cell_later (BB4.out) HQC.out.2.2.2.2⟩, Lib.hid trivial⟩
        clear hK K hHeld
        have hHeld := hNew
        clear hNew
        try simp only [Act.put, List.setIfInBounds_toArray, List.set_cons_zero, List.set_cons_succ]
        refine takeH (i := 16) (v := ?_) rfl rfl (by kernel_rfl) (by kernel_rfl) (by kernel_rfl) (fun _ _ _ h => h) (by rfl) ?_ (by assumption) ?_
        rotate_left 1
        · intro w hSw
          (try dsimp only at hSw)
          go_simp
          try with_reducible rfl
        try simp only [List.setIfInBounds_toArray, List.set_cons_zero, List.set_cons_succ]
        refine wpAnyH_ready (rs := [18]) (by kernel_rfl) (by simp) ?_
        refine AllReadyH.cons rfl (fun K hK => ?_) (AllReadyH.nil)
        refine wp_stY 27 (.tmp 10) (.tmp 79) rfl (W.heap.size) #[.int .i64 f, .int .i64 b, .slice xa4 D3.length xc4, .int .i64 0, .slice d M.length e] (by simp [Act.eval]) (by simp [Act.eval]) (by simp [Value.oneCell']) infoR5s _ Z4.out.aty rfl ?_
        intro wz9 aa gg
        have HF := Lib.hid (less_end BB4.out Z4.out O4.out aa gg)
        clear aa gg
        refine hK.out _ _ ?_ (fun hNew => ?_)
        · exact ⟨⟨cell_later (HF.out.2.2.2) HQC.out.1, cell_later (HF.out.2.2.2) HQC.out.2.1, cell_later (HF.out.2.2.2) HQC.out.2.2.1, cell_later (HF.out.2.2.2) HQC.out.2.2.2.1, cell_later (HF.out.2.2.2) HQC.out.2.2.2.2⟩, Lib.hid trivial⟩
        clear hK K hHeld
        have hHeld := hNew
        clear hNew
        try simp only [Act.put, List.setIfInBounds_toArray, List.set_cons_zero, List.set_cons_succ]
        refine wpAnyH_done (by kernel_rfl) ?_ _
        clear hHeld
        go_wp2_with fail
        go_meet
        exact ⟨_, _, _, D3, rfl, HD3, HF⟩
    case rest =>
      obtain ⟨nb, xa, xc, D3, rfl, HD3, HF⟩ := hcut
      obtain ⟨w6, hw6⟩ : ∃ W, W = wc := ⟨_, rfl⟩
      subst hw6
      have HS7 := Lib.hid (HS6.out.go HF.out.2.2.2)
      have HH7 := Lib.hid (HH6.out.below HF.out.2.2.2)
      have HL7 := Lib.hid (HL6.out.below HF.out.2.2.2)
      have HI7 := Lib.hid (HI2.out.below HF.out.2.2.2)
      clear HS6 HH6 HL6 HQC HI1 HI2 ek i0 i1
      obtain ⟨q0, q1, q2, q3, q4⟩ := HS7.out.box.five
      go_upto_region 10 with fail
      have HQ7 := Lib.hid (And.intro q0 (And.intro q1 (And.intro q2 (And.intro q3 q4))))
      clear q0 q1 q2 q3 q4
      go_cut [11] from 80 (fun bx wx => bx = .pointer (some ⟨w6.heap.size, 0, none⟩) ∧ Hid (AtY wx w6.heap.size [.int .i64 f, .int .i64 b, .slice (some ⟨pb, po + (J + 1), none⟩) D2.length (c - (J + 1)), .int .i64 0, .slice d M.length e] ∧ Below w6.heap.size w6 wx))
      case first =>
        refine wp_region_held_drew (S := fun Wx => (Wx.cell? ⟨w1.heap.size, 0, none⟩ = some (.int .i64 f) ∧ Wx.cell? ⟨w1.heap.size, 1, none⟩ = some (.int .i64 b) ∧ Wx.cell? ⟨w1.heap.size, 2, none⟩ = some (.slice (some ⟨pb, po, none⟩) P.length c) ∧ Wx.cell? ⟨w1.heap.size, 3, none⟩ = some (.int .i64 l) ∧ Wx.cell? ⟨w1.heap.size, 4, none⟩ = some (.slice d M.length e)) ∧ Hid True) (by kernel_rfl) ?_ (fun hHeld => ?_)
        · exact ⟨HQ7.out, Lib.hid trivial⟩
        refine takeH (i := 0) (v := ?_) rfl rfl (by kernel_rfl) (by kernel_rfl) (by kernel_rfl) (fun _ _ _ h => h) (by rfl) ?_ (by assumption) ?_
        rotate_left 1
        · intro w hSw
          (try dsimp only at hSw)
          go_simp
          try with_reducible rfl
        try simp only [List.setIfInBounds_toArray, List.set_cons_zero, List.set_cons_succ]
        refine takeH (i := 1) (v := ?_) rfl rfl (by kernel_rfl) (by kernel_rfl) (by kernel_rfl) (fun _ _ _ h => h) (by rfl) ?_ (by assumption) ?_
        rotate_left 1
        · intro w hSw
          (try dsimp only at hSw)
          go_simp
          try with_reducible rfl
        try simp only [List.setIfInBounds_toArray, List.set_cons_zero, List.set_cons_succ]
        refine takeH (i := 2) (v := ?_) rfl rfl (by kernel_rfl) (by kernel_rfl) (by kernel_rfl) (fun _ _ _ h => h) (by rfl) ?_ (by assumption) ?_
        rotate_left 1
        · intro w hSw
          (try dsimp only at hSw)
          go_simp
          try with_reducible rfl
        try simp only [List.setIfInBounds_toArray, List.set_cons_zero, List.set_cons_succ]
        refine takeH (i := 3) (v := ?_) rfl rfl (by kernel_rfl) (by kernel_rfl) (by kernel_rfl) (fun _ _ _ h => h) (by rfl) ?_ (by assumption) ?_
        rotate_left 1
        · intro w hSw
          (try dsimp only at hSw)
          go_simp
          try with_reducible rfl
        try simp only [List.setIfInBounds_toArray, List.set_cons_zero, List.set_cons_succ]
        refine takeH (i := 4) (v := ?_) rfl rfl (by kernel_rfl) (by kernel_rfl) (by kernel_rfl) (fun _ _ _ h => h) (by rfl) ?_ (by assumption) ?_
        rotate_left 1
        · intro w hSw
          (try dsimp only at hSw)
          go_simp
          try with_reducible rfl
        try simp only [List.setIfInBounds_toArray, List.set_cons_zero, List.set_cons_succ]
        refine takeH (i := 5) (v := ?_) rfl rfl (by kernel_rfl) (by kernel_rfl) (by kernel_rfl) (fun _ _ _ h => h) (by rfl) ?_ (by assumption) ?_
        rotate_left 1
        · intro w hSw
          (try dsimp only at hSw)
          go_simp
          try with_reducible rfl
        try simp only [List.setIfInBounds_toArray, List.set_cons_zero, List.set_cons_succ]
        refine takeH (i := 6) (v := ?_) rfl rfl (by kernel_rfl) (by kernel_rfl) (by kernel_rfl) (fun _ _ _ h => h) (by rfl) ?_ (by assumption) ?_
        rotate_left 1
        · intro w hSw
          (try dsimp only at hSw)
          go_simp
          try with_reducible rfl
        try simp only [List.setIfInBounds_toArray, List.set_cons_zero, List.set_cons_succ]
        refine takeH (i := 7) (v := ?_) rfl rfl (by kernel_rfl) (by kernel_rfl) (by kernel_rfl) (fun _ _ _ h => h) (by rfl) ?_ (by assumption) ?_
        rotate_left 1
        · intro w hSw
          (try dsimp only at hSw)
          go_simp
          try with_reducible rfl
        try simp only [List.setIfInBounds_toArray, List.set_cons_zero, List.set_cons_succ]
        refine takeH (i := 8) (v := ?_) rfl rfl (by kernel_rfl) (by kernel_rfl) (by kernel_rfl) (fun _ _ _ h => h) (by rfl) ?_ (by assumption) ?_
        rotate_left 1
        · intro w hSw
          (try dsimp only at hSw)
          go_simp
          try with_reducible rfl
        try simp only [List.setIfInBounds_toArray, List.set_cons_zero, List.set_cons_succ]
        refine takeH (i := 9) (v := ?_) rfl rfl (by kernel_rfl) (by kernel_rfl) (by kernel_rfl) (fun _ _ _ h => h) (by rfl) ?_ (by assumption) ?_
        rotate_left 1
        · intro w hSw
          (try dsimp only at hSw)
          go_simp
          try with_reducible rfl
        try simp only [List.setIfInBounds_toArray, List.set_cons_zero, List.set_cons_succ]
        refine wpAnyH_ready (rs := [10]) (by kernel_rfl) (by simp) ?_
        refine AllReadyH.cons rfl (fun K hK => ?_) (AllReadyH.nil)
        go_simp
        have be1 : Below w6.drew.heap.size w6.drew ((w6.alloc (.cells #[.int .i64 0, .int .i64 0, .slice none 0 0, .int .i64 0, .slice none 0 0] 27)).drew) := (show Below w6.drew.heap.size w6.drew (w6.drew.alloc (.cells #[.int .i64 0, .int .i64 0, .slice none 0 0, .int .i64 0, .slice none 0 0] 27)) from (Below.refl _ _).alloc (Nat.le_refl _) _)
        have BB1 := Lib.hid (next ((Below.refl w6.heap.size w6).drew) be1)
        have Z1 := Lib.hid (show AtY ((w6.alloc (.cells #[.int .i64 0, .int .i64 0, .slice none 0 0, .int .i64 0, .slice none 0 0] 27)).drew) w6.heap.size zR5 from AtY.new5 w6.drew _ _ _ _ _ _)
        generalize (w6.alloc (.cells #[.int .i64 0, .int .i64 0, .slice none 0 0, .int .i64 0, .slice none 0 0] 27)).drew = wz1 at *
        refine hK.out _ _ ?_ (fun hNew => ?_)
        · exact ⟨⟨cell_later (BB1.out) HQ7.out.1, cell_later (BB1.out) HQ7.out.2.1, cell_later (BB1.out) HQ7.out.2.2.1, cell_later (BB1.out) HQ7.out.2.2.2.1, cell_later (BB1.out) HQ7.out.2.2.2.2⟩, Lib.hid trivial⟩
        clear hK K hHeld
        have hHeld := hNew
        clear hNew
        try simp only [Act.put, List.setIfInBounds_toArray, List.set_cons_zero, List.set_cons_succ]
        refine wpAnyH_ready (rs := [11]) (by kernel_rfl) (by simp) ?_
        refine AllReadyH.cons rfl (fun K hK => ?_) (AllReadyH.nil)
        refine wp_stY 27 (.tmp 11) (.tmp 89) rfl w6.heap.size #[.int .i64 f, .int .i64 b, .slice (some ⟨pb, po + (J + 1), none⟩) D2.length (c - (J + 1)), .int .i64 0, .slice d M.length e] (by simp [Act.eval]) (by simp [Act.eval, HL2.out]) (by simp [Value.oneCell']) infoR5s _ Z1.out rfl ?_
        intro wz9 aa gg
        have HE9 := Lib.hid (And.intro aa (BB1.out.grown gg BB1.out.size (fun k hk => by cases hk; exact Nat.le_refl _)))
        clear aa gg
        refine hK.out _ _ ?_ (fun hNew => ?_)
        · exact ⟨⟨cell_later (HE9.out.2) HQ7.out.1, cell_later (HE9.out.2) HQ7.out.2.1, cell_later (HE9.out.2) HQ7.out.2.2.1, cell_later (HE9.out.2) HQ7.out.2.2.2.1, cell_later (HE9.out.2) HQ7.out.2.2.2.2⟩, Lib.hid trivial⟩
        clear hK K hHeld
        have hHeld := hNew
        clear hNew
        try simp only [Act.put, List.setIfInBounds_toArray, List.set_cons_zero, List.set_cons_succ]
        refine wpAnyH_done (by kernel_rfl) ?_ _
        clear hHeld
        go_wp2_with fail
        go_meet
        exact ⟨(by simp), HE9⟩
      case rest =>
        obtain ⟨rfl, HE9⟩ := hcut
        obtain ⟨w7, hw7⟩ : ∃ W, W = wc := ⟨_, rfl⟩
        subst hw7
        have HS8 := Lib.hid (HS7.out.go HE9.out.2)
        have HH8 := Lib.hid (HH7.out.below HE9.out.2)
        have HL8 := Lib.hid (HL7.out.below HE9.out.2)
        have HI8 := Lib.hid (HI7.out.below HE9.out.2)
        have HJ8 := Lib.hid (HF.out.2.1.below HE9.out.2)
        have HA8 := Lib.hid (HF.out.2.2.1.below HE9.out.2)
        have HR8 := Lib.hid HE9.out.1
        have hx3 : D3.length ≤ xc := HF.out.1
        have hd3 : D3.length ≤ 12 := by rw [← HD3.out]; simp; have := HX1.out; omega
        have hd2 : D2.length ≤ c - (J + 1) ∧ D2.length ≤ 6 := by have := HX1.out; omega
        have HMe := Lib.hid HS8.out.rt.2.2.1
        have HRT := Lib.hid (show RtM w7 xa xc D3 d e M from ⟨⟨HJ8.out, HS8.out.rt.1.2⟩, hx3, HS8.out.rt.2.2.1, by omega, by omega⟩)
        have HRR := Lib.hid (show RtM w7 (some ⟨pb, po + (J + 1), none⟩) (c - (J + 1)) D2 d e M from ⟨⟨HI8.out, HS8.out.rt.1.2⟩, hd2.1, HS8.out.rt.2.2.1, by omega, by omega⟩)
        obtain ⟨u, hu⟩ : ∃ u, P.getD J 0 = u := ⟨_, rfl⟩
        have HU := Lib.hid hu
        have cu := path_at HS8.out.rt.1.1 hlt1
        rw [hu] at cu
        obtain ⟨N, hN⟩ : ∃ N : Nat, (len1 : Int) % 5 = (N : Int) ∧ N ≤ 4 := ⟨len1 % 5, by omega, by omega⟩
        obtain ⟨hN, hN4⟩ := hN
        have htm : (len1 : Int).tmod 5 = (N : Int) := by rw [Int.tmod_eq_emod_of_nonneg (by omega)]; exact hN
        obtain ⟨O, hO⟩ : ∃ O, 1 + (N : Int) = O := ⟨_, rfl⟩
        have hwr : IntKind.i64.wrap (1 + (N : Int)) = O := by rw [IntKind.wrap_i64]; omega
        have hO5 : 1 ≤ O ∧ O ≤ 5 := by omega
        have HZ1 := Lib.hid (show decide (lackM [⟨g, 0, 0⟩] L f b D3 0 M t = 0) = false from decide_eq_false (by rw [← HD3.out, ← HD1.out, ← HD2.out]; exact less_no HK.out HA.out hP2 HJP.out))
        have HZ2 := Lib.hid (show decide (lackM [⟨g, 0, 0⟩] L f b D2 0 M u = 0) = true from decide_eq_true (by rw [← HD2.out, ← hu, ← HG.out]; exact rest_ok HK.out HA.out HJP.out))
        have HZ3 := Lib.hid (show O ≠ u → decide (lackM [⟨g, 0, 0⟩] L f b D2 0 M O = 0) = false from fun ne => decide_eq_false (by rw [← HD2.out]; exact rest_no HK.out HA.out HJP.out (by rw [hu]; exact ne)))
        obtain ⟨r0, r1, r2, r3, r4⟩ := HS8.out.box.five
        obtain ⟨s0, s1, s2, s3, s4⟩ := HA8.out.five
        obtain ⟨z0, z1, z2, z3, z4⟩ := HR8.out.five
        have hJP' : (J : Int) < (P.length : Int) := by omega
        have HQ8 := Lib.hid (And.intro r2 (And.intro cu (And.intro s0 (And.intro s1 (And.intro s2 (And.intro s3 (And.intro s4 (And.intro z0 (And.intro z1 (And.intro z2 (And.intro z3 z4)))))))))))
        clear r0 r1 r2 r3 r4 s0 s1 s2 s3 s4 z0 z1 z2 z3 z4 cu hu HS7 HH7 HL7 HI7 HF HE9 HQ7 jK j1 j2 j3 j3' j4 j4' j5 j5' hN hO
        go_upto_region 12 with fail
        try rw [hwr]
        by_cases e1 : O = u
        · have e2 : (O == u) = true := by simp [e1]
          clear e1
          refine wp_region_held_drew (S := fun Wx => (Wx.cell? ⟨w1.heap.size, 2, none⟩ = some (.slice (some ⟨pb, po, none⟩) P.length c) ∧ Wx.cell? ⟨pb, po + J, none⟩ = some (.int .i64 u) ∧ Wx.cell? ⟨nb, 0, none⟩ = some (.int .i64 f) ∧ Wx.cell? ⟨nb, 1, none⟩ = some (.int .i64 b) ∧ Wx.cell? ⟨nb, 2, none⟩ = some (.slice xa D3.length xc) ∧ Wx.cell? ⟨nb, 3, none⟩ = some (.int .i64 0) ∧ Wx.cell? ⟨nb, 4, none⟩ = some (.slice d M.length e) ∧ Wx.cell? ⟨w6.heap.size, 0, none⟩ = some (.int .i64 f) ∧ Wx.cell? ⟨w6.heap.size, 1, none⟩ = some (.int .i64 b) ∧ Wx.cell? ⟨w6.heap.size, 2, none⟩ = some (.slice (some ⟨pb, po + (J + 1), none⟩) D2.length (c - (J + 1))) ∧ Wx.cell? ⟨w6.heap.size, 3, none⟩ = some (.int .i64 0) ∧ Wx.cell? ⟨w6.heap.size, 4, none⟩ = some (.slice d M.length e)) ∧ Hid True) (by kernel_rfl) ?_ (fun hHeld => ?_)
          · exact ⟨HQ8.out, Lib.hid trivial⟩
          refine takeH (i := 0) (v := ?_) rfl rfl (by kernel_rfl) (by kernel_rfl) (by kernel_rfl) (fun _ _ _ h => h) (by rfl) ?_ (by assumption) ?_
          rotate_left 1
          · intro w hSw
            (try dsimp only at hSw)
            go_simp
            try with_reducible rfl
          try simp only [List.setIfInBounds_toArray, List.set_cons_zero, List.set_cons_succ]
          refine takeH (i := 1) (v := ?_) rfl rfl (by kernel_rfl) (by kernel_rfl) (by kernel_rfl) (fun _ _ _ h => h) (by rfl) ?_ (by assumption) ?_
          rotate_left 1
          · intro w hSw
            (try dsimp only at hSw)
            go_simp
            try with_reducible rfl
          try simp only [List.setIfInBounds_toArray, List.set_cons_zero, List.set_cons_succ]
          refine takeH (i := 2) (v := ?_) rfl rfl (by kernel_rfl) (by kernel_rfl) (by kernel_rfl) (fun _ _ _ h => h) (by rfl) ?_ (by assumption) ?_
          rotate_left 1
          · intro w hSw
            (try dsimp only at hSw)
            go_simp
            try with_reducible rfl
          try simp only [List.setIfInBounds_toArray, List.set_cons_zero, List.set_cons_succ]
          refine takeH (i := 3) (v := ?_) rfl rfl (by kernel_rfl) (by kernel_rfl) (by kernel_rfl) (fun _ _ _ h => h) (by rfl) ?_ (by assumption) ?_
          rotate_left 1
          · intro w hSw
            (try dsimp only at hSw)
            go_simp
            try with_reducible rfl
          try simp only [List.setIfInBounds_toArray, List.set_cons_zero, List.set_cons_succ]
          refine wpAnyH_ready (rs := [4]) (by kernel_rfl) (by simp) ?_
          refine AllReadyH.cons rfl (fun K hK => ?_) (AllReadyH.nil)
          go_simp
          refine (isealok_is [⟨g, 0, 0⟩] L HWL.out (some ⟨w5.heap.size, 0, none⟩) la 1 lc f b xa xc D3 0 d e M t HZ1.out _ p (HH8.out.below ((Below.refl w7.heap.size w7).drew)) (by simp) (HL8.out.below ((Below.refl w7.heap.size w7).drew)) (by omega) (HRT.out.below ((Below.refl w7.heap.size w7).drew)) (HS8.out.ev.below ((Below.refl w7.heap.size w7).drew)) (HS8.out.pw.next ((Below.refl w7.heap.size w7).drew))).mono ?_
          rintro en wz1 ⟨rfl, b1⟩
          have BB1 := Lib.hid (next ((Below.refl w7.heap.size w7).drew) b1)
          clear b1
          go_wp2_with fail
          refine hK.out _ _ ?_ (fun hNew => ?_)
          · exact ⟨⟨cell_later (BB1.out) HQ8.out.1, cell_later (BB1.out) HQ8.out.2.1, cell_later (BB1.out) HQ8.out.2.2.1, cell_later (BB1.out) HQ8.out.2.2.2.1, cell_later (BB1.out) HQ8.out.2.2.2.2.1, cell_later (BB1.out) HQ8.out.2.2.2.2.2.1, cell_later (BB1.out) HQ8.out.2.2.2.2.2.2.1, cell_later (BB1.out) HQ8.out.2.2.2.2.2.2.2.1, cell_later (BB1.out) HQ8.out.2.2.2.2.2.2.2.2.1, cell_later (BB1.out) HQ8.out.2.2.2.2.2.2.2.2.2.1, cell_later (BB1.out) HQ8.out.2.2.2.2.2.2.2.2.2.2.1, cell_later (BB1.out) HQ8.out.2.2.2.2.2.2.2.2.2.2.2⟩, Lib.hid trivial⟩
          clear hK K hHeld
          have hHeld := hNew
          clear hNew
          try simp only [Act.put, List.setIfInBounds_toArray, List.set_cons_zero, List.set_cons_succ]
          refine takeH (i := 5) (v := ?_) rfl rfl (by kernel_rfl) (by kernel_rfl) (by kernel_rfl) (fun _ _ _ h => h) (by rfl) ?_ (by assumption) ?_
          rotate_left 1
          · intro w hSw
            (try dsimp only at hSw)
            go_simp
            try with_reducible rfl
          try simp only [List.setIfInBounds_toArray, List.set_cons_zero, List.set_cons_succ]
          refine takeH (i := 6) (v := ?_) rfl rfl (by kernel_rfl) (by kernel_rfl) (by kernel_rfl) (fun _ _ _ h => h) (by rfl) ?_ (by assumption) ?_
          rotate_left 1
          · intro w hSw
            (try dsimp only at hSw)
            go_simp
            try with_reducible rfl
          try simp only [List.setIfInBounds_toArray, List.set_cons_zero, List.set_cons_succ]
          refine takeH (i := 7) (v := ?_) rfl rfl (by kernel_rfl) (by kernel_rfl) (by kernel_rfl) (fun _ _ _ h => h) (by rfl) ?_ (by assumption) ?_
          rotate_left 1
          · intro w hSw
            (try dsimp only at hSw)
            go_simp
            try with_reducible rfl
          try simp only [List.setIfInBounds_toArray, List.set_cons_zero, List.set_cons_succ]
          refine takeH (i := 8) (v := ?_) rfl rfl (by kernel_rfl) (by kernel_rfl) (by kernel_rfl) (fun _ _ _ h => h) (by rfl) ?_ (by assumption) ?_
          rotate_left 1
          · intro w hSw
            (try dsimp only at hSw)
            go_simp
            try with_reducible rfl
          try simp only [List.setIfInBounds_toArray, List.set_cons_zero, List.set_cons_succ]
          refine takeH (i := 9) (v := ?_) rfl rfl (by kernel_rfl) (by kernel_rfl) (by kernel_rfl) (fun _ _ _ h => h) (by rfl) ?_ (by assumption) ?_
          rotate_left 1
          · intro w hSw
            (try dsimp only at hSw)
            go_simp
            try with_reducible rfl
          try simp only [List.setIfInBounds_toArray, List.set_cons_zero, List.set_cons_succ]
          refine takeH (i := 10) (v := ?_) rfl rfl (by kernel_rfl) (by kernel_rfl) (by kernel_rfl) (fun _ _ _ h => h) (by rfl) ?_ (by assumption) ?_
          rotate_left 1
          · intro w hSw
            (try dsimp only at hSw)
            go_simp
            try with_reducible rfl
          try simp only [List.setIfInBounds_toArray, List.set_cons_zero, List.set_cons_succ]
          refine takeH (i := 11) (v := ?_) rfl rfl (by kernel_rfl) (by kernel_rfl) (by kernel_rfl) (fun _ _ _ h => h) (by rfl) ?_ (by assumption) ?_
          rotate_left 1
          · intro w hSw
            (try dsimp only at hSw)
            go_simp
            try with_reducible rfl
          try simp only [List.setIfInBounds_toArray, List.set_cons_zero, List.set_cons_succ]
          refine takeH (i := 12) (v := ?_) rfl rfl (by kernel_rfl) (by kernel_rfl) (by kernel_rfl) (fun _ _ _ h => h) (by rfl) ?_ (by assumption) ?_
          rotate_left 1
          · intro w hSw
            (try dsimp only at hSw)
            go_simp
            try with_reducible rfl
          try simp only [List.setIfInBounds_toArray, List.set_cons_zero, List.set_cons_succ]
          refine takeH (i := 13) (v := ?_) rfl rfl (by kernel_rfl) (by kernel_rfl) (by kernel_rfl) (fun _ _ _ h => h) (by rfl) ?_ (by assumption) ?_
          rotate_left 1
          · intro w hSw
            (try dsimp only at hSw)
            go_simp
            try with_reducible rfl
          try simp only [List.setIfInBounds_toArray, List.set_cons_zero, List.set_cons_succ]
          refine takeH (i := 14) (v := ?_) rfl rfl (by kernel_rfl) (by kernel_rfl) (by kernel_rfl) (fun _ _ _ h => h) (by rfl) ?_ (by assumption) ?_
          rotate_left 1
          · intro w hSw
            (try dsimp only at hSw)
            go_simp
            try with_reducible rfl
          try simp only [List.setIfInBounds_toArray, List.set_cons_zero, List.set_cons_succ]
          refine wpAnyH_ready (rs := [15]) (by kernel_rfl) (by simp) ?_
          refine AllReadyH.cons rfl (fun K hK => ?_) (AllReadyH.nil)
          go_simp
          refine (isealok_is [⟨g, 0, 0⟩] L HWL.out (some ⟨w5.heap.size, 0, none⟩) la 1 lc f b (some ⟨pb, po + (J + 1), none⟩) (c - (J + 1)) D2 0 d e M u HZ2.out _ p (HH8.out.below BB1.out) (by simp) (HL8.out.below BB1.out) (by omega) (HRR.out.below BB1.out) (HS8.out.ev.below BB1.out) (HS8.out.pw.next BB1.out)).mono ?_
          rintro en wz2 ⟨rfl, b2⟩
          have BB2 := Lib.hid (next BB1.out b2)
          clear b2
          go_wp2_with fail
          refine hK.out _ _ ?_ (fun hNew => ?_)
          · exact ⟨⟨cell_later (BB2.out) HQ8.out.1, cell_later (BB2.out) HQ8.out.2.1, cell_later (BB2.out) HQ8.out.2.2.1, cell_later (BB2.out) HQ8.out.2.2.2.1, cell_later (BB2.out) HQ8.out.2.2.2.2.1, cell_later (BB2.out) HQ8.out.2.2.2.2.2.1, cell_later (BB2.out) HQ8.out.2.2.2.2.2.2.1, cell_later (BB2.out) HQ8.out.2.2.2.2.2.2.2.1, cell_later (BB2.out) HQ8.out.2.2.2.2.2.2.2.2.1, cell_later (BB2.out) HQ8.out.2.2.2.2.2.2.2.2.2.1, cell_later (BB2.out) HQ8.out.2.2.2.2.2.2.2.2.2.2.1, cell_later (BB2.out) HQ8.out.2.2.2.2.2.2.2.2.2.2.2⟩, Lib.hid trivial⟩
          clear hK K hHeld
          have hHeld := hNew
          clear hNew
          try simp only [Act.put, List.setIfInBounds_toArray, List.set_cons_zero, List.set_cons_succ]
          refine takeH (i := 16) (v := ?_) rfl rfl (by kernel_rfl) (by kernel_rfl) (by kernel_rfl) (fun _ _ _ h => h) (by rfl) ?_ (by assumption) ?_
          rotate_left 1
          · intro w hSw
            (try dsimp only at hSw)
            go_simp
            try with_reducible rfl
          try simp only [List.setIfInBounds_toArray, List.set_cons_zero, List.set_cons_succ]
          refine takeH (i := 17) (v := ?_) rfl rfl (by kernel_rfl) (by kernel_rfl) (by kernel_rfl) (fun _ _ _ h => h) (by rfl) ?_ (by assumption) ?_
          rotate_left 1
          · intro w hSw
            (try dsimp only at hSw)
            go_simp
            try with_reducible rfl
          try simp only [List.setIfInBounds_toArray, List.set_cons_zero, List.set_cons_succ]
          refine takeH (i := 18) (v := ?_) rfl rfl (by kernel_rfl) (by kernel_rfl) (by kernel_rfl) (fun _ _ _ h => h) (by rfl) ?_ (by assumption) ?_
          rotate_left 1
          · intro w hSw
            (try dsimp only at hSw)
            go_simp
            try with_reducible rfl
          try simp only [List.setIfInBounds_toArray, List.set_cons_zero, List.set_cons_succ]
          refine takeH (i := 19) (v := ?_) rfl rfl (by kernel_rfl) (by kernel_rfl) (by kernel_rfl) (fun _ _ _ h => h) (by rfl) ?_ (by assumption) ?_
          rotate_left 1
          · intro w hSw
            (try dsimp only at hSw)
            go_simp
            try with_reducible rfl
          try simp only [List.setIfInBounds_toArray, List.set_cons_zero, List.set_cons_succ]
          refine takeH (i := 20) (v := ?_) rfl rfl (by kernel_rfl) (by kernel_rfl) (by kernel_rfl) (fun _ _ _ h => h) (by rfl) ?_ (by assumption) ?_
          rotate_left 1
          · intro w hSw
            (try dsimp only at hSw)
            go_simp
            try with_reducible rfl
          try simp only [List.setIfInBounds_toArray, List.set_cons_zero, List.set_cons_succ]
          refine takeH (i := 21) (v := ?_) rfl rfl (by kernel_rfl) (by kernel_rfl) (by kernel_rfl) (fun _ _ _ h => h) (by rfl) ?_ (by assumption) ?_
          rotate_left 1
          · intro w hSw
            (try dsimp only at hSw)
            go_simp
            try with_reducible rfl
          try simp only [List.setIfInBounds_toArray, List.set_cons_zero, List.set_cons_succ]
          refine takeH (i := 22) (v := ?_) rfl rfl (by kernel_rfl) (by kernel_rfl) (by kernel_rfl) (fun _ _ _ h => h) (by rfl) ?_ (by assumption) ?_
          rotate_left 1
          · intro w hSw
            (try dsimp only at hSw)
            go_simp
            try with_reducible rfl
          try simp only [List.setIfInBounds_toArray, List.set_cons_zero, List.set_cons_succ]
          refine takeH (i := 23) (v := ?_) rfl rfl (by kernel_rfl) (by kernel_rfl) (by kernel_rfl) (fun _ _ _ h => h) (by rfl) ?_ (by assumption) ?_
          rotate_left 1
          · intro w hSw
            (try dsimp only at hSw)
            go_simp
            try with_reducible rfl
          try simp only [List.setIfInBounds_toArray, List.set_cons_zero, List.set_cons_succ]
          refine takeH (i := 24) (v := ?_) rfl rfl (by kernel_rfl) (by kernel_rfl) (by kernel_rfl) (fun _ _ _ h => h) (by rfl) ?_ (by assumption) ?_
          rotate_left 1
          · intro w hSw
            (try dsimp only at hSw)
            go_simp
            try with_reducible rfl
          try simp only [List.setIfInBounds_toArray, List.set_cons_zero, List.set_cons_succ]
          refine takeH (i := 25) (v := ?_) rfl rfl (by kernel_rfl) (by kernel_rfl) (by kernel_rfl) (fun _ _ _ h => h) (by rfl) ?_ (by assumption) ?_
          rotate_left 1
          · intro w hSw
            (try dsimp only at hSw)
            go_simp
            try with_reducible rfl
          try simp only [List.setIfInBounds_toArray, List.set_cons_zero, List.set_cons_succ]
          refine skipH (i := 26) rfl rfl (by kernel_rfl) (by kernel_rfl) (by kernel_rfl) (fun _ _ _ h => h) (by rfl) (by assumption) ?_
          try simp only [List.setIfInBounds_toArray, List.set_cons_zero, List.set_cons_succ]
          refine skipH (i := 27) rfl rfl (by kernel_rfl) (by kernel_rfl) (by kernel_rfl) (fun _ _ _ h => h) (by rfl) (by assumption) ?_
          try simp only [List.setIfInBounds_toArray, List.set_cons_zero, List.set_cons_succ]
          refine skipH (i := 28) rfl rfl (by kernel_rfl) (by kernel_rfl) (by kernel_rfl) (fun _ _ _ h => h) (by rfl) (by assumption) ?_
          try simp only [List.setIfInBounds_toArray, List.set_cons_zero, List.set_cons_succ]
          refine skipH (i := 29) rfl rfl (by kernel_rfl) (by kernel_rfl) (by kernel_rfl) (fun _ _ _ h => h) (by rfl) (by assumption) ?_
          try simp only [List.setIfInBounds_toArray, List.set_cons_zero, List.set_cons_succ]
          refine takeH (i := 30) (v := ?_) rfl rfl (by kernel_rfl) (by kernel_rfl) (by kernel_rfl) (fun _ _ _ h => h) (by rfl) ?_ (by assumption) ?_
          rotate_left 1
          · intro w hSw
            (try dsimp only at hSw)
            go_simp
            try with_reducible rfl
          try simp only [List.setIfInBounds_toArray, List.set_cons_zero, List.set_cons_succ]
          refine takeH (i := 31) (v := ?_) rfl rfl (by kernel_rfl) (by kernel_rfl) (by kernel_rfl) (fun _ _ _ h => h) (by rfl) ?_ (by assumption) ?_
          rotate_left 1
          · intro w hSw
            (try dsimp only at hSw)
            go_simp
            try with_reducible rfl
          try simp only [List.setIfInBounds_toArray, List.set_cons_zero, List.set_cons_succ]
          refine skipH (i := 32) rfl rfl (by kernel_rfl) (by kernel_rfl) (by kernel_rfl) (fun _ _ _ h => h) (by rfl) (by assumption) ?_
          try simp only [List.setIfInBounds_toArray, List.set_cons_zero, List.set_cons_succ]
          refine skipH (i := 33) rfl rfl (by kernel_rfl) (by kernel_rfl) (by kernel_rfl) (fun _ _ _ h => h) (by rfl) (by assumption) ?_
          try simp only [List.setIfInBounds_toArray, List.set_cons_zero, List.set_cons_succ]
          refine skipH (i := 34) rfl rfl (by kernel_rfl) (by kernel_rfl) (by kernel_rfl) (fun _ _ _ h => h) (by rfl) (by assumption) ?_
          try simp only [List.setIfInBounds_toArray, List.set_cons_zero, List.set_cons_succ]
          refine skipH (i := 35) rfl rfl (by kernel_rfl) (by kernel_rfl) (by kernel_rfl) (fun _ _ _ h => h) (by rfl) (by assumption) ?_
          try simp only [List.setIfInBounds_toArray, List.set_cons_zero, List.set_cons_succ]
          refine skipH (i := 36) rfl rfl (by kernel_rfl) (by kernel_rfl) (by kernel_rfl) (fun _ _ _ h => h) (by rfl) (by assumption) ?_
          try simp only [List.setIfInBounds_toArray, List.set_cons_zero, List.set_cons_succ]
          refine skipH (i := 37) rfl rfl (by kernel_rfl) (by kernel_rfl) (by kernel_rfl) (fun _ _ _ h => h) (by rfl) (by assumption) ?_
          try simp only [List.setIfInBounds_toArray, List.set_cons_zero, List.set_cons_succ]
          refine takeH (i := 38) (v := ?_) rfl rfl (by kernel_rfl) (by kernel_rfl) (by kernel_rfl) (fun _ _ _ h => h) (by rfl) ?_ (by assumption) ?_
          rotate_left 1
          · intro w hSw
            (try dsimp only at hSw)
            go_simp
            try with_reducible rfl
          try simp only [List.setIfInBounds_toArray, List.set_cons_zero, List.set_cons_succ]
          refine takeH (i := 39) (v := ?_) rfl rfl (by kernel_rfl) (by kernel_rfl) (by kernel_rfl) (fun _ _ _ h => h) (by rfl) ?_ (by assumption) ?_
          rotate_left 1
          · intro w hSw
            (try dsimp only at hSw)
            go_simp
            try with_reducible rfl
          try simp only [List.setIfInBounds_toArray, List.set_cons_zero, List.set_cons_succ]
          refine takeH (i := 40) (v := ?_) rfl rfl (by kernel_rfl) (by kernel_rfl) (by kernel_rfl) (fun _ _ _ h => h) (by rfl) ?_ (by assumption) ?_
          rotate_left 1
          · intro w hSw
            (try dsimp only at hSw)
            go_simp
            try with_reducible rfl
          try simp only [List.setIfInBounds_toArray, List.set_cons_zero, List.set_cons_succ]
          refine wpAnyH_done (by kernel_rfl) ?_ _
          clear hHeld
          go_wp2_with fail
          go_ret
          exact ⟨rfl, next HS8.out.bel BB2.out⟩
        · have e2 : (O == u) = false := by simp [e1]
          have HZ4 := Lib.hid (HZ3.out e1)
          obtain ⟨x, hx⟩ : ∃ x, decide (O ∈ D2) = x := ⟨_, rfl⟩
          have HX2 := Lib.hid hx
          clear e1 hx
          cases x with
          | true =>
            refine wp_region_held_drew (S := fun Wx => (Wx.cell? ⟨w1.heap.size, 2, none⟩ = some (.slice (some ⟨pb, po, none⟩) P.length c) ∧ Wx.cell? ⟨pb, po + J, none⟩ = some (.int .i64 u) ∧ Wx.cell? ⟨nb, 0, none⟩ = some (.int .i64 f) ∧ Wx.cell? ⟨nb, 1, none⟩ = some (.int .i64 b) ∧ Wx.cell? ⟨nb, 2, none⟩ = some (.slice xa D3.length xc) ∧ Wx.cell? ⟨nb, 3, none⟩ = some (.int .i64 0) ∧ Wx.cell? ⟨nb, 4, none⟩ = some (.slice d M.length e) ∧ Wx.cell? ⟨w6.heap.size, 0, none⟩ = some (.int .i64 f) ∧ Wx.cell? ⟨w6.heap.size, 1, none⟩ = some (.int .i64 b) ∧ Wx.cell? ⟨w6.heap.size, 2, none⟩ = some (.slice (some ⟨pb, po + (J + 1), none⟩) D2.length (c - (J + 1))) ∧ Wx.cell? ⟨w6.heap.size, 3, none⟩ = some (.int .i64 0) ∧ Wx.cell? ⟨w6.heap.size, 4, none⟩ = some (.slice d M.length e)) ∧ Hid True) (by kernel_rfl) ?_ (fun hHeld => ?_)
            · exact ⟨HQ8.out, Lib.hid trivial⟩
            refine takeH (i := 0) (v := ?_) rfl rfl (by kernel_rfl) (by kernel_rfl) (by kernel_rfl) (fun _ _ _ h => h) (by rfl) ?_ (by assumption) ?_
            rotate_left 1
            · intro w hSw
              (try dsimp only at hSw)
              go_simp
              try with_reducible rfl
            try simp only [List.setIfInBounds_toArray, List.set_cons_zero, List.set_cons_succ]
            refine takeH (i := 1) (v := ?_) rfl rfl (by kernel_rfl) (by kernel_rfl) (by kernel_rfl) (fun _ _ _ h => h) (by rfl) ?_ (by assumption) ?_
            rotate_left 1
            · intro w hSw
              (try dsimp only at hSw)
              go_simp
              try with_reducible rfl
            try simp only [List.setIfInBounds_toArray, List.set_cons_zero, List.set_cons_succ]
            refine takeH (i := 2) (v := ?_) rfl rfl (by kernel_rfl) (by kernel_rfl) (by kernel_rfl) (fun _ _ _ h => h) (by rfl) ?_ (by assumption) ?_
            rotate_left 1
            · intro w hSw
              (try dsimp only at hSw)
              go_simp
              try with_reducible rfl
            try simp only [List.setIfInBounds_toArray, List.set_cons_zero, List.set_cons_succ]
            refine takeH (i := 3) (v := ?_) rfl rfl (by kernel_rfl) (by kernel_rfl) (by kernel_rfl) (fun _ _ _ h => h) (by rfl) ?_ (by assumption) ?_
            rotate_left 1
            · intro w hSw
              (try dsimp only at hSw)
              go_simp
              try with_reducible rfl
            try simp only [List.setIfInBounds_toArray, List.set_cons_zero, List.set_cons_succ]
            refine wpAnyH_ready (rs := [4]) (by kernel_rfl) (by simp) ?_
            refine AllReadyH.cons rfl (fun K hK => ?_) (AllReadyH.nil)
            go_simp
            refine (isealok_is [⟨g, 0, 0⟩] L HWL.out (some ⟨w5.heap.size, 0, none⟩) la 1 lc f b xa xc D3 0 d e M t HZ1.out _ p (HH8.out.below ((Below.refl w7.heap.size w7).drew)) (by simp) (HL8.out.below ((Below.refl w7.heap.size w7).drew)) (by omega) (HRT.out.below ((Below.refl w7.heap.size w7).drew)) (HS8.out.ev.below ((Below.refl w7.heap.size w7).drew)) (HS8.out.pw.next ((Below.refl w7.heap.size w7).drew))).mono ?_
            rintro en wz1 ⟨rfl, b1⟩
            have BB1 := Lib.hid (next ((Below.refl w7.heap.size w7).drew) b1)
            clear b1
            go_wp2_with fail
            refine hK.out _ _ ?_ (fun hNew => ?_)
            · exact ⟨⟨cell_later (BB1.out) HQ8.out.1, cell_later (BB1.out) HQ8.out.2.1, cell_later (BB1.out) HQ8.out.2.2.1, cell_later (BB1.out) HQ8.out.2.2.2.1, cell_later (BB1.out) HQ8.out.2.2.2.2.1, cell_later (BB1.out) HQ8.out.2.2.2.2.2.1, cell_later (BB1.out) HQ8.out.2.2.2.2.2.2.1, cell_later (BB1.out) HQ8.out.2.2.2.2.2.2.2.1, cell_later (BB1.out) HQ8.out.2.2.2.2.2.2.2.2.1, cell_later (BB1.out) HQ8.out.2.2.2.2.2.2.2.2.2.1, cell_later (BB1.out) HQ8.out.2.2.2.2.2.2.2.2.2.2.1, cell_later (BB1.out) HQ8.out.2.2.2.2.2.2.2.2.2.2.2⟩, Lib.hid trivial⟩
            clear hK K hHeld
            have hHeld := hNew
            clear hNew
            try simp only [Act.put, List.setIfInBounds_toArray, List.set_cons_zero, List.set_cons_succ]
            refine takeH (i := 5) (v := ?_) rfl rfl (by kernel_rfl) (by kernel_rfl) (by kernel_rfl) (fun _ _ _ h => h) (by rfl) ?_ (by assumption) ?_
            rotate_left 1
            · intro w hSw
              (try dsimp only at hSw)
              go_simp
              try with_reducible rfl
            try simp only [List.setIfInBounds_toArray, List.set_cons_zero, List.set_cons_succ]
            refine takeH (i := 6) (v := ?_) rfl rfl (by kernel_rfl) (by kernel_rfl) (by kernel_rfl) (fun _ _ _ h => h) (by rfl) ?_ (by assumption) ?_
            rotate_left 1
            · intro w hSw
              (try dsimp only at hSw)
              go_simp
              try with_reducible rfl
            try simp only [List.setIfInBounds_toArray, List.set_cons_zero, List.set_cons_succ]
            refine takeH (i := 7) (v := ?_) rfl rfl (by kernel_rfl) (by kernel_rfl) (by kernel_rfl) (fun _ _ _ h => h) (by rfl) ?_ (by assumption) ?_
            rotate_left 1
            · intro w hSw
              (try dsimp only at hSw)
              go_simp
              try with_reducible rfl
            try simp only [List.setIfInBounds_toArray, List.set_cons_zero, List.set_cons_succ]
            refine takeH (i := 8) (v := ?_) rfl rfl (by kernel_rfl) (by kernel_rfl) (by kernel_rfl) (fun _ _ _ h => h) (by rfl) ?_ (by assumption) ?_
            rotate_left 1
            · intro w hSw
              (try dsimp only at hSw)
              go_simp
              try with_reducible rfl
            try simp only [List.setIfInBounds_toArray, List.set_cons_zero, List.set_cons_succ]
            refine takeH (i := 9) (v := ?_) rfl rfl (by kernel_rfl) (by kernel_rfl) (by kernel_rfl) (fun _ _ _ h => h) (by rfl) ?_ (by assumption) ?_
            rotate_left 1
            · intro w hSw
              (try dsimp only at hSw)
              go_simp
              try with_reducible rfl
            try simp only [List.setIfInBounds_toArray, List.set_cons_zero, List.set_cons_succ]
            refine takeH (i := 10) (v := ?_) rfl rfl (by kernel_rfl) (by kernel_rfl) (by kernel_rfl) (fun _ _ _ h => h) (by rfl) ?_ (by assumption) ?_
            rotate_left 1
            · intro w hSw
              (try dsimp only at hSw)
              go_simp
              try with_reducible rfl
            try simp only [List.setIfInBounds_toArray, List.set_cons_zero, List.set_cons_succ]
            refine takeH (i := 11) (v := ?_) rfl rfl (by kernel_rfl) (by kernel_rfl) (by kernel_rfl) (fun _ _ _ h => h) (by rfl) ?_ (by assumption) ?_
            rotate_left 1
            · intro w hSw
              (try dsimp only at hSw)
              go_simp
              try with_reducible rfl
            try simp only [List.setIfInBounds_toArray, List.set_cons_zero, List.set_cons_succ]
            refine takeH (i := 12) (v := ?_) rfl rfl (by kernel_rfl) (by kernel_rfl) (by kernel_rfl) (fun _ _ _ h => h) (by rfl) ?_ (by assumption) ?_
            rotate_left 1
            · intro w hSw
              (try dsimp only at hSw)
              go_simp
              try with_reducible rfl
            try simp only [List.setIfInBounds_toArray, List.set_cons_zero, List.set_cons_succ]
            refine takeH (i := 13) (v := ?_) rfl rfl (by kernel_rfl) (by kernel_rfl) (by kernel_rfl) (fun _ _ _ h => h) (by rfl) ?_ (by assumption) ?_
            rotate_left 1
            · intro w hSw
              (try dsimp only at hSw)
              go_simp
              try with_reducible rfl
            try simp only [List.setIfInBounds_toArray, List.set_cons_zero, List.set_cons_succ]
            refine takeH (i := 14) (v := ?_) rfl rfl (by kernel_rfl) (by kernel_rfl) (by kernel_rfl) (fun _ _ _ h => h) (by rfl) ?_ (by assumption) ?_
            rotate_left 1
            · intro w hSw
              (try dsimp only at hSw)
              go_simp
              try with_reducible rfl
            try simp only [List.setIfInBounds_toArray, List.set_cons_zero, List.set_cons_succ]
            refine wpAnyH_ready (rs := [15]) (by kernel_rfl) (by simp) ?_
            refine AllReadyH.cons rfl (fun K hK => ?_) (AllReadyH.nil)
            go_simp
            refine (isealok_is [⟨g, 0, 0⟩] L HWL.out (some ⟨w5.heap.size, 0, none⟩) la 1 lc f b (some ⟨pb, po + (J + 1), none⟩) (c - (J + 1)) D2 0 d e M u HZ2.out _ p (HH8.out.below BB1.out) (by simp) (HL8.out.below BB1.out) (by omega) (HRR.out.below BB1.out) (HS8.out.ev.below BB1.out) (HS8.out.pw.next BB1.out)).mono ?_
            rintro en wz2 ⟨rfl, b2⟩
            have BB2 := Lib.hid (next BB1.out b2)
            clear b2
            go_wp2_with fail
            refine hK.out _ _ ?_ (fun hNew => ?_)
            · exact ⟨⟨cell_later (BB2.out) HQ8.out.1, cell_later (BB2.out) HQ8.out.2.1, cell_later (BB2.out) HQ8.out.2.2.1, cell_later (BB2.out) HQ8.out.2.2.2.1, cell_later (BB2.out) HQ8.out.2.2.2.2.1, cell_later (BB2.out) HQ8.out.2.2.2.2.2.1, cell_later (BB2.out) HQ8.out.2.2.2.2.2.2.1, cell_later (BB2.out) HQ8.out.2.2.2.2.2.2.2.1, cell_later (BB2.out) HQ8.out.2.2.2.2.2.2.2.2.1, cell_later (BB2.out) HQ8.out.2.2.2.2.2.2.2.2.2.1, cell_later (BB2.out) HQ8.out.2.2.2.2.2.2.2.2.2.2.1, cell_later (BB2.out) HQ8.out.2.2.2.2.2.2.2.2.2.2.2⟩, Lib.hid trivial⟩
            clear hK K hHeld
            have hHeld := hNew
            clear hNew
            try simp only [Act.put, List.setIfInBounds_toArray, List.set_cons_zero, List.set_cons_succ]
            refine takeH (i := 16) (v := ?_) rfl rfl (by kernel_rfl) (by kernel_rfl) (by kernel_rfl) (fun _ _ _ h => h) (by rfl) ?_ (by assumption) ?_
            rotate_left 1
            · intro w hSw
              (try dsimp only at hSw)
              go_simp
              try with_reducible rfl
            try simp only [List.setIfInBounds_toArray, List.set_cons_zero, List.set_cons_succ]
            refine takeH (i := 17) (v := ?_) rfl rfl (by kernel_rfl) (by kernel_rfl) (by kernel_rfl) (fun _ _ _ h => h) (by rfl) ?_ (by assumption) ?_
            rotate_left 1
            · intro w hSw
              (try dsimp only at hSw)
              go_simp
              try with_reducible rfl
            try simp only [List.setIfInBounds_toArray, List.set_cons_zero, List.set_cons_succ]
            refine takeH (i := 18) (v := ?_) rfl rfl (by kernel_rfl) (by kernel_rfl) (by kernel_rfl) (fun _ _ _ h => h) (by rfl) ?_ (by assumption) ?_
            rotate_left 1
            · intro w hSw
              (try dsimp only at hSw)
              go_simp
              try with_reducible rfl
            try simp only [List.setIfInBounds_toArray, List.set_cons_zero, List.set_cons_succ]
            refine takeH (i := 19) (v := ?_) rfl rfl (by kernel_rfl) (by kernel_rfl) (by kernel_rfl) (fun _ _ _ h => h) (by rfl) ?_ (by assumption) ?_
            rotate_left 1
            · intro w hSw
              (try dsimp only at hSw)
              go_simp
              try with_reducible rfl
            try simp only [List.setIfInBounds_toArray, List.set_cons_zero, List.set_cons_succ]
            refine takeH (i := 20) (v := ?_) rfl rfl (by kernel_rfl) (by kernel_rfl) (by kernel_rfl) (fun _ _ _ h => h) (by rfl) ?_ (by assumption) ?_
            rotate_left 1
            · intro w hSw
              (try dsimp only at hSw)
              go_simp
              try with_reducible rfl
            try simp only [List.setIfInBounds_toArray, List.set_cons_zero, List.set_cons_succ]
            refine takeH (i := 21) (v := ?_) rfl rfl (by kernel_rfl) (by kernel_rfl) (by kernel_rfl) (fun _ _ _ h => h) (by rfl) ?_ (by assumption) ?_
            rotate_left 1
            · intro w hSw
              (try dsimp only at hSw)
              go_simp
              try with_reducible rfl
            try simp only [List.setIfInBounds_toArray, List.set_cons_zero, List.set_cons_succ]
            refine takeH (i := 22) (v := ?_) rfl rfl (by kernel_rfl) (by kernel_rfl) (by kernel_rfl) (fun _ _ _ h => h) (by rfl) ?_ (by assumption) ?_
            rotate_left 1
            · intro w hSw
              (try dsimp only at hSw)
              go_simp
              try with_reducible rfl
            try simp only [List.setIfInBounds_toArray, List.set_cons_zero, List.set_cons_succ]
            refine takeH (i := 23) (v := ?_) rfl rfl (by kernel_rfl) (by kernel_rfl) (by kernel_rfl) (fun _ _ _ h => h) (by rfl) ?_ (by assumption) ?_
            rotate_left 1
            · intro w hSw
              (try dsimp only at hSw)
              go_simp
              try with_reducible rfl
            try simp only [List.setIfInBounds_toArray, List.set_cons_zero, List.set_cons_succ]
            refine takeH (i := 24) (v := ?_) rfl rfl (by kernel_rfl) (by kernel_rfl) (by kernel_rfl) (fun _ _ _ h => h) (by rfl) ?_ (by assumption) ?_
            rotate_left 1
            · intro w hSw
              (try dsimp only at hSw)
              go_simp
              try with_reducible rfl
            try simp only [List.setIfInBounds_toArray, List.set_cons_zero, List.set_cons_succ]
            refine takeH (i := 25) (v := ?_) rfl rfl (by kernel_rfl) (by kernel_rfl) (by kernel_rfl) (fun _ _ _ h => h) (by rfl) ?_ (by assumption) ?_
            rotate_left 1
            · intro w hSw
              (try dsimp only at hSw)
              go_simp
              try with_reducible rfl
            try simp only [List.setIfInBounds_toArray, List.set_cons_zero, List.set_cons_succ]
            refine takeH (i := 26) (v := ?_) rfl rfl (by kernel_rfl) (by kernel_rfl) (by kernel_rfl) (fun _ _ _ h => h) (by rfl) ?_ (by assumption) ?_
            rotate_left 1
            · intro w hSw
              (try dsimp only at hSw)
              go_simp
              try with_reducible rfl
            try simp only [List.setIfInBounds_toArray, List.set_cons_zero, List.set_cons_succ]
            refine takeH (i := 27) (v := ?_) rfl rfl (by kernel_rfl) (by kernel_rfl) (by kernel_rfl) (fun _ _ _ h => h) (by rfl) ?_ (by assumption) ?_
            rotate_left 1
            · intro w hSw
              (try dsimp only at hSw)
              go_simp
              try with_reducible rfl
            try simp only [List.setIfInBounds_toArray, List.set_cons_zero, List.set_cons_succ]
            refine takeH (i := 28) (v := ?_) rfl rfl (by kernel_rfl) (by kernel_rfl) (by kernel_rfl) (fun _ _ _ h => h) (by rfl) ?_ (by assumption) ?_
            rotate_left 1
            · intro w hSw
              (try dsimp only at hSw)
              go_simp
              try with_reducible rfl
            try simp only [List.setIfInBounds_toArray, List.set_cons_zero, List.set_cons_succ]
            refine wpAnyH_ready (rs := [29]) (by kernel_rfl) (by simp) ?_
            refine AllReadyH.cons rfl (fun K hK => ?_) (AllReadyH.nil)
            go_simp
            refine (lyIn_is HX2.out _ _ _ _ rfl (HI8.out.below BB2.out) (by omega)).mono ?_
            rintro en wz3 ⟨rfl, rfl⟩
            go_wp2_with fail
            refine hK.out _ _ ?_ (fun hNew => ?_)
            · exact ⟨⟨cell_later (BB2.out) HQ8.out.1, cell_later (BB2.out) HQ8.out.2.1, cell_later (BB2.out) HQ8.out.2.2.1, cell_later (BB2.out) HQ8.out.2.2.2.1, cell_later (BB2.out) HQ8.out.2.2.2.2.1, cell_later (BB2.out) HQ8.out.2.2.2.2.2.1, cell_later (BB2.out) HQ8.out.2.2.2.2.2.2.1, cell_later (BB2.out) HQ8.out.2.2.2.2.2.2.2.1, cell_later (BB2.out) HQ8.out.2.2.2.2.2.2.2.2.1, cell_later (BB2.out) HQ8.out.2.2.2.2.2.2.2.2.2.1, cell_later (BB2.out) HQ8.out.2.2.2.2.2.2.2.2.2.2.1, cell_later (BB2.out) HQ8.out.2.2.2.2.2.2.2.2.2.2.2⟩, Lib.hid trivial⟩
            clear hK K hHeld
            have hHeld := hNew
            clear hNew
            try simp only [Act.put, List.setIfInBounds_toArray, List.set_cons_zero, List.set_cons_succ]
            refine takeH (i := 30) (v := ?_) rfl rfl (by kernel_rfl) (by kernel_rfl) (by kernel_rfl) (fun _ _ _ h => h) (by rfl) ?_ (by assumption) ?_
            rotate_left 1
            · intro w hSw
              (try dsimp only at hSw)
              go_simp
              try with_reducible rfl
            try simp only [List.setIfInBounds_toArray, List.set_cons_zero, List.set_cons_succ]
            refine takeH (i := 31) (v := ?_) rfl rfl (by kernel_rfl) (by kernel_rfl) (by kernel_rfl) (fun _ _ _ h => h) (by rfl) ?_ (by assumption) ?_
            rotate_left 1
            · intro w hSw
              (try dsimp only at hSw)
              go_simp
              try with_reducible rfl
            try simp only [List.setIfInBounds_toArray, List.set_cons_zero, List.set_cons_succ]
            refine skipH (i := 32) rfl rfl (by kernel_rfl) (by kernel_rfl) (by kernel_rfl) (fun _ _ _ h => h) (by rfl) (by assumption) ?_
            try simp only [List.setIfInBounds_toArray, List.set_cons_zero, List.set_cons_succ]
            refine skipH (i := 33) rfl rfl (by kernel_rfl) (by kernel_rfl) (by kernel_rfl) (fun _ _ _ h => h) (by rfl) (by assumption) ?_
            try simp only [List.setIfInBounds_toArray, List.set_cons_zero, List.set_cons_succ]
            refine skipH (i := 34) rfl rfl (by kernel_rfl) (by kernel_rfl) (by kernel_rfl) (fun _ _ _ h => h) (by rfl) (by assumption) ?_
            try simp only [List.setIfInBounds_toArray, List.set_cons_zero, List.set_cons_succ]
            refine skipH (i := 35) rfl rfl (by kernel_rfl) (by kernel_rfl) (by kernel_rfl) (fun _ _ _ h => h) (by rfl) (by assumption) ?_
            try simp only [List.setIfInBounds_toArray, List.set_cons_zero, List.set_cons_succ]
            refine skipH (i := 36) rfl rfl (by kernel_rfl) (by kernel_rfl) (by kernel_rfl) (fun _ _ _ h => h) (by rfl) (by assumption) ?_
            try simp only [List.setIfInBounds_toArray, List.set_cons_zero, List.set_cons_succ]
            refine skipH (i := 37) rfl rfl (by kernel_rfl) (by kernel_rfl) (by kernel_rfl) (fun _ _ _ h => h) (by rfl) (by assumption) ?_
            try simp only [List.setIfInBounds_toArray, List.set_cons_zero, List.set_cons_succ]
            refine takeH (i := 38) (v := ?_) rfl rfl (by kernel_rfl) (by kernel_rfl) (by kernel_rfl) (fun _ _ _ h => h) (by rfl) ?_ (by assumption) ?_
            rotate_left 1
            · intro w hSw
              (try dsimp only at hSw)
              go_simp
              try with_reducible rfl
            try simp only [List.setIfInBounds_toArray, List.set_cons_zero, List.set_cons_succ]
            refine takeH (i := 39) (v := ?_) rfl rfl (by kernel_rfl) (by kernel_rfl) (by kernel_rfl) (fun _ _ _ h => h) (by rfl) ?_ (by assumption) ?_
            rotate_left 1
            · intro w hSw
              (try dsimp only at hSw)
              go_simp
              try with_reducible rfl
            try simp only [List.setIfInBounds_toArray, List.set_cons_zero, List.set_cons_succ]
            refine takeH (i := 40) (v := ?_) rfl rfl (by kernel_rfl) (by kernel_rfl) (by kernel_rfl) (fun _ _ _ h => h) (by rfl) ?_ (by assumption) ?_
            rotate_left 1
            · intro w hSw
              (try dsimp only at hSw)
              go_simp
              try with_reducible rfl
            try simp only [List.setIfInBounds_toArray, List.set_cons_zero, List.set_cons_succ]
            refine wpAnyH_done (by kernel_rfl) ?_ _
            clear hHeld
            go_wp2_with fail
            go_ret
            exact ⟨rfl, next HS8.out.bel BB2.out⟩
          | false =>
            refine wp_region_held_drew (S := fun Wx => (Wx.cell? ⟨w1.heap.size, 2, none⟩ = some (.slice (some ⟨pb, po, none⟩) P.length c) ∧ Wx.cell? ⟨pb, po + J, none⟩ = some (.int .i64 u) ∧ Wx.cell? ⟨nb, 0, none⟩ = some (.int .i64 f) ∧ Wx.cell? ⟨nb, 1, none⟩ = some (.int .i64 b) ∧ Wx.cell? ⟨nb, 2, none⟩ = some (.slice xa D3.length xc) ∧ Wx.cell? ⟨nb, 3, none⟩ = some (.int .i64 0) ∧ Wx.cell? ⟨nb, 4, none⟩ = some (.slice d M.length e) ∧ Wx.cell? ⟨w6.heap.size, 0, none⟩ = some (.int .i64 f) ∧ Wx.cell? ⟨w6.heap.size, 1, none⟩ = some (.int .i64 b) ∧ Wx.cell? ⟨w6.heap.size, 2, none⟩ = some (.slice (some ⟨pb, po + (J + 1), none⟩) D2.length (c - (J + 1))) ∧ Wx.cell? ⟨w6.heap.size, 3, none⟩ = some (.int .i64 0) ∧ Wx.cell? ⟨w6.heap.size, 4, none⟩ = some (.slice d M.length e)) ∧ Hid True) (by kernel_rfl) ?_ (fun hHeld => ?_)
            · exact ⟨HQ8.out, Lib.hid trivial⟩
            refine takeH (i := 0) (v := ?_) rfl rfl (by kernel_rfl) (by kernel_rfl) (by kernel_rfl) (fun _ _ _ h => h) (by rfl) ?_ (by assumption) ?_
            rotate_left 1
            · intro w hSw
              (try dsimp only at hSw)
              go_simp
              try with_reducible rfl
            try simp only [List.setIfInBounds_toArray, List.set_cons_zero, List.set_cons_succ]
            refine takeH (i := 1) (v := ?_) rfl rfl (by kernel_rfl) (by kernel_rfl) (by kernel_rfl) (fun _ _ _ h => h) (by rfl) ?_ (by assumption) ?_
            rotate_left 1
            · intro w hSw
              (try dsimp only at hSw)
              go_simp
              try with_reducible rfl
            try simp only [List.setIfInBounds_toArray, List.set_cons_zero, List.set_cons_succ]
            refine takeH (i := 2) (v := ?_) rfl rfl (by kernel_rfl) (by kernel_rfl) (by kernel_rfl) (fun _ _ _ h => h) (by rfl) ?_ (by assumption) ?_
            rotate_left 1
            · intro w hSw
              (try dsimp only at hSw)
              go_simp
              try with_reducible rfl
            try simp only [List.setIfInBounds_toArray, List.set_cons_zero, List.set_cons_succ]
            refine takeH (i := 3) (v := ?_) rfl rfl (by kernel_rfl) (by kernel_rfl) (by kernel_rfl) (fun _ _ _ h => h) (by rfl) ?_ (by assumption) ?_
            rotate_left 1
            · intro w hSw
              (try dsimp only at hSw)
              go_simp
              try with_reducible rfl
            try simp only [List.setIfInBounds_toArray, List.set_cons_zero, List.set_cons_succ]
            refine wpAnyH_ready (rs := [4]) (by kernel_rfl) (by simp) ?_
            refine AllReadyH.cons rfl (fun K hK => ?_) (AllReadyH.nil)
            go_simp
            refine (isealok_is [⟨g, 0, 0⟩] L HWL.out (some ⟨w5.heap.size, 0, none⟩) la 1 lc f b xa xc D3 0 d e M t HZ1.out _ p (HH8.out.below ((Below.refl w7.heap.size w7).drew)) (by simp) (HL8.out.below ((Below.refl w7.heap.size w7).drew)) (by omega) (HRT.out.below ((Below.refl w7.heap.size w7).drew)) (HS8.out.ev.below ((Below.refl w7.heap.size w7).drew)) (HS8.out.pw.next ((Below.refl w7.heap.size w7).drew))).mono ?_
            rintro en wz1 ⟨rfl, b1⟩
            have BB1 := Lib.hid (next ((Below.refl w7.heap.size w7).drew) b1)
            clear b1
            go_wp2_with fail
            refine hK.out _ _ ?_ (fun hNew => ?_)
            · exact ⟨⟨cell_later (BB1.out) HQ8.out.1, cell_later (BB1.out) HQ8.out.2.1, cell_later (BB1.out) HQ8.out.2.2.1, cell_later (BB1.out) HQ8.out.2.2.2.1, cell_later (BB1.out) HQ8.out.2.2.2.2.1, cell_later (BB1.out) HQ8.out.2.2.2.2.2.1, cell_later (BB1.out) HQ8.out.2.2.2.2.2.2.1, cell_later (BB1.out) HQ8.out.2.2.2.2.2.2.2.1, cell_later (BB1.out) HQ8.out.2.2.2.2.2.2.2.2.1, cell_later (BB1.out) HQ8.out.2.2.2.2.2.2.2.2.2.1, cell_later (BB1.out) HQ8.out.2.2.2.2.2.2.2.2.2.2.1, cell_later (BB1.out) HQ8.out.2.2.2.2.2.2.2.2.2.2.2⟩, Lib.hid trivial⟩
            clear hK K hHeld
            have hHeld := hNew
            clear hNew
            try simp only [Act.put, List.setIfInBounds_toArray, List.set_cons_zero, List.set_cons_succ]
            refine takeH (i := 5) (v := ?_) rfl rfl (by kernel_rfl) (by kernel_rfl) (by kernel_rfl) (fun _ _ _ h => h) (by rfl) ?_ (by assumption) ?_
            rotate_left 1
            · intro w hSw
              (try dsimp only at hSw)
              go_simp
              try with_reducible rfl
            try simp only [List.setIfInBounds_toArray, List.set_cons_zero, List.set_cons_succ]
            refine takeH (i := 6) (v := ?_) rfl rfl (by kernel_rfl) (by kernel_rfl) (by kernel_rfl) (fun _ _ _ h => h) (by rfl) ?_ (by assumption) ?_
            rotate_left 1
            · intro w hSw
              (try dsimp only at hSw)
              go_simp
              try with_reducible rfl
            try simp only [List.setIfInBounds_toArray, List.set_cons_zero, List.set_cons_succ]
            refine takeH (i := 7) (v := ?_) rfl rfl (by kernel_rfl) (by kernel_rfl) (by kernel_rfl) (fun _ _ _ h => h) (by rfl) ?_ (by assumption) ?_
            rotate_left 1
            · intro w hSw
              (try dsimp only at hSw)
              go_simp
              try with_reducible rfl
            try simp only [List.setIfInBounds_toArray, List.set_cons_zero, List.set_cons_succ]
            refine takeH (i := 8) (v := ?_) rfl rfl (by kernel_rfl) (by kernel_rfl) (by kernel_rfl) (fun _ _ _ h => h) (by rfl) ?_ (by assumption) ?_
            rotate_left 1
            · intro w hSw
              (try dsimp only at hSw)
              go_simp
              try with_reducible rfl
            try simp only [List.setIfInBounds_toArray, List.set_cons_zero, List.set_cons_succ]
            refine takeH (i := 9) (v := ?_) rfl rfl (by kernel_rfl) (by kernel_rfl) (by kernel_rfl) (fun _ _ _ h => h) (by rfl) ?_ (by assumption) ?_
            rotate_left 1
            · intro w hSw
              (try dsimp only at hSw)
              go_simp
              try with_reducible rfl
            try simp only [List.setIfInBounds_toArray, List.set_cons_zero, List.set_cons_succ]
            refine takeH (i := 10) (v := ?_) rfl rfl (by kernel_rfl) (by kernel_rfl) (by kernel_rfl) (fun _ _ _ h => h) (by rfl) ?_ (by assumption) ?_
            rotate_left 1
            · intro w hSw
              (try dsimp only at hSw)
              go_simp
              try with_reducible rfl
            try simp only [List.setIfInBounds_toArray, List.set_cons_zero, List.set_cons_succ]
            refine takeH (i := 11) (v := ?_) rfl rfl (by kernel_rfl) (by kernel_rfl) (by kernel_rfl) (fun _ _ _ h => h) (by rfl) ?_ (by assumption) ?_
            rotate_left 1
            · intro w hSw
              (try dsimp only at hSw)
              go_simp
              try with_reducible rfl
            try simp only [List.setIfInBounds_toArray, List.set_cons_zero, List.set_cons_succ]
            refine takeH (i := 12) (v := ?_) rfl rfl (by kernel_rfl) (by kernel_rfl) (by kernel_rfl) (fun _ _ _ h => h) (by rfl) ?_ (by assumption) ?_
            rotate_left 1
            · intro w hSw
              (try dsimp only at hSw)
              go_simp
              try with_reducible rfl
            try simp only [List.setIfInBounds_toArray, List.set_cons_zero, List.set_cons_succ]
            refine takeH (i := 13) (v := ?_) rfl rfl (by kernel_rfl) (by kernel_rfl) (by kernel_rfl) (fun _ _ _ h => h) (by rfl) ?_ (by assumption) ?_
            rotate_left 1
            · intro w hSw
              (try dsimp only at hSw)
              go_simp
              try with_reducible rfl
            try simp only [List.setIfInBounds_toArray, List.set_cons_zero, List.set_cons_succ]
            refine takeH (i := 14) (v := ?_) rfl rfl (by kernel_rfl) (by kernel_rfl) (by kernel_rfl) (fun _ _ _ h => h) (by rfl) ?_ (by assumption) ?_
            rotate_left 1
            · intro w hSw
              (try dsimp only at hSw)
              go_simp
              try with_reducible rfl
            try simp only [List.setIfInBounds_toArray, List.set_cons_zero, List.set_cons_succ]
            refine wpAnyH_ready (rs := [15]) (by kernel_rfl) (by simp) ?_
            refine AllReadyH.cons rfl (fun K hK => ?_) (AllReadyH.nil)
            go_simp
            refine (isealok_is [⟨g, 0, 0⟩] L HWL.out (some ⟨w5.heap.size, 0, none⟩) la 1 lc f b (some ⟨pb, po + (J + 1), none⟩) (c - (J + 1)) D2 0 d e M u HZ2.out _ p (HH8.out.below BB1.out) (by simp) (HL8.out.below BB1.out) (by omega) (HRR.out.below BB1.out) (HS8.out.ev.below BB1.out) (HS8.out.pw.next BB1.out)).mono ?_
            rintro en wz2 ⟨rfl, b2⟩
            have BB2 := Lib.hid (next BB1.out b2)
            clear b2
            go_wp2_with fail
            refine hK.out _ _ ?_ (fun hNew => ?_)
            · exact ⟨⟨cell_later (BB2.out) HQ8.out.1, cell_later (BB2.out) HQ8.out.2.1, cell_later (BB2.out) HQ8.out.2.2.1, cell_later (BB2.out) HQ8.out.2.2.2.1, cell_later (BB2.out) HQ8.out.2.2.2.2.1, cell_later (BB2.out) HQ8.out.2.2.2.2.2.1, cell_later (BB2.out) HQ8.out.2.2.2.2.2.2.1, cell_later (BB2.out) HQ8.out.2.2.2.2.2.2.2.1, cell_later (BB2.out) HQ8.out.2.2.2.2.2.2.2.2.1, cell_later (BB2.out) HQ8.out.2.2.2.2.2.2.2.2.2.1, cell_later (BB2.out) HQ8.out.2.2.2.2.2.2.2.2.2.2.1, cell_later (BB2.out) HQ8.out.2.2.2.2.2.2.2.2.2.2.2⟩, Lib.hid trivial⟩
            clear hK K hHeld
            have hHeld := hNew
            clear hNew
            try simp only [Act.put, List.setIfInBounds_toArray, List.set_cons_zero, List.set_cons_succ]
            refine takeH (i := 16) (v := ?_) rfl rfl (by kernel_rfl) (by kernel_rfl) (by kernel_rfl) (fun _ _ _ h => h) (by rfl) ?_ (by assumption) ?_
            rotate_left 1
            · intro w hSw
              (try dsimp only at hSw)
              go_simp
              try with_reducible rfl
            try simp only [List.setIfInBounds_toArray, List.set_cons_zero, List.set_cons_succ]
            refine takeH (i := 17) (v := ?_) rfl rfl (by kernel_rfl) (by kernel_rfl) (by kernel_rfl) (fun _ _ _ h => h) (by rfl) ?_ (by assumption) ?_
            rotate_left 1
            · intro w hSw
              (try dsimp only at hSw)
              go_simp
              try with_reducible rfl
            try simp only [List.setIfInBounds_toArray, List.set_cons_zero, List.set_cons_succ]
            refine takeH (i := 18) (v := ?_) rfl rfl (by kernel_rfl) (by kernel_rfl) (by kernel_rfl) (fun _ _ _ h => h) (by rfl) ?_ (by assumption) ?_
            rotate_left 1
            · intro w hSw
              (try dsimp only at hSw)
              go_simp
              try with_reducible rfl
            try simp only [List.setIfInBounds_toArray, List.set_cons_zero, List.set_cons_succ]
            refine takeH (i := 19) (v := ?_) rfl rfl (by kernel_rfl) (by kernel_rfl) (by kernel_rfl) (fun _ _ _ h => h) (by rfl) ?_ (by assumption) ?_
            rotate_left 1
            · intro w hSw
              (try dsimp only at hSw)
              go_simp
              try with_reducible rfl
            try simp only [List.setIfInBounds_toArray, List.set_cons_zero, List.set_cons_succ]
            refine takeH (i := 20) (v := ?_) rfl rfl (by kernel_rfl) (by kernel_rfl) (by kernel_rfl) (fun _ _ _ h => h) (by rfl) ?_ (by assumption) ?_
            rotate_left 1
            · intro w hSw
              (try dsimp only at hSw)
              go_simp
              try with_reducible rfl
            try simp only [List.setIfInBounds_toArray, List.set_cons_zero, List.set_cons_succ]
            refine takeH (i := 21) (v := ?_) rfl rfl (by kernel_rfl) (by kernel_rfl) (by kernel_rfl) (fun _ _ _ h => h) (by rfl) ?_ (by assumption) ?_
            rotate_left 1
            · intro w hSw
              (try dsimp only at hSw)
              go_simp
              try with_reducible rfl
            try simp only [List.setIfInBounds_toArray, List.set_cons_zero, List.set_cons_succ]
            refine takeH (i := 22) (v := ?_) rfl rfl (by kernel_rfl) (by kernel_rfl) (by kernel_rfl) (fun _ _ _ h => h) (by rfl) ?_ (by assumption) ?_
            rotate_left 1
            · intro w hSw
              (try dsimp only at hSw)
              go_simp
              try with_reducible rfl
            try simp only [List.setIfInBounds_toArray, List.set_cons_zero, List.set_cons_succ]
            refine takeH (i := 23) (v := ?_) rfl rfl (by kernel_rfl) (by kernel_rfl) (by kernel_rfl) (fun _ _ _ h => h) (by rfl) ?_ (by assumption) ?_
            rotate_left 1
            · intro w hSw
              (try dsimp only at hSw)
              go_simp
              try with_reducible rfl
            try simp only [List.setIfInBounds_toArray, List.set_cons_zero, List.set_cons_succ]
            refine takeH (i := 24) (v := ?_) rfl rfl (by kernel_rfl) (by kernel_rfl) (by kernel_rfl) (fun _ _ _ h => h) (by rfl) ?_ (by assumption) ?_
            rotate_left 1
            · intro w hSw
              (try dsimp only at hSw)
              go_simp
              try with_reducible rfl
            try simp only [List.setIfInBounds_toArray, List.set_cons_zero, List.set_cons_succ]
            refine takeH (i := 25) (v := ?_) rfl rfl (by kernel_rfl) (by kernel_rfl) (by kernel_rfl) (fun _ _ _ h => h) (by rfl) ?_ (by assumption) ?_
            rotate_left 1
            · intro w hSw
              (try dsimp only at hSw)
              go_simp
              try with_reducible rfl
            try simp only [List.setIfInBounds_toArray, List.set_cons_zero, List.set_cons_succ]
            refine takeH (i := 26) (v := ?_) rfl rfl (by kernel_rfl) (by kernel_rfl) (by kernel_rfl) (fun _ _ _ h => h) (by rfl) ?_ (by assumption) ?_
            rotate_left 1
            · intro w hSw
              (try dsimp only at hSw)
              go_simp
              try with_reducible rfl
            try simp only [List.setIfInBounds_toArray, List.set_cons_zero, List.set_cons_succ]
            refine takeH (i := 27) (v := ?_) rfl rfl (by kernel_rfl) (by kernel_rfl) (by kernel_rfl) (fun _ _ _ h => h) (by rfl) ?_ (by assumption) ?_
            rotate_left 1
            · intro w hSw
              (try dsimp only at hSw)
              go_simp
              try with_reducible rfl
            try simp only [List.setIfInBounds_toArray, List.set_cons_zero, List.set_cons_succ]
            refine takeH (i := 28) (v := ?_) rfl rfl (by kernel_rfl) (by kernel_rfl) (by kernel_rfl) (fun _ _ _ h => h) (by rfl) ?_ (by assumption) ?_
            rotate_left 1
            · intro w hSw
              (try dsimp only at hSw)
              go_simp
              try with_reducible rfl
            try simp only [List.setIfInBounds_toArray, List.set_cons_zero, List.set_cons_succ]
            refine wpAnyH_ready (rs := [29]) (by kernel_rfl) (by simp) ?_
            refine AllReadyH.cons rfl (fun K hK => ?_) (AllReadyH.nil)
            go_simp
            refine (lyIn_is HX2.out _ _ _ _ rfl (HI8.out.below BB2.out) (by omega)).mono ?_
            rintro en wz3 ⟨rfl, rfl⟩
            go_wp2_with fail
            refine hK.out _ _ ?_ (fun hNew => ?_)
            · exact ⟨⟨cell_later (BB2.out) HQ8.out.1, cell_later (BB2.out) HQ8.out.2.1, cell_later (BB2.out) HQ8.out.2.2.1, cell_later (BB2.out) HQ8.out.2.2.2.1, cell_later (BB2.out) HQ8.out.2.2.2.2.1, cell_later (BB2.out) HQ8.out.2.2.2.2.2.1, cell_later (BB2.out) HQ8.out.2.2.2.2.2.2.1, cell_later (BB2.out) HQ8.out.2.2.2.2.2.2.2.1, cell_later (BB2.out) HQ8.out.2.2.2.2.2.2.2.2.1, cell_later (BB2.out) HQ8.out.2.2.2.2.2.2.2.2.2.1, cell_later (BB2.out) HQ8.out.2.2.2.2.2.2.2.2.2.2.1, cell_later (BB2.out) HQ8.out.2.2.2.2.2.2.2.2.2.2.2⟩, Lib.hid trivial⟩
            clear hK K hHeld
            have hHeld := hNew
            clear hNew
            try simp only [Act.put, List.setIfInBounds_toArray, List.set_cons_zero, List.set_cons_succ]
            refine takeH (i := 30) (v := ?_) rfl rfl (by kernel_rfl) (by kernel_rfl) (by kernel_rfl) (fun _ _ _ h => h) (by rfl) ?_ (by assumption) ?_
            rotate_left 1
            · intro w hSw
              (try dsimp only at hSw)
              go_simp
              try with_reducible rfl
            try simp only [List.setIfInBounds_toArray, List.set_cons_zero, List.set_cons_succ]
            refine takeH (i := 31) (v := ?_) rfl rfl (by kernel_rfl) (by kernel_rfl) (by kernel_rfl) (fun _ _ _ h => h) (by rfl) ?_ (by assumption) ?_
            rotate_left 1
            · intro w hSw
              (try dsimp only at hSw)
              go_simp
              try with_reducible rfl
            try simp only [List.setIfInBounds_toArray, List.set_cons_zero, List.set_cons_succ]
            refine takeH (i := 32) (v := ?_) rfl rfl (by kernel_rfl) (by kernel_rfl) (by kernel_rfl) (fun _ _ _ h => h) (by rfl) ?_ (by assumption) ?_
            rotate_left 1
            · intro w hSw
              (try dsimp only at hSw)
              go_simp
              try with_reducible rfl
            try simp only [List.setIfInBounds_toArray, List.set_cons_zero, List.set_cons_succ]
            refine takeH (i := 33) (v := ?_) rfl rfl (by kernel_rfl) (by kernel_rfl) (by kernel_rfl) (fun _ _ _ h => h) (by rfl) ?_ (by assumption) ?_
            rotate_left 1
            · intro w hSw
              (try dsimp only at hSw)
              go_simp
              try with_reducible rfl
            try simp only [List.setIfInBounds_toArray, List.set_cons_zero, List.set_cons_succ]
            refine takeH (i := 34) (v := ?_) rfl rfl (by kernel_rfl) (by kernel_rfl) (by kernel_rfl) (fun _ _ _ h => h) (by rfl) ?_ (by assumption) ?_
            rotate_left 1
            · intro w hSw
              (try dsimp only at hSw)
              go_simp
              try with_reducible rfl
            try simp only [List.setIfInBounds_toArray, List.set_cons_zero, List.set_cons_succ]
            refine takeH (i := 35) (v := ?_) rfl rfl (by kernel_rfl) (by kernel_rfl) (by kernel_rfl) (fun _ _ _ h => h) (by rfl) ?_ (by assumption) ?_
            rotate_left 1
            · intro w hSw
              (try dsimp only at hSw)
              go_simp
              try with_reducible rfl
            try simp only [List.setIfInBounds_toArray, List.set_cons_zero, List.set_cons_succ]
            refine wpAnyH_ready (rs := [36]) (by kernel_rfl) (by simp) ?_
            refine AllReadyH.cons rfl (fun K hK => ?_) (AllReadyH.nil)
            go_simp
            refine (isealok_is [⟨g, 0, 0⟩] L HWL.out (some ⟨w5.heap.size, 0, none⟩) la 1 lc f b (some ⟨pb, po + (J + 1), none⟩) (c - (J + 1)) D2 0 d e M O HZ4.out _ p (HH8.out.below BB2.out) (by simp) (HL8.out.below BB2.out) (by omega) (HRR.out.below BB2.out) (HS8.out.ev.below BB2.out) (HS8.out.pw.next BB2.out)).mono ?_
            rintro en wz4 ⟨rfl, b4⟩
            have BB4 := Lib.hid (next BB2.out b4)
            clear b4
            go_wp2_with fail
            refine hK.out _ _ ?_ (fun hNew => ?_)
            · exact ⟨⟨cell_later (BB4.out) HQ8.out.1, cell_later (BB4.out) HQ8.out.2.1, cell_later (BB4.out) HQ8.out.2.2.1, cell_later (BB4.out) HQ8.out.2.2.2.1, cell_later (BB4.out) HQ8.out.2.2.2.2.1, cell_later (BB4.out) HQ8.out.2.2.2.2.2.1, cell_later (BB4.out) HQ8.out.2.2.2.2.2.2.1, cell_later (BB4.out) HQ8.out.2.2.2.2.2.2.2.1, cell_later (BB4.out) HQ8.out.2.2.2.2.2.2.2.2.1, cell_later (BB4.out) HQ8.out.2.2.2.2.2.2.2.2.2.1, cell_later (BB4.out) HQ8.out.2.2.2.2.2.2.2.2.2.2.1, cell_later (BB4.out) HQ8.out.2.2.2.2.2.2.2.2.2.2.2⟩, Lib.hid trivial⟩
            clear hK K hHeld
            have hHeld := hNew
            clear hNew
            try simp only [Act.put, List.setIfInBounds_toArray, List.set_cons_zero, List.set_cons_succ]
            refine takeH (i := 37) (v := ?_) rfl rfl (by kernel_rfl) (by kernel_rfl) (by kernel_rfl) (fun _ _ _ h => h) (by rfl) ?_ (by assumption) ?_
            rotate_left 1
            · intro w hSw
              (try dsimp only at hSw)
              go_simp
              try with_reducible rfl
            try simp only [List.setIfInBounds_toArray, List.set_cons_zero, List.set_cons_succ]
            refine takeH (i := 38) (v := ?_) rfl rfl (by kernel_rfl) (by kernel_rfl) (by kernel_rfl) (fun _ _ _ h => h) (by rfl) ?_ (by assumption) ?_
            rotate_left 1
            · intro w hSw
              (try dsimp only at hSw)
              go_simp
              try with_reducible rfl
            try simp only [List.setIfInBounds_toArray, List.set_cons_zero, List.set_cons_succ]
            refine takeH (i := 39) (v := ?_) rfl rfl (by kernel_rfl) (by kernel_rfl) (by kernel_rfl) (fun _ _ _ h => h) (by rfl) ?_ (by assumption) ?_
            rotate_left 1
            · intro w hSw
              (try dsimp only at hSw)
              go_simp
              try with_reducible rfl
            try simp only [List.setIfInBounds_toArray, List.set_cons_zero, List.set_cons_succ]
            refine takeH (i := 40) (v := ?_) rfl rfl (by kernel_rfl) (by kernel_rfl) (by kernel_rfl) (fun _ _ _ h => h) (by rfl) ?_ (by assumption) ?_
            rotate_left 1
            · intro w hSw
              (try dsimp only at hSw)
              go_simp
              try with_reducible rfl
            try simp only [List.setIfInBounds_toArray, List.set_cons_zero, List.set_cons_succ]
            refine wpAnyH_done (by kernel_rfl) ?_ _
            clear hHeld
            go_wp2_with fail
            go_ret
            exact ⟨rfl, next HS8.out.bel BB4.out⟩
end Go.Proofs.YtnnmgbgkgnejlaaDoor
