/-
  The law that a route with all its seals, from who holds the range, is sealed: the walk.
-/
import Derived.Test.YtnnmgbgkgnejlaaDoorSlBv
namespace Go.Proofs.YtnnmgbgkgnejlaaDoor
open Go.RowKit
set_option linter.unusedSimpArgs false
set_option linter.unusedVariables false

set_option maxRecDepth 100000 in
set_option maxHeartbeats 4000000 in
theorem lawSealOk (a0 : Option Addr) (len0 cap0 : Nat) (zs0 : List Int) (a1 : Option Addr) (len1 cap1 : Nat) (zs1 : List Int) (w : World) (h0 : IsRow w a0 len0 cap0 zs0) (h1 : IsRow w a1 len1 cap1 zs1) (p : Addr) (hE : EV w p) (hT : PowS w) :
    Calls Tryd.prog 6 #[.slice a0 len0 cap0, .slice a1 len1 cap1] w fun e w' => e = .returned (.bool true) ∧ Below w.heap.size w w' := by
  have H0 := Lib.hid h0
  have HE := Lib.hid hE
  have HT := Lib.hid hT
  clear h0 hE hT h1
  by_cases hl0 : (1048576 : Int) < (len0 : Int)
  · go_enter Tryd.func6, Tryd.ntmps6
    go_wp2_with fail
    go_ret
    exact ⟨rfl, Below.refl _ _⟩
  by_cases hl1 : (1048576 : Int) < (len1 : Int)
  · go_enter Tryd.func6, Tryd.ntmps6
    go_wp2_with fail
    go_ret
    exact ⟨rfl, Below.refl _ _⟩
  go_enter Tryd.func6, Tryd.ntmps6
  go_wp2_with fail
  refine (drO_any a0 len0 cap0 zs0 _ H0.out).mono ?_
  rintro en w1 ⟨f, b, l, t, P, M, a, c, d, e, al, cl, L, ah, ch, H, rfl, ⟨hlH, hlL, hlP, hlM, t0, t6⟩, ⟨hch, hcl⟩, hW, oH, oL, sA, hm, b1⟩
  have H1 := Lib.hid (And.intro oH (And.intro oL (And.intro sA (And.intro hm b1))))
  have HW := Lib.hid hW
  clear oH oL sA hm b1 hW
  go_wp2_with (refine wpList_stY rfl 27 _ _ rfl w1.heap.size #[.int .i64 f, .int .i64 b, .slice a P.length c, .int .i64 l, .slice d M.length e] ?x1 ?y1 ?o1 ?i1 _ (AtY.new5 w1 _ _ _ _ _ _) rfl ?g1)
  try case x1 => simp [Act.eval]
  try case y1 => simp [Act.eval]
  try case o1 => simp [Value.oneCell']
  try case i1 => rfl
  intro w2 a2 g2
  have HS := Lib.hid (Sg.mk' H1.out.2.2.2.2 H1.out.2.2.2.1 HE.out HT.out H1.out.1 H1.out.2.1 H1.out.2.2.1 a2 g2)
  clear a2 g2 H1
  obtain ⟨q0, q1, q2, q3, q4⟩ := HS.out.sm.box.five
  obtain ⟨ok, hok⟩ : ∃ ok, decide (lackM H L f b P l M t = 0) = ok := ⟨_, rfl⟩
  have HOK := Lib.hid hok
  clear hok
  go_wp2_with fail
  refine (isealok_is H L HW.out ah al ch cl f b a c P l d e M t HOK.out _ p HS.out.hv (by omega) HS.out.sl (by omega) HS.out.sm.rt HS.out.sm.ev HS.out.sm.pw).mono ?_
  rintro en w3 ⟨rfl, b3⟩
  have HS3 := Lib.hid (HS.out.go b3)
  clear b3 q0 q1 q2 q3 q4 HS
  obtain ⟨q0, q1, q2, q3, q4⟩ := HS3.out.sm.box.five
  go_wp2_with fail
  refine (sealok_is H L ah al ch cl f b a c P l d e M t HOK.out _ HS3.out.hv (by omega) HS3.out.sl (by omega) HS3.out.sm.rt).mono ?_
  rintro en w4 ⟨rfl, b4⟩
  have HS4 := Lib.hid (HS3.out.go b4)
  clear b4 q0 q1 q2 q3 q4 HS3
  obtain ⟨q0, q1, q2, q3, q4⟩ := HS4.out.sm.box.five
  go_wp2_with fail
  cases ho : rtOk (f, b, P, l, M) with
  | false =>
    refine (srok_is f b a c P l d e M ho _ HS4.out.sm.rt).mono ?_
    rintro en w5 ⟨rfl, b5⟩
    have HS5 := Lib.hid (HS4.out.go b5)
    clear b5 q0 q1 q2 q3 q4 HS4
    obtain ⟨q0, q1, q2, q3, q4⟩ := HS5.out.sm.box.five
    go_wp2_with fail
    refine (sealok_is H L ah al ch cl f b a c P l d e M t HOK.out _ HS5.out.hv (by omega) HS5.out.sl (by omega) HS5.out.sm.rt).mono ?_
    rintro en w6 ⟨rfl, b6⟩
    have HS6 := Lib.hid (HS5.out.go b6)
    clear b6
    go_wp2_with fail
    go_ret
    exact ⟨ret_bool (by simp), HS6.out.sm.bel⟩
  | true =>
    refine (srok_is f b a c P l d e M ho _ HS4.out.sm.rt).mono ?_
    rintro en w5 ⟨rfl, b5⟩
    have HS5 := Lib.hid (HS4.out.go b5)
    clear b5 q0 q1 q2 q3 q4 HS4 ho
    obtain ⟨q0, q1, q2, q3, q4⟩ := HS5.out.sm.box.five
    go_wp2_with fail
    refine (isealmake_is f b a c P l d e M t rfl _ p HS5.out.sm.rt HS5.out.sm.ev).mono ?_
    rintro en w6 ⟨v6, A, rfl, hR, hQ, hsm, b6⟩
    obtain ⟨la, lc, rfl, hlc⟩ := OwnSl.tab hR.row
    have HS6 := Lib.hid (HS5.out.go b6)
    have HA6 := Lib.hid (SlR.sla hR (fun x hx => by have := hsm x hx; omega))
    have HAl6 := Lib.hid (OwnSl.lies hR.row)
    have HAo6 := Lib.hid hR.row
    have HQ := Lib.hid hQ
    have hAl : A.length ≤ 6 := by have h1 := makeS_len f b P l M t; rw [← hQ, sealsP_len] at h1; omega
    clear hR hQ hsm b6 q0 q1 q2 q3 q4 HS5
    obtain ⟨q0, q1, q2, q3, q4⟩ := HS6.out.sm.box.five
    cases hk : tellB f b P l M t with
    | false =>
      obtain rfl := make_nil HQ.out hk
      obtain rfl : ok = false := by
        rw [← HOK.out]
        exact decide_eq_false (fun h => by have := (lackM_zero.1 h).1; rw [hk] at this; cases this)
      go_wp2_with fail
      go_ret
      exact ⟨rfl, HS6.out.sm.bel⟩
    | true =>
      obtain ⟨hA, hLP⟩ := make_all HQ.out hk
      have HA := Lib.hid hA
      have HK := Lib.hid hk
      have HLP := Lib.hid hLP
      have hP0 := tell_pos hk
      have HWA := Lib.hid (makeS_w HQ.out)
      have e0 : ((A.length : Int) == 0) = false := by rw [beq_eq_false_iff_ne]; omega
      obtain ⟨pb, po, rfl, c0⟩ := path_last HS6.out.sm.rt.1.1 hP0
      obtain ⟨K, hK⟩ : ∃ K, P.length - 1 = K := ⟨_, rfl⟩
      have ek : IntKind.i64.wrap ((P.length : Int) - 1) = (K : Int) := by rw [IntKind.wrap_i64]; omega
      have i0 : (0 : Int) ≤ (K : Int) := by omega
      have i1 : (K : Int) < (P.length : Int) := by omega
      obtain ⟨g, hg⟩ : ∃ g, P.getD (P.length - 1) 0 = g := ⟨_, rfl⟩
      have HG := Lib.hid hg
      obtain ⟨J, hJ⟩ : ∃ J : Nat, (len1 : Int).tmod (A.length : Int) = (J : Int) ∧ J < P.length := ⟨len1 % A.length, by rw [Int.tmod_eq_emod_of_nonneg (by omega)]; omega, by rw [← hLP]; exact Nat.mod_lt _ (by omega)⟩
      obtain ⟨hJ, hJP⟩ := hJ
      have hJA : J < A.length := by omega
      rw [hg, hK] at c0
      clear hA hk hLP hg hK
      go_upto_region 10 with fail
      have HQC := Lib.hid (And.intro q0 (And.intro q1 (And.intro q2 (And.intro q3 (And.intro q4 c0)))))
      have HSC := Lib.hid HS6.out.hl
      clear q0 q1 q2 q3 q4 c0
      go_cut [11] from 61 (fun hv wx => ∃ (xa : Option Addr) (xc : Nat) (H2 : List HV), hv = .slice xa H2.length xc ∧ Hid (H ++ [(⟨g, f, b⟩ : HV)] = H2 ∧ OwnHv wx w6.heap.size (.slice xa H2.length xc) H2 ∧ Below w6.heap.size w6 wx))
      case first =>
        refine wp_region_held_drew (S := fun Wx => (Wx.cell? ⟨w1.heap.size, 0, none⟩ = some (.int .i64 f) ∧ Wx.cell? ⟨w1.heap.size, 1, none⟩ = some (.int .i64 b) ∧ Wx.cell? ⟨w1.heap.size, 2, none⟩ = some (.slice (some ⟨pb, po, none⟩) P.length c) ∧ Wx.cell? ⟨w1.heap.size, 3, none⟩ = some (.int .i64 l) ∧ Wx.cell? ⟨w1.heap.size, 4, none⟩ = some (.slice d M.length e) ∧ Wx.cell? ⟨pb, po + K, none⟩ = some (.int .i64 g)) ∧ Hid True) (by kernel_rfl) ?_ (fun hHeld => ?_)
        · exact ⟨HQC.out, Lib.hid trivial⟩
        refine takeH (i := 1) (v := ?_) rfl rfl (by kernel_rfl) (by kernel_rfl) (by kernel_rfl) (fun _ _ _ h => h) (by rfl) ?_ (by assumption) ?_
        rotate_left 1
        · intro w hSw
          (try dsimp only at hSw)
          go_simp
          try with_reducible rfl
        try simp only [List.setIfInBounds_toArray, List.set_cons_zero, List.set_cons_succ]
        refine takeH (i := 3) (v := ?_) rfl rfl (by kernel_rfl) (by kernel_rfl) (by kernel_rfl) (fun _ _ _ h => h) (by rfl) ?_ (by assumption) ?_
        rotate_left 1
        · intro w hSw
          (try dsimp only at hSw)
          go_simp
          try with_reducible rfl
        try simp only [List.setIfInBounds_toArray, List.set_cons_zero, List.set_cons_succ]
        refine takeH (i := 4) (v := ?_) rfl rfl (by kernel_rfl) (by kernel_rfl) (by kernel_rfl) (fun _ _ _ h => h) (by rfl) ?_ (by assumption) ?_
        rotate_left 1
        · intro w hSw
          (try dsimp only at hSw)
          go_simp
          try with_reducible rfl
        try simp only [List.setIfInBounds_toArray, List.set_cons_zero, List.set_cons_succ]
        refine takeH (i := 5) (v := ?_) rfl rfl (by kernel_rfl) (by kernel_rfl) (by kernel_rfl) (fun _ _ _ h => h) (by rfl) ?_ (by assumption) ?_
        rotate_left 1
        · intro w hSw
          (try dsimp only at hSw)
          go_simp
          try with_reducible rfl
        try simp only [List.setIfInBounds_toArray, List.set_cons_zero, List.set_cons_succ]
        refine takeH (i := 6) (v := ?_) rfl rfl (by kernel_rfl) (by kernel_rfl) (by kernel_rfl) (fun _ _ _ h => h) (by rfl) ?_ (by assumption) ?_
        rotate_left 1
        · intro w hSw
          (try dsimp only at hSw)
          go_simp
          try with_reducible rfl
        try simp only [List.setIfInBounds_toArray, List.set_cons_zero, List.set_cons_succ]
        refine takeH (i := 7) (v := ?_) rfl rfl (by kernel_rfl) (by kernel_rfl) (by kernel_rfl) (fun _ _ _ h => h) (by rfl) ?_ (by assumption) ?_
        rotate_left 1
        · intro w hSw
          (try dsimp only at hSw)
          go_simp
          try with_reducible rfl
        try simp only [List.setIfInBounds_toArray, List.set_cons_zero, List.set_cons_succ]
        refine takeH (i := 8) (v := ?_) rfl rfl (by kernel_rfl) (by kernel_rfl) (by kernel_rfl) (fun _ _ _ h => h) (by rfl) ?_ (by assumption) ?_
        rotate_left 1
        · intro w hSw
          (try dsimp only at hSw)
          go_simp
          try with_reducible rfl
        try simp only [List.setIfInBounds_toArray, List.set_cons_zero, List.set_cons_succ]
        refine takeH (i := 9) (v := ?_) rfl rfl (by kernel_rfl) (by kernel_rfl) (by kernel_rfl) (fun _ _ _ h => h) (by rfl) ?_ (by assumption) ?_
        rotate_left 1
        · intro w hSw
          (try dsimp only at hSw)
          go_simp
          try with_reducible rfl
        try simp only [List.setIfInBounds_toArray, List.set_cons_zero, List.set_cons_succ]
        refine takeH (i := 10) (v := ?_) rfl rfl (by kernel_rfl) (by kernel_rfl) (by kernel_rfl) (fun _ _ _ h => h) (by rfl) ?_ (by assumption) ?_
        rotate_left 1
        · intro w hSw
          (try dsimp only at hSw)
          go_simp
          try with_reducible rfl
        try simp only [List.setIfInBounds_toArray, List.set_cons_zero, List.set_cons_succ]
        refine takeH (i := 11) (v := ?_) rfl rfl (by kernel_rfl) (by kernel_rfl) (by kernel_rfl) (fun _ _ _ h => h) (by rfl) ?_ (by assumption) ?_
        rotate_left 1
        · intro w hSw
          (try dsimp only at hSw)
          go_simp
          try with_reducible rfl
        try simp only [List.setIfInBounds_toArray, List.set_cons_zero, List.set_cons_succ]
        refine takeH (i := 12) (v := ?_) rfl rfl (by kernel_rfl) (by kernel_rfl) (by kernel_rfl) (fun _ _ _ h => h) (by rfl) ?_ (by assumption) ?_
        rotate_left 1
        · intro w hSw
          (try dsimp only at hSw)
          go_simp
          try with_reducible rfl
        try simp only [List.setIfInBounds_toArray, List.set_cons_zero, List.set_cons_succ]
        refine takeH (i := 13) (v := ?_) rfl rfl (by kernel_rfl) (by kernel_rfl) (by kernel_rfl) (fun _ _ _ h => h) (by rfl) ?_ (by assumption) ?_
        rotate_left 1
        · intro w hSw
          (try dsimp only at hSw)
          go_simp
          try with_reducible rfl
        try simp only [List.setIfInBounds_toArray, List.set_cons_zero, List.set_cons_succ]
        refine wpAnyH_ready (rs := [0, 14]) (by kernel_rfl) (by simp) ?_
        refine AllReadyH.cons rfl (fun K hK => ?_) (AllReadyH.cons rfl (fun K hK => ?_) (AllReadyH.nil))
        · go_simp
          have be1 : Below w6.drew.heap.size w6.drew ((w6.alloc (.cells #[] 48)).drew) := (show Below w6.drew.heap.size w6.drew (w6.drew.alloc (.cells #[] 48)) from (Below.refl _ _).alloc (Nat.le_refl _) _)
          have E1 := Lib.hid (show OwnHv ((w6.alloc (.cells #[] 48)).drew) w6.heap.size (.slice (some ⟨w6.heap.size, 0, none⟩) 0 0) [] from (show OwnHv (w6.drew.alloc (.cells #[] 48)) w6.heap.size (.slice (some ⟨w6.drew.heap.size, 0, none⟩) 0 0) [] from ownhv_empty w6.drew w6.heap.size (Nat.le_refl _)))
          have BB1 := Lib.hid (next ((Below.refl w6.heap.size w6).drew) be1)
          have hsz1 : w6.heap.size + 1 ≤ ((w6.alloc (.cells #[] 48)).drew).heap.size := (by simp)
          generalize (w6.alloc (.cells #[] 48)).drew = wz1 at *
          refine hK.out _ _ ?_ (fun hNew => ?_)
          · exact ⟨⟨cell_later be1 hHeld.1.1, cell_later be1 hHeld.1.2.1, cell_later be1 hHeld.1.2.2.1, cell_later be1 hHeld.1.2.2.2.1, cell_later be1 hHeld.1.2.2.2.2.1, cell_later be1 hHeld.1.2.2.2.2.2⟩, Lib.hid trivial⟩
          clear hK K hHeld
          have hHeld := hNew
          clear hNew
          try simp only [Act.put, List.setIfInBounds_toArray, List.set_cons_zero, List.set_cons_succ]
          refine wpAnyH_ready (rs := [2, 14]) (by kernel_rfl) (by simp) ?_
          refine AllReadyH.cons rfl (fun K hK => ?_) (AllReadyH.cons rfl (fun K hK => ?_) (AllReadyH.nil))
          · refine wp_apH (.tmp 61) (.tmp 62) rfl w6.heap.size (.slice (some ⟨w6.heap.size, 0, none⟩) 0 0) [] (by simp [Act.eval]) E1.out ah H.length ch H rfl (by simp [Act.eval]) (HSC.out.below BB1.out) hch (by first | (simp; omega) | omega) BB1.out.size ?_
            intro v2 w902 own2 grow2
            replace own2 : OwnHv w902 w6.heap.size v2 H := own2
            have bq2 : Below w6.heap.size w6 w902 := below_app BB1.out E1.out (Nat.le_refl _) grow2
            obtain ⟨xa2, xc2, rfl, _⟩ := OwnHv.tab own2
            have O2 := Lib.hid own2
            have BB2 := Lib.hid bq2
            clear own2 grow2
            generalize hw2 : w902 = wz2 at *
            clear hw2
            show K (Act.put _ (some 63) _) wz2
            refine hK.out _ _ ?_ (fun hNew => ?_)
            · exact ⟨⟨cell_later bq2 HQC.out.1, cell_later bq2 HQC.out.2.1, cell_later bq2 HQC.out.2.2.1, cell_later bq2 HQC.out.2.2.2.1, cell_later bq2 HQC.out.2.2.2.2.1, cell_later bq2 HQC.out.2.2.2.2.2⟩, Lib.hid trivial⟩
            clear hK K hHeld
            have hHeld := hNew
            clear hNew
            try simp only [Act.put, List.setIfInBounds_toArray, List.set_cons_zero, List.set_cons_succ]
            refine wpAnyH_ready (rs := [14]) (by kernel_rfl) (by simp) ?_
            refine AllReadyH.cons rfl (fun K hK => ?_) (AllReadyH.nil)
            go_simp
            have be3 : Below wz2.heap.size wz2 (wz2.alloc (.cells #[.int .i64 g, .int .i64 f, .int .i64 b] 48)) := (Below.refl _ _).alloc (Nat.le_refl _) _
            have O3 := Lib.hid (ownhv_later O2.out be3)
            have N3 := Lib.hid (hvl_one wz2 g f b)
            have BB3 := Lib.hid (next BB2.out be3)
            generalize wz2.alloc (.cells #[.int .i64 g, .int .i64 f, .int .i64 b] 48) = wz3 at *
            refine hK.out _ _ ?_ (fun hNew => ?_)
            · exact ⟨⟨cell_later be3 hHeld.1.1, cell_later be3 hHeld.1.2.1, cell_later be3 hHeld.1.2.2.1, cell_later be3 hHeld.1.2.2.2.1, cell_later be3 hHeld.1.2.2.2.2.1, cell_later be3 hHeld.1.2.2.2.2.2⟩, Lib.hid trivial⟩
            clear hK K hHeld
            have hHeld := hNew
            clear hNew
            try simp only [Act.put, List.setIfInBounds_toArray, List.set_cons_zero, List.set_cons_succ]
            refine wpAnyH_ready (rs := [15]) (by kernel_rfl) (by simp) ?_
            refine AllReadyH.cons rfl (fun K hK => ?_) (AllReadyH.nil)
            refine wp_apH (.tmp 63) (.tmp 75) rfl w6.heap.size (.slice xa2 H.length xc2) H (by simp [Act.eval]) O3.out (some ⟨wz2.heap.size, 0, none⟩) 1 1 [⟨g, f, b⟩] rfl (by simp [Act.eval]) N3.out (Nat.le_refl _) (by simp; omega) BB3.out.size ?_
            intro v4 w904 own4 grow4
            have bq4 : Below w6.heap.size w6 w904 := below_app BB3.out O3.out (Nat.le_refl _) grow4
            obtain ⟨L2, hL2⟩ : ∃ L2 : List HV, H ++ [(⟨g, f, b⟩ : HV)] = L2 := ⟨_, rfl⟩
            have hl2 : L2.length = H.length + 1 := (by rw [← hL2]; simp)
            rw [hL2] at own4
            obtain ⟨xa4, xc4, rfl, _⟩ := OwnHv.tab own4
            have HF := Lib.hid (show H ++ [(⟨g, f, b⟩ : HV)] = L2 ∧ OwnHv w904 w6.heap.size (.slice xa4 L2.length xc4) L2 ∧ Below w6.heap.size w6 w904 from ⟨hL2, own4, bq4⟩)
            have HL4 := Lib.hid hl2
            clear own4 grow4 hl2 hL2
            generalize hw4 : w904 = wz4 at *
            clear hw4
            show K (Act.put _ (some 76) _) wz4
            refine hK.out _ _ ?_ (fun hNew => ?_)
            · exact ⟨⟨cell_later bq4 HQC.out.1, cell_later bq4 HQC.out.2.1, cell_later bq4 HQC.out.2.2.1, cell_later bq4 HQC.out.2.2.2.1, cell_later bq4 HQC.out.2.2.2.2.1, cell_later bq4 HQC.out.2.2.2.2.2⟩, Lib.hid trivial⟩
            clear hK K hHeld
            have hHeld := hNew
            clear hNew
            try simp only [Act.put, List.setIfInBounds_toArray, List.set_cons_zero, List.set_cons_succ]
            refine takeH (i := 16) (v := ?_) rfl rfl (by kernel_rfl) (by kernel_rfl) (by kernel_rfl) (fun _ _ _ h => h) (by rfl) ?_ (by assumption) ?_
            rotate_left 1
            · intro w hSw
              (try dsimp only at hSw)
              go_simp
              try with_reducible rfl
            try simp only [List.setIfInBounds_toArray, List.set_cons_zero, List.set_cons_succ]
            refine wpAnyH_done (by kernel_rfl) ?_ _
            clear hHeld
            go_wp2_with fail
            go_meet
            exact ⟨xa4, xc4, L2, (by simp), HF⟩
          · go_simp
            have be5 : Below wz1.heap.size wz1 (wz1.alloc (.cells #[.int .i64 g, .int .i64 f, .int .i64 b] 48)) := (Below.refl _ _).alloc (Nat.le_refl _) _
            have E2 := Lib.hid (ownhv_later E1.out be5)
            have N2 := Lib.hid (hvl_one wz1 g f b)
            have BB2 := Lib.hid (next BB1.out be5)
            generalize wz1.alloc (.cells #[.int .i64 g, .int .i64 f, .int .i64 b] 48) = wz2 at *
            refine hK.out _ _ ?_ (fun hNew => ?_)
            · exact ⟨⟨cell_later be5 hHeld.1.1, cell_later be5 hHeld.1.2.1, cell_later be5 hHeld.1.2.2.1, cell_later be5 hHeld.1.2.2.2.1, cell_later be5 hHeld.1.2.2.2.2.1, cell_later be5 hHeld.1.2.2.2.2.2⟩, Lib.hid trivial⟩
            clear hK K hHeld
            have hHeld := hNew
            clear hNew
            try simp only [Act.put, List.setIfInBounds_toArray, List.set_cons_zero, List.set_cons_succ]
            refine wpAnyH_ready (rs := [2]) (by kernel_rfl) (by simp) ?_
            refine AllReadyH.cons rfl (fun K hK => ?_) (AllReadyH.nil)
            refine wp_apH (.tmp 61) (.tmp 62) rfl w6.heap.size (.slice (some ⟨w6.heap.size, 0, none⟩) 0 0) [] (by simp [Act.eval]) E2.out ah H.length ch H rfl (by simp [Act.eval]) (HSC.out.below BB2.out) hch (by simp; omega) BB2.out.size ?_
            intro v3 w903 own3 grow3
            replace own3 : OwnHv w903 w6.heap.size v3 H := own3
            have bq3 : Below w6.heap.size w6 w903 := below_app BB2.out E2.out (Nat.le_refl _) grow3
            have N3 := Lib.hid (N2.out.but grow3 (fun bb oo he hr => by simp [Value.ownBlock] at he hr; omega))
            obtain ⟨xa3, xc3, rfl, _⟩ := OwnHv.tab own3
            have O3 := Lib.hid own3
            have BB3 := Lib.hid bq3
            clear own3 grow3
            generalize hw3 : w903 = wz3 at *
            clear hw3
            show K (Act.put _ (some 63) _) wz3
            refine hK.out _ _ ?_ (fun hNew => ?_)
            · exact ⟨⟨cell_later bq3 HQC.out.1, cell_later bq3 HQC.out.2.1, cell_later bq3 HQC.out.2.2.1, cell_later bq3 HQC.out.2.2.2.1, cell_later bq3 HQC.out.2.2.2.2.1, cell_later bq3 HQC.out.2.2.2.2.2⟩, Lib.hid trivial⟩
            clear hK K hHeld
            have hHeld := hNew
            clear hNew
            try simp only [Act.put, List.setIfInBounds_toArray, List.set_cons_zero, List.set_cons_succ]
            refine wpAnyH_ready (rs := [15]) (by kernel_rfl) (by simp) ?_
            refine AllReadyH.cons rfl (fun K hK => ?_) (AllReadyH.nil)
            refine wp_apH (.tmp 63) (.tmp 75) rfl w6.heap.size (.slice xa3 H.length xc3) H (by simp [Act.eval]) O3.out (some ⟨wz1.heap.size, 0, none⟩) 1 1 [⟨g, f, b⟩] rfl (by simp [Act.eval]) N3.out (Nat.le_refl _) (by simp; omega) BB3.out.size ?_
            intro v4 w904 own4 grow4
            have bq4 : Below w6.heap.size w6 w904 := below_app BB3.out O3.out (Nat.le_refl _) grow4
            obtain ⟨L2, hL2⟩ : ∃ L2 : List HV, H ++ [(⟨g, f, b⟩ : HV)] = L2 := ⟨_, rfl⟩
            have hl2 : L2.length = H.length + 1 := (by rw [← hL2]; simp)
            rw [hL2] at own4
            obtain ⟨xa4, xc4, rfl, _⟩ := OwnHv.tab own4
            have HF := Lib.hid (show H ++ [(⟨g, f, b⟩ : HV)] = L2 ∧ OwnHv w904 w6.heap.size (.slice xa4 L2.length xc4) L2 ∧ Below w6.heap.size w6 w904 from ⟨hL2, own4, bq4⟩)
            have HL4 := Lib.hid hl2
            clear own4 grow4 hl2 hL2
            generalize hw4 : w904 = wz4 at *
            clear hw4
            show K (Act.put _ (some 76) _) wz4
            refine hK.out _ _ ?_ (fun hNew => ?_)
            · exact ⟨⟨cell_later bq4 HQC.out.1, cell_later bq4 HQC.out.2.1, cell_later bq4 HQC.out.2.2.1, cell_later bq4 HQC.out.2.2.2.1, cell_later bq4 HQC.out.2.2.2.2.1, cell_later bq4 HQC.out.2.2.2.2.2⟩, Lib.hid trivial⟩
            clear hK K hHeld
            have hHeld := hNew
            clear hNew
            try simp only [Act.put, List.setIfInBounds_toArray, List.set_cons_zero, List.set_cons_succ]
            refine takeH (i := 16) (v := ?_) rfl rfl (by kernel_rfl) (by kernel_rfl) (by kernel_rfl) (fun _ _ _ h => h) (by rfl) ?_ (by assumption) ?_
            rotate_left 1
            · intro w hSw
              (try dsimp only at hSw)
              go_simp
              try with_reducible rfl
            try simp only [List.setIfInBounds_toArray, List.set_cons_zero, List.set_cons_succ]
            refine wpAnyH_done (by kernel_rfl) ?_ _
            clear hHeld
            go_wp2_with fail
            go_meet
            exact ⟨xa4, xc4, L2, (by simp), HF⟩
        · go_simp
          have be1 : Below w6.drew.heap.size w6.drew ((w6.alloc (.cells #[.int .i64 g, .int .i64 f, .int .i64 b] 48)).drew) := (show Below w6.drew.heap.size w6.drew (w6.drew.alloc (.cells #[.int .i64 g, .int .i64 f, .int .i64 b] 48)) from (Below.refl _ _).alloc (Nat.le_refl _) _)
          have N1 := Lib.hid (show HvL ((w6.alloc (.cells #[.int .i64 g, .int .i64 f, .int .i64 b] 48)).drew) (some ⟨w6.heap.size, 0, none⟩) [⟨g, f, b⟩] from hvl_one w6.drew g f b)
          have BB1 := Lib.hid (next ((Below.refl w6.heap.size w6).drew) be1)
          have hsz1 : w6.heap.size + 1 ≤ ((w6.alloc (.cells #[.int .i64 g, .int .i64 f, .int .i64 b] 48)).drew).heap.size := (by simp)
          generalize (w6.alloc (.cells #[.int .i64 g, .int .i64 f, .int .i64 b] 48)).drew = wz1 at *
          refine hK.out _ _ ?_ (fun hNew => ?_)
          · exact ⟨⟨cell_later be1 hHeld.1.1, cell_later be1 hHeld.1.2.1, cell_later be1 hHeld.1.2.2.1, cell_later be1 hHeld.1.2.2.2.1, cell_later be1 hHeld.1.2.2.2.2.1, cell_later be1 hHeld.1.2.2.2.2.2⟩, Lib.hid trivial⟩
          clear hK K hHeld
          have hHeld := hNew
          clear hNew
          try simp only [Act.put, List.setIfInBounds_toArray, List.set_cons_zero, List.set_cons_succ]
          refine wpAnyH_ready (rs := [0]) (by kernel_rfl) (by simp) ?_
          refine AllReadyH.cons rfl (fun K hK => ?_) (AllReadyH.nil)
          go_simp
          have be5 : Below wz1.heap.size wz1 (wz1.alloc (.cells #[] 48)) := (Below.refl _ _).alloc (Nat.le_refl _) _
          have E2 := Lib.hid (show OwnHv (wz1.alloc (.cells #[] 48)) w6.heap.size (.slice (some ⟨wz1.heap.size, 0, none⟩) 0 0) [] from ownhv_empty wz1 w6.heap.size (BB1.out.size))
          have N2 := Lib.hid (N1.out.below be5)
          have BB2 := Lib.hid (next BB1.out be5)
          generalize wz1.alloc (.cells #[] 48) = wz2 at *
          refine hK.out _ _ ?_ (fun hNew => ?_)
          · exact ⟨⟨cell_later be5 hHeld.1.1, cell_later be5 hHeld.1.2.1, cell_later be5 hHeld.1.2.2.1, cell_later be5 hHeld.1.2.2.2.1, cell_later be5 hHeld.1.2.2.2.2.1, cell_later be5 hHeld.1.2.2.2.2.2⟩, Lib.hid trivial⟩
          clear hK K hHeld
          have hHeld := hNew
          clear hNew
          try simp only [Act.put, List.setIfInBounds_toArray, List.set_cons_zero, List.set_cons_succ]
          refine wpAnyH_ready (rs := [2]) (by kernel_rfl) (by simp) ?_
          refine AllReadyH.cons rfl (fun K hK => ?_) (AllReadyH.nil)
          refine wp_apH (.tmp 61) (.tmp 62) rfl w6.heap.size (.slice (some ⟨wz1.heap.size, 0, none⟩) 0 0) [] (by simp [Act.eval]) E2.out ah H.length ch H rfl (by simp [Act.eval]) (HSC.out.below BB2.out) hch (by simp; omega) BB2.out.size ?_
          intro v3 w903 own3 grow3
          replace own3 : OwnHv w903 w6.heap.size v3 H := own3
          have bq3 : Below w6.heap.size w6 w903 := below_app BB2.out E2.out (Nat.le_refl _) grow3
          have N3 := Lib.hid (N2.out.but grow3 (fun bb oo he hr => by simp [Value.ownBlock] at he hr; omega))
          obtain ⟨xa3, xc3, rfl, _⟩ := OwnHv.tab own3
          have O3 := Lib.hid own3
          have BB3 := Lib.hid bq3
          clear own3 grow3
          generalize hw3 : w903 = wz3 at *
          clear hw3
          show K (Act.put _ (some 63) _) wz3
          refine hK.out _ _ ?_ (fun hNew => ?_)
          · exact ⟨⟨cell_later bq3 HQC.out.1, cell_later bq3 HQC.out.2.1, cell_later bq3 HQC.out.2.2.1, cell_later bq3 HQC.out.2.2.2.1, cell_later bq3 HQC.out.2.2.2.2.1, cell_later bq3 HQC.out.2.2.2.2.2⟩, Lib.hid trivial⟩
          clear hK K hHeld
          have hHeld := hNew
          clear hNew
          try simp only [Act.put, List.setIfInBounds_toArray, List.set_cons_zero, List.set_cons_succ]
          refine wpAnyH_ready (rs := [15]) (by kernel_rfl) (by simp) ?_
          refine AllReadyH.cons rfl (fun K hK => ?_) (AllReadyH.nil)
          refine wp_apH (.tmp 63) (.tmp 75) rfl w6.heap.size (.slice xa3 H.length xc3) H (by simp [Act.eval]) O3.out (some ⟨w6.heap.size, 0, none⟩) 1 1 [⟨g, f, b⟩] rfl (by simp [Act.eval]) N3.out (Nat.le_refl _) (by simp; omega) BB3.out.size ?_
          intro v4 w904 own4 grow4
          have bq4 : Below w6.heap.size w6 w904 := below_app BB3.out O3.out (Nat.le_refl _) grow4
          obtain ⟨L2, hL2⟩ : ∃ L2 : List HV, H ++ [(⟨g, f, b⟩ : HV)] = L2 := ⟨_, rfl⟩
          have hl2 : L2.length = H.length + 1 := (by rw [← hL2]; simp)
          rw [hL2] at own4
          obtain ⟨xa4, xc4, rfl, _⟩ := OwnHv.tab own4
          have HF := Lib.hid (show H ++ [(⟨g, f, b⟩ : HV)] = L2 ∧ OwnHv w904 w6.heap.size (.slice xa4 L2.length xc4) L2 ∧ Below w6.heap.size w6 w904 from ⟨hL2, own4, bq4⟩)
          have HL4 := Lib.hid hl2
          clear own4 grow4 hl2 hL2
          generalize hw4 : w904 = wz4 at *
          clear hw4
          show K (Act.put _ (some 76) _) wz4
          refine hK.out _ _ ?_ (fun hNew => ?_)
          · exact ⟨⟨cell_later bq4 HQC.out.1, cell_later bq4 HQC.out.2.1, cell_later bq4 HQC.out.2.2.1, cell_later bq4 HQC.out.2.2.2.1, cell_later bq4 HQC.out.2.2.2.2.1, cell_later bq4 HQC.out.2.2.2.2.2⟩, Lib.hid trivial⟩
          clear hK K hHeld
          have hHeld := hNew
          clear hNew
          try simp only [Act.put, List.setIfInBounds_toArray, List.set_cons_zero, List.set_cons_succ]
          refine takeH (i := 16) (v := ?_) rfl rfl (by kernel_rfl) (by kernel_rfl) (by kernel_rfl) (fun _ _ _ h => h) (by rfl) ?_ (by assumption) ?_
          rotate_left 1
          · intro w hSw
            (try dsimp only at hSw)
            go_simp
            try with_reducible rfl
          try simp only [List.setIfInBounds_toArray, List.set_cons_zero, List.set_cons_succ]
          refine wpAnyH_done (by kernel_rfl) ?_ _
          clear hHeld
          go_wp2_with fail
          go_meet
          exact ⟨xa4, xc4, L2, (by simp), HF⟩
      case rest =>
        obtain ⟨xh, xhc, H2, rfl, HF2⟩ := hcut
        obtain ⟨w7, hw7⟩ : ∃ W, W = wc := ⟨_, rfl⟩
        subst hw7
        have HS7 := Lib.hid (HS6.out.go HF2.out.2.2)
        have HV7 := Lib.hid (OwnHv.hva HF2.out.2.1)
        have HAo7 := Lib.hid (ownsl_later HAo6.out HF2.out.2.2)
        have HA7 := Lib.hid (SlA.below HA6.out HF2.out.2.2)
        have hl2 : H2.length ≤ 6 := by rw [← HF2.out.1]; simp; omega
        clear HS6 HA6 HAl6 HAo6 HQC HSC ek i0 i1
        go_upto_region 12 with fail
        obtain ⟨q0, q1, q2, q3, q4⟩ := HS7.out.sm.box.five
        have HQ7 := Lib.hid (And.intro q0 (And.intro q1 (And.intro q2 (And.intro q3 q4))))
        clear q0 q1 q2 q3 q4
        have iK : IntKind.i64.wrap ((J : Int) + 1) = ((J + 1 : Nat) : Int) := by rw [IntKind.wrap_i64]; omega
        have k0 : (0 : Int) ≤ (J : Int) := by omega
        have k1 : (J : Int) ≤ (lc : Int) := by omega
        have k2 : (0 : Int) ≤ ((J + 1 : Nat) : Int) := by omega
        have k3 : ((J + 1 : Nat) : Int) ≤ (A.length : Int) := by omega
        have k4 : (A.length : Int) ≤ (lc : Int) := by omega
        have k5 : J ≤ lc := by omega
        have k6 : A.length - (J + 1) ≤ lc - (J + 1) := by omega
        have k7 : J + 1 ≤ A.length := by omega
        have k2' : (0 : Int) ≤ (J : Int) + 1 := by omega
        have k3' : (J : Int) + 1 ≤ (A.length : Int) := by omega
        obtain ⟨lg, rfl⟩ : ∃ lg, la = some ⟨lg, 0, none⟩ := by
          rcases HAo7.out.2 with ⟨e1, h1⟩ | ⟨g1, cap, cur, e1, _⟩
          · omega
          · injection e1 with e2 _ _
            exact ⟨g1, e2⟩
        have HT7 := Lib.hid ((OwnSl.lies HAo7.out).take J)
        obtain ⟨aa, haa⟩ : ∃ aa : Option Addr, (if lc = J + 1 then some (⟨lg, 0, none⟩ : Addr) else some ⟨lg, (J + 1) * 5, none⟩) = aa := ⟨_, rfl⟩
        have HD7 := Lib.hid (show SlL w7 aa (A.drop (J + 1)) by
          rw [← haa]
          split
          · exact .inl (List.drop_eq_nil_of_le (by omega))
          · have h5 := SlL.drop (OwnSl.lies HAo7.out) (J + 1); rwa [Nat.zero_add] at h5)
        go_cut [13] from 82 (fun nv wx => ∃ (xa : Option Addr) (xc : Nat) (N : List SV), nv = .slice xa N.length xc ∧ Hid (A.take J ++ A.drop (J + 1) = N ∧ OwnSl wx w7.heap.size (.slice xa N.length xc) N ∧ Below w7.heap.size w7 wx))
        case first =>
          refine wp_region_held_drew (S := fun Wx => (Wx.cell? ⟨w1.heap.size, 0, none⟩ = some (.int .i64 f) ∧ Wx.cell? ⟨w1.heap.size, 1, none⟩ = some (.int .i64 b) ∧ Wx.cell? ⟨w1.heap.size, 2, none⟩ = some (.slice (some ⟨pb, po, none⟩) P.length c) ∧ Wx.cell? ⟨w1.heap.size, 3, none⟩ = some (.int .i64 l) ∧ Wx.cell? ⟨w1.heap.size, 4, none⟩ = some (.slice d M.length e)) ∧ Hid True) (by kernel_rfl) ?_ (fun hHeld => ?_)
          · exact ⟨HQ7.out, Lib.hid trivial⟩
          refine takeH (i := 1) (v := ?_) rfl rfl (by kernel_rfl) (by kernel_rfl) (by kernel_rfl) (fun _ _ _ h => h) (by rfl) ?_ (by assumption) ?_
          rotate_left 1
          · intro w hSw
            (try dsimp only at hSw)
            go_simp
            try with_reducible rfl
          try simp only [List.setIfInBounds_toArray, List.set_cons_zero, List.set_cons_succ]
          refine takeH (i := 2) (v := ?_) rfl rfl (by kernel_rfl) (by kernel_rfl) (by kernel_rfl) (fun _ _ _ h => h) (by rfl) ?_ (by assumption) ?_
          rotate_left 1
          · intro w hSw
            (try dsimp only at hSw)
            go_simp
            try with_reducible rfl
          try simp only [List.setIfInBounds_toArray, List.set_cons_zero, List.set_cons_succ]
          refine takeH (i := 3) (v := ?_) rfl rfl (by kernel_rfl) (by kernel_rfl) (by kernel_rfl) (fun _ _ _ h => h) (by rfl) ?_ (by assumption) ?_
          rotate_left 1
          · intro w hSw
            (try dsimp only at hSw)
            go_simp
            try with_reducible rfl
          try simp only [List.setIfInBounds_toArray, List.set_cons_zero, List.set_cons_succ]
          refine takeH (i := 5) (v := ?_) rfl rfl (by kernel_rfl) (by kernel_rfl) (by kernel_rfl) (fun _ _ _ h => h) (by rfl) ?_ (by assumption) ?_
          rotate_left 1
          · intro w hSw
            (try dsimp only at hSw)
            go_simp
            try with_reducible rfl
          try simp only [List.setIfInBounds_toArray, List.set_cons_zero, List.set_cons_succ]
          refine takeH (i := 6) (v := ?_) rfl rfl (by kernel_rfl) (by kernel_rfl) (by kernel_rfl) (fun _ _ _ h => h) (by rfl) ?_ (by assumption) ?_
          rotate_left 1
          · intro w hSw
            (try dsimp only at hSw)
            go_simp
            try with_reducible rfl
          try simp only [List.setIfInBounds_toArray, List.set_cons_zero, List.set_cons_succ]
          refine takeH (i := 7) (v := ?_) rfl rfl (by kernel_rfl) (by kernel_rfl) (by kernel_rfl) (fun _ _ _ h => h) (by rfl) ?_ (by assumption) ?_
          rotate_left 1
          · intro w hSw
            (try dsimp only at hSw)
            go_simp
            try with_reducible rfl
          try simp only [List.setIfInBounds_toArray, List.set_cons_zero, List.set_cons_succ]
          refine takeH (i := 8) (v := ?_) rfl rfl (by kernel_rfl) (by kernel_rfl) (by kernel_rfl) (fun _ _ _ h => h) (by rfl) ?_ (by assumption) ?_
          rotate_left 1
          · intro w hSw
            (try dsimp only at hSw)
            go_simp
            try with_reducible rfl
          try simp only [List.setIfInBounds_toArray, List.set_cons_zero, List.set_cons_succ]
          refine wpAnyH_ready (rs := [0]) (by kernel_rfl) (by simp) ?_
          refine AllReadyH.cons rfl (fun K hK => ?_) (AllReadyH.nil)
          go_simp
          have be1 : Below w7.drew.heap.size w7.drew ((w7.alloc (.cells #[] 34)).drew) := (show Below w7.drew.heap.size w7.drew (w7.drew.alloc (.cells #[] 34)) from (Below.refl _ _).alloc (Nat.le_refl _) _)
          have E1 := Lib.hid (show OwnSl ((w7.alloc (.cells #[] 34)).drew) w7.heap.size (.slice (some ⟨w7.heap.size, 0, none⟩) 0 0) [] from (slr_empty w7.drew w7.heap.size (Nat.le_refl _)).row)
          have BB1 := Lib.hid (next ((Below.refl w7.heap.size w7).drew) be1)
          generalize (w7.alloc (.cells #[] 34)).drew = wz1 at *
          refine hK.out _ _ ?_ (fun hNew => ?_)
          · exact ⟨⟨cell_later (BB1.out) HQ7.out.1, cell_later (BB1.out) HQ7.out.2.1, cell_later (BB1.out) HQ7.out.2.2.1, cell_later (BB1.out) HQ7.out.2.2.2.1, cell_later (BB1.out) HQ7.out.2.2.2.2⟩, Lib.hid trivial⟩
          clear hK K hHeld
          have hHeld := hNew
          clear hNew
          try simp only [Act.put, List.setIfInBounds_toArray, List.set_cons_zero, List.set_cons_succ]
          refine wpAnyH_ready (rs := [4]) (by kernel_rfl) (by simp) ?_
          refine AllReadyH.cons rfl (fun K hK => ?_) (AllReadyH.nil)
          refine wp_appS (.tmp 82) (.tmp 85) rfl w7.heap.size (.slice (some ⟨w7.heap.size, 0, none⟩) 0 0) [] (by simp [Act.eval]) E1.out (some ⟨lg, 0, none⟩) J lc (A.take J) (by first | rfl | (simp; done) | (simp; omega)) (by simp [Act.eval]) (HT7.out.below BB1.out) k5 (by first | (simp; omega) | omega) BB1.out.size ?_
          intro v2 w902 own2 grow2
          replace own2 : OwnSl w902 w7.heap.size v2 ((A.take J)) := own2
          have bq2 : Below w7.heap.size w7 w902 := below_app BB1.out E1.out (Nat.le_refl _) grow2
          obtain ⟨xa2, xc2, rfl, _⟩ := OwnSl.tab own2
          have O2 := Lib.hid own2
          have BB2 := Lib.hid bq2
          clear own2 grow2 bq2
          generalize hw2 : w902 = wz2 at *
          clear hw2
          show K (Act.put _ (some 86) _) wz2
          refine hK.out _ _ ?_ (fun hNew => ?_)
          · exact ⟨⟨cell_later (BB2.out) HQ7.out.1, cell_later (BB2.out) HQ7.out.2.1, cell_later (BB2.out) HQ7.out.2.2.1, cell_later (BB2.out) HQ7.out.2.2.2.1, cell_later (BB2.out) HQ7.out.2.2.2.2⟩, Lib.hid trivial⟩
          clear hK K hHeld
          have hHeld := hNew
          clear hNew
          try simp only [Act.put, List.setIfInBounds_toArray, List.set_cons_zero, List.set_cons_succ]
          refine wpAnyH_ready (rs := [9]) (by kernel_rfl) (by simp) ?_
          refine AllReadyH.cons rfl (fun K hK => ?_) (AllReadyH.nil)
          refine wp_appS (.tmp 86) (.tmp 90) rfl w7.heap.size (.slice xa2 ((A.take J)).length xc2) ((A.take J)) (by simp [Act.eval]) O2.out aa (A.length - (J + 1)) (lc - (J + 1)) (A.drop (J + 1)) (by first | rfl | (simp; done) | (simp; omega)) (by simp [Act.eval]) (HD7.out.below BB2.out) k6 (by first | (simp; omega) | omega) BB2.out.size ?_
          intro v3 w903 own3 grow3
          have bq3 : Below w7.heap.size w7 w903 := below_app BB2.out O2.out (Nat.le_refl _) grow3
          obtain ⟨L3, hL3⟩ : ∃ L3, (A.take J) ++ (A.drop (J + 1)) = L3 := ⟨_, rfl⟩
          have HL3 := Lib.hid hL3
          rw [hL3] at own3
          have hl3 : L3.length = ((A.take J)).length + ((A.drop (J + 1))).length := (by rw [← hL3]; simp)
          have HLN3 := Lib.hid hl3
          obtain ⟨xa3, xc3, rfl, hxc3⟩ := OwnSl.tab own3
          have O3 := Lib.hid own3
          have BB3 := Lib.hid bq3
          clear own3 grow3 bq3 hL3 hl3
          generalize hw3 : w903 = wz3 at *
          clear hw3
          show K (Act.put _ (some 91) _) wz3
          refine hK.out _ _ ?_ (fun hNew => ?_)
          · exact ⟨⟨cell_later (BB3.out) HQ7.out.1, cell_later (BB3.out) HQ7.out.2.1, cell_later (BB3.out) HQ7.out.2.2.1, cell_later (BB3.out) HQ7.out.2.2.2.1, cell_later (BB3.out) HQ7.out.2.2.2.2⟩, Lib.hid trivial⟩
          clear hK K hHeld
          have hHeld := hNew
          clear hNew
          try simp only [Act.put, List.setIfInBounds_toArray, List.set_cons_zero, List.set_cons_succ]
          refine takeH (i := 10) (v := ?_) rfl rfl (by kernel_rfl) (by kernel_rfl) (by kernel_rfl) (fun _ _ _ h => h) (by rfl) ?_ (by assumption) ?_
          rotate_left 1
          · intro w hSw
            (try dsimp only at hSw)
            go_simp
            try with_reducible rfl
          try simp only [List.setIfInBounds_toArray, List.set_cons_zero, List.set_cons_succ]
          refine wpAnyH_done (by kernel_rfl) ?_ _
          clear hHeld
          go_wp2_with fail
          go_meet
          exact ⟨xa3, xc3, L3, (by simp), Lib.hid ⟨HL3.out, O3.out, BB3.out⟩⟩
        case rest =>
          obtain ⟨xn, xnc, N, rfl, HFN⟩ := hcut
          obtain ⟨w8, hw8⟩ : ∃ W, W = wc := ⟨_, rfl⟩
          subst hw8
          have HS8 := Lib.hid (HS7.out.go HFN.out.2.2)
          have HV8 := Lib.hid (HV7.out.below HFN.out.2.2)
          have HA8 := Lib.hid (SlA.below HA7.out HFN.out.2.2)
          have hAi : ∀ x ∈ N, x ∈ A := by
            rw [← HFN.out.1]
            exact fun x hx => (List.mem_append.1 hx).elim List.mem_of_mem_take List.mem_of_mem_drop
          have HN8 := Lib.hid (show SlA w8 xn N from OwnSl.sla HFN.out.2.1 (fun x hx => HA8.out.2 x (hAi x hx)))
          have HWN := Lib.hid (show ∀ x ∈ N, SpW x.p from fun x hx => HWA.out x (hAi x hx))
          have hNl : N.length ≤ 12 := by rw [← HFN.out.1]; simp; omega
          have HT8 := Lib.hid HS8.out.ll
          have HD8 := Lib.hid (SlL.below (OwnSl.lies HAo7.out) HFN.out.2.2)
          obtain ⟨u, hu⟩ : ∃ u, P.getD J 0 = u := ⟨_, rfl⟩
          have HLE := Lib.hid (show lackM H2 N f b P l M t = u by rw [← HF2.out.1, ← HFN.out.1, ← HG.out, ← hu]; exact lack_one HK.out HA.out hJP)
          have cu := path_at HS8.out.sm.rt.1.1 hJP
          rw [hu] at cu
          obtain ⟨q0, q1, q2, q3, q4⟩ := HS8.out.sm.box.five
          have HQ8 := Lib.hid (And.intro q0 (And.intro q1 (And.intro q2 (And.intro q3 (And.intro q4 cu)))))
          have hJPi : (J : Int) < (P.length : Int) := by omega
          clear q0 q1 q2 q3 q4 cu hu hAi HS7 HV7 HA7 HT7 HD7 haa HQ7 iK k1 k2 k3 k5 k6 k7 k2' k3'
          go_upto_region 13 with fail
          refine wp_region_held_drew (S := fun Wx => (Wx.cell? ⟨w1.heap.size, 0, none⟩ = some (.int .i64 f) ∧ Wx.cell? ⟨w1.heap.size, 1, none⟩ = some (.int .i64 b) ∧ Wx.cell? ⟨w1.heap.size, 2, none⟩ = some (.slice (some ⟨pb, po, none⟩) P.length c) ∧ Wx.cell? ⟨w1.heap.size, 3, none⟩ = some (.int .i64 l) ∧ Wx.cell? ⟨w1.heap.size, 4, none⟩ = some (.slice d M.length e) ∧ Wx.cell? ⟨pb, po + J, none⟩ = some (.int .i64 u)) ∧ Hid True) (by kernel_rfl) ?_ (fun hHeld => ?_)
          · exact ⟨HQ8.out, Lib.hid trivial⟩
          refine takeH (i := 0) (v := ?_) rfl rfl (by kernel_rfl) (by kernel_rfl) (by kernel_rfl) (fun _ _ _ h => h) (by rfl) ?_ (by assumption) ?_
          rotate_left 1
          · intro w hSw
            (try dsimp only at hSw)
            go_simp
            try with_reducible rfl
          try simp only [List.setIfInBounds_toArray, List.set_cons_zero, List.set_cons_succ]
          refine takeH (i := 2) (v := ?_) rfl rfl (by kernel_rfl) (by kernel_rfl) (by kernel_rfl) (fun _ _ _ h => h) (by rfl) ?_ (by assumption) ?_
          rotate_left 1
          · intro w hSw
            (try dsimp only at hSw)
            go_simp
            try with_reducible rfl
          try simp only [List.setIfInBounds_toArray, List.set_cons_zero, List.set_cons_succ]
          refine takeH (i := 4) (v := ?_) rfl rfl (by kernel_rfl) (by kernel_rfl) (by kernel_rfl) (fun _ _ _ h => h) (by rfl) ?_ (by assumption) ?_
          rotate_left 1
          · intro w hSw
            (try dsimp only at hSw)
            go_simp
            try with_reducible rfl
          try simp only [List.setIfInBounds_toArray, List.set_cons_zero, List.set_cons_succ]
          refine takeH (i := 6) (v := ?_) rfl rfl (by kernel_rfl) (by kernel_rfl) (by kernel_rfl) (fun _ _ _ h => h) (by rfl) ?_ (by assumption) ?_
          rotate_left 1
          · intro w hSw
            (try dsimp only at hSw)
            go_simp
            try with_reducible rfl
          try simp only [List.setIfInBounds_toArray, List.set_cons_zero, List.set_cons_succ]
          refine takeH (i := 7) (v := ?_) rfl rfl (by kernel_rfl) (by kernel_rfl) (by kernel_rfl) (fun _ _ _ h => h) (by rfl) ?_ (by assumption) ?_
          rotate_left 1
          · intro w hSw
            (try dsimp only at hSw)
            go_simp
            try with_reducible rfl
          try simp only [List.setIfInBounds_toArray, List.set_cons_zero, List.set_cons_succ]
          refine wpAnyH_ready (rs := [1]) (by kernel_rfl) (by simp) ?_
          refine AllReadyH.cons rfl (fun K hK => ?_) (AllReadyH.nil)
          go_simp
          have be1 : Below w8.drew.heap.size w8.drew ((w8.alloc (.cells #[] 34)).drew) := (show Below w8.drew.heap.size w8.drew (w8.drew.alloc (.cells #[] 34)) from (Below.refl _ _).alloc (Nat.le_refl _) _)
          have E1 := Lib.hid (show OwnSl ((w8.alloc (.cells #[] 34)).drew) w8.heap.size (.slice (some ⟨w8.heap.size, 0, none⟩) 0 0) [] from (slr_empty w8.drew w8.heap.size (Nat.le_refl _)).row)
          have BB1 := Lib.hid (next ((Below.refl w8.heap.size w8).drew) be1)
          generalize (w8.alloc (.cells #[] 34)).drew = wz1 at *
          refine hK.out _ _ ?_ (fun hNew => ?_)
          · exact ⟨⟨cell_later (BB1.out) HQ8.out.1, cell_later (BB1.out) HQ8.out.2.1, cell_later (BB1.out) HQ8.out.2.2.1, cell_later (BB1.out) HQ8.out.2.2.2.1, cell_later (BB1.out) HQ8.out.2.2.2.2.1, cell_later (BB1.out) HQ8.out.2.2.2.2.2⟩, Lib.hid trivial⟩
          clear hK K hHeld
          have hHeld := hNew
          clear hNew
          try simp only [Act.put, List.setIfInBounds_toArray, List.set_cons_zero, List.set_cons_succ]
          refine wpAnyH_ready (rs := [3]) (by kernel_rfl) (by simp) ?_
          refine AllReadyH.cons rfl (fun K hK => ?_) (AllReadyH.nil)
          refine wp_appS (.tmp 93) (.tmp 94) rfl w8.heap.size (.slice (some ⟨w8.heap.size, 0, none⟩) 0 0) [] (by simp [Act.eval]) E1.out al L.length cl L (by first | rfl | (simp; done) | (simp; omega)) (by simp [Act.eval]) (HT8.out.below BB1.out) hcl (by first | (simp; omega) | omega) BB1.out.size ?_
          intro v2 w902 own2 grow2
          replace own2 : OwnSl w902 w8.heap.size v2 (L) := own2
          have bq2 : Below w8.heap.size w8 w902 := below_app BB1.out E1.out (Nat.le_refl _) grow2
          obtain ⟨xa2, xc2, rfl, _⟩ := OwnSl.tab own2
          have O2 := Lib.hid own2
          have BB2 := Lib.hid bq2
          clear own2 grow2 bq2
          generalize hw2 : w902 = wz2 at *
          clear hw2
          show K (Act.put _ (some 95) _) wz2
          refine hK.out _ _ ?_ (fun hNew => ?_)
          · exact ⟨⟨cell_later (BB2.out) HQ8.out.1, cell_later (BB2.out) HQ8.out.2.1, cell_later (BB2.out) HQ8.out.2.2.1, cell_later (BB2.out) HQ8.out.2.2.2.1, cell_later (BB2.out) HQ8.out.2.2.2.2.1, cell_later (BB2.out) HQ8.out.2.2.2.2.2⟩, Lib.hid trivial⟩
          clear hK K hHeld
          have hHeld := hNew
          clear hNew
          try simp only [Act.put, List.setIfInBounds_toArray, List.set_cons_zero, List.set_cons_succ]
          refine wpAnyH_ready (rs := [5]) (by kernel_rfl) (by simp) ?_
          refine AllReadyH.cons rfl (fun K hK => ?_) (AllReadyH.nil)
          refine wp_appS (.tmp 95) (.tmp 96) rfl w8.heap.size (.slice xa2 (L).length xc2) (L) (by simp [Act.eval]) O2.out (some ⟨lg, 0, none⟩) A.length lc A (by first | rfl | (simp; done) | (simp; omega)) (by simp [Act.eval]) (HD8.out.below BB2.out) hlc (by first | (simp; omega) | omega) BB2.out.size ?_
          intro v3 w903 own3 grow3
          have bq3 : Below w8.heap.size w8 w903 := below_app BB2.out O2.out (Nat.le_refl _) grow3
          obtain ⟨L3, hL3⟩ : ∃ L3, L ++ A = L3 := ⟨_, rfl⟩
          have HL3 := Lib.hid hL3
          rw [hL3] at own3
          have hl3 : L3.length = (L).length + (A).length := (by rw [← hL3]; simp)
          have HLN3 := Lib.hid hl3
          obtain ⟨xa3, xc3, rfl, hxc3⟩ := OwnSl.tab own3
          have O3 := Lib.hid own3
          have BB3 := Lib.hid bq3
          clear own3 grow3 bq3 hL3 hl3
          generalize hw3 : w903 = wz3 at *
          clear hw3
          show K (Act.put _ (some 97) _) wz3
          refine hK.out _ _ ?_ (fun hNew => ?_)
          · exact ⟨⟨cell_later (BB3.out) HQ8.out.1, cell_later (BB3.out) HQ8.out.2.1, cell_later (BB3.out) HQ8.out.2.2.1, cell_later (BB3.out) HQ8.out.2.2.2.1, cell_later (BB3.out) HQ8.out.2.2.2.2.1, cell_later (BB3.out) HQ8.out.2.2.2.2.2⟩, Lib.hid trivial⟩
          clear hK K hHeld
          have hHeld := hNew
          clear hNew
          try simp only [Act.put, List.setIfInBounds_toArray, List.set_cons_zero, List.set_cons_succ]
          refine wpAnyH_ready (rs := [8]) (by kernel_rfl) (by simp) ?_
          refine AllReadyH.cons rfl (fun K hK => ?_) (AllReadyH.nil)
          go_simp
          have SA3 := Lib.hid (show SlA wz3 xa3 L3 from app_sla HL3.out O3.out (HS8.out.go BB3.out).sl.2 (HA8.out.below BB3.out).2)
          have hl13 : L3.length ≤ 18 := (by have := HLN3.out; omega)
          refine (isealok_is H2 L3 (app_w HL3.out HW.out HWA.out) xh xa3 xhc xc3 f b (some ⟨pb, po, none⟩) c P l d e M t (decide_eq_true (show lackM H2 L3 f b P l M t = 0 by rw [← HF2.out.1, ← HL3.out, ← HG.out]; exact ok_all HK.out HA.out)) _ p (HV8.out.below BB3.out) (by omega) SA3.out (by omega) (HS8.out.sm.rt.below BB3.out) (HS8.out.sm.ev.below BB3.out) (HS8.out.sm.pw.next BB3.out)).mono ?_
          rintro en w9 ⟨rfl, b9⟩
          have BB4 := Lib.hid (next BB3.out b9)
          clear b9
          go_wp2_with fail
          refine hK.out _ _ ?_ (fun hNew => ?_)
          · exact ⟨⟨cell_later (BB4.out) HQ8.out.1, cell_later (BB4.out) HQ8.out.2.1, cell_later (BB4.out) HQ8.out.2.2.1, cell_later (BB4.out) HQ8.out.2.2.2.1, cell_later (BB4.out) HQ8.out.2.2.2.2.1, cell_later (BB4.out) HQ8.out.2.2.2.2.2⟩, Lib.hid trivial⟩
          clear hK K hHeld
          have hHeld := hNew
          clear hNew
          try simp only [Act.put, List.setIfInBounds_toArray, List.set_cons_zero, List.set_cons_succ]
          refine takeH (i := 9) (v := ?_) rfl rfl (by kernel_rfl) (by kernel_rfl) (by kernel_rfl) (fun _ _ _ h => h) (by rfl) ?_ (by assumption) ?_
          rotate_left 1
          · intro w hSw
            (try dsimp only at hSw)
            go_simp
            try with_reducible rfl
          try simp only [List.setIfInBounds_toArray, List.set_cons_zero, List.set_cons_succ]
          refine takeH (i := 10) (v := ?_) rfl rfl (by kernel_rfl) (by kernel_rfl) (by kernel_rfl) (fun _ _ _ h => h) (by rfl) ?_ (by assumption) ?_
          rotate_left 1
          · intro w hSw
            (try dsimp only at hSw)
            go_simp
            try with_reducible rfl
          try simp only [List.setIfInBounds_toArray, List.set_cons_zero, List.set_cons_succ]
          refine takeH (i := 11) (v := ?_) rfl rfl (by kernel_rfl) (by kernel_rfl) (by kernel_rfl) (fun _ _ _ h => h) (by rfl) ?_ (by assumption) ?_
          rotate_left 1
          · intro w hSw
            (try dsimp only at hSw)
            go_simp
            try with_reducible rfl
          try simp only [List.setIfInBounds_toArray, List.set_cons_zero, List.set_cons_succ]
          refine takeH (i := 12) (v := ?_) rfl rfl (by kernel_rfl) (by kernel_rfl) (by kernel_rfl) (fun _ _ _ h => h) (by rfl) ?_ (by assumption) ?_
          rotate_left 1
          · intro w hSw
            (try dsimp only at hSw)
            go_simp
            try with_reducible rfl
          try simp only [List.setIfInBounds_toArray, List.set_cons_zero, List.set_cons_succ]
          refine takeH (i := 13) (v := ?_) rfl rfl (by kernel_rfl) (by kernel_rfl) (by kernel_rfl) (fun _ _ _ h => h) (by rfl) ?_ (by assumption) ?_
          rotate_left 1
          · intro w hSw
            (try dsimp only at hSw)
            go_simp
            try with_reducible rfl
          try simp only [List.setIfInBounds_toArray, List.set_cons_zero, List.set_cons_succ]
          refine takeH (i := 15) (v := ?_) rfl rfl (by kernel_rfl) (by kernel_rfl) (by kernel_rfl) (fun _ _ _ h => h) (by rfl) ?_ (by assumption) ?_
          rotate_left 1
          · intro w hSw
            (try dsimp only at hSw)
            go_simp
            try with_reducible rfl
          try simp only [List.setIfInBounds_toArray, List.set_cons_zero, List.set_cons_succ]
          refine takeH (i := 16) (v := ?_) rfl rfl (by kernel_rfl) (by kernel_rfl) (by kernel_rfl) (fun _ _ _ h => h) (by rfl) ?_ (by assumption) ?_
          rotate_left 1
          · intro w hSw
            (try dsimp only at hSw)
            go_simp
            try with_reducible rfl
          try simp only [List.setIfInBounds_toArray, List.set_cons_zero, List.set_cons_succ]
          refine takeH (i := 17) (v := ?_) rfl rfl (by kernel_rfl) (by kernel_rfl) (by kernel_rfl) (fun _ _ _ h => h) (by rfl) ?_ (by assumption) ?_
          rotate_left 1
          · intro w hSw
            (try dsimp only at hSw)
            go_simp
            try with_reducible rfl
          try simp only [List.setIfInBounds_toArray, List.set_cons_zero, List.set_cons_succ]
          refine takeH (i := 18) (v := ?_) rfl rfl (by kernel_rfl) (by kernel_rfl) (by kernel_rfl) (fun _ _ _ h => h) (by rfl) ?_ (by assumption) ?_
          rotate_left 1
          · intro w hSw
            (try dsimp only at hSw)
            go_simp
            try with_reducible rfl
          try simp only [List.setIfInBounds_toArray, List.set_cons_zero, List.set_cons_succ]
          refine takeH (i := 19) (v := ?_) rfl rfl (by kernel_rfl) (by kernel_rfl) (by kernel_rfl) (fun _ _ _ h => h) (by rfl) ?_ (by assumption) ?_
          rotate_left 1
          · intro w hSw
            (try dsimp only at hSw)
            go_simp
            try with_reducible rfl
          try simp only [List.setIfInBounds_toArray, List.set_cons_zero, List.set_cons_succ]
          refine wpAnyH_ready (rs := [14]) (by kernel_rfl) (by simp) ?_
          refine AllReadyH.cons rfl (fun K hK => ?_) (AllReadyH.nil)
          go_simp
          refine (islacks_is H2 N HWN.out xh xn xhc xnc f b (some ⟨pb, po, none⟩) c P l d e M t HLE.out _ p (HV8.out.below BB4.out) (by omega) (HN8.out.below BB4.out) (by omega) (HS8.out.sm.rt.below BB4.out) (HS8.out.sm.ev.below BB4.out) (HS8.out.sm.pw.next BB4.out)).mono ?_
          rintro en w10 ⟨rfl, b10⟩
          have BB5 := Lib.hid (next BB4.out b10)
          clear b10
          go_wp2_with fail
          refine hK.out _ _ ?_ (fun hNew => ?_)
          · exact ⟨⟨cell_later (BB5.out) HQ8.out.1, cell_later (BB5.out) HQ8.out.2.1, cell_later (BB5.out) HQ8.out.2.2.1, cell_later (BB5.out) HQ8.out.2.2.2.1, cell_later (BB5.out) HQ8.out.2.2.2.2.1, cell_later (BB5.out) HQ8.out.2.2.2.2.2⟩, Lib.hid trivial⟩
          clear hK K hHeld
          have hHeld := hNew
          clear hNew
          try simp only [Act.put, List.setIfInBounds_toArray, List.set_cons_zero, List.set_cons_succ]
          refine takeH (i := 20) (v := ?_) rfl rfl (by kernel_rfl) (by kernel_rfl) (by kernel_rfl) (fun _ _ _ h => h) (by rfl) ?_ (by assumption) ?_
          rotate_left 1
          · intro w hSw
            (try dsimp only at hSw)
            go_simp
            try with_reducible rfl
          try simp only [List.setIfInBounds_toArray, List.set_cons_zero, List.set_cons_succ]
          refine takeH (i := 21) (v := ?_) rfl rfl (by kernel_rfl) (by kernel_rfl) (by kernel_rfl) (fun _ _ _ h => h) (by rfl) ?_ (by assumption) ?_
          rotate_left 1
          · intro w hSw
            (try dsimp only at hSw)
            go_simp
            try with_reducible rfl
          try simp only [List.setIfInBounds_toArray, List.set_cons_zero, List.set_cons_succ]
          refine takeH (i := 22) (v := ?_) rfl rfl (by kernel_rfl) (by kernel_rfl) (by kernel_rfl) (fun _ _ _ h => h) (by rfl) ?_ (by assumption) ?_
          rotate_left 1
          · intro w hSw
            (try dsimp only at hSw)
            go_simp
            try with_reducible rfl
          try simp only [List.setIfInBounds_toArray, List.set_cons_zero, List.set_cons_succ]
          refine wpAnyH_done (by kernel_rfl) ?_ _
          clear hHeld
          go_wp2_with fail
          go_ret
          exact ⟨rfl, next HS8.out.sm.bel BB5.out⟩
end Go.Proofs.YtnnmgbgkgnejlaaDoor
