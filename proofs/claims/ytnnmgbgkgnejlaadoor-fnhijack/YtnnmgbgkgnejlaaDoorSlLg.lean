/-
  The law that what lacks is named: the walk.
-/
import Derived.Test.YtnnmgbgkgnejlaaDoorSlBv
namespace Go.Proofs.YtnnmgbgkgnejlaaDoor
open Go.RowKit
set_option linter.unusedSimpArgs false
set_option linter.unusedVariables false

theorem firstLack_or {S : List SV} : ∀ {Q : List SP}, firstLack S Q = 0 ∨ ∃ s ∈ Q, firstLack S Q = s.y
  | [] => .inl rfl
  | s :: Q => by
    unfold firstLack
    split
    · rcases firstLack_or (S := S) (Q := Q) with h | ⟨x, hx, h⟩
      · exact .inl h
      · exact .inr ⟨x, List.mem_cons_of_mem _ hx, h⟩
    · exact .inr ⟨s, List.mem_cons_self, rfl⟩
theorem lack_ne2 {H : List HV} {S : List SV} {f b l t : Int} {P M : List Int} (h : tellB f b P l M t = true) : lackM H S f b P l M t ≠ -2 := fun e => by
  rw [lackM, if_pos h] at e
  split at e
  · rcases firstLack_or (S := S) (Q := sealsOf f b t P) with h0 | ⟨s, hs, h0⟩
    · omega
    · obtain ⟨i, hi, rfl⟩ := sealsOf_in.1 hs
      have h1 : (sealAt f b t P i).y = P.getD i 0 := rfl
      have h2 := ((rtOk_iff _).1 (tellB_rt h).1).path.1 _ (getD_mem hi)
      have h3 : P.getD i 0 = -2 := by rw [← h1, ← h0]; exact e
      have h4 : (1 : Int) ≤ P.getD i 0 := h2.1
      rw [h3] at h4
      exact absurd h4 (by decide)
  · omega
set_option maxRecDepth 100000 in
set_option maxHeartbeats 4000000 in
theorem lawSealLacks (a0 : Option Addr) (len0 cap0 : Nat) (zs0 : List Int) (w : World) (h0 : IsRow w a0 len0 cap0 zs0) (p : Addr) (hE : EV w p) (hT : PowS w) :
    Calls Tryd.prog 5 #[.slice a0 len0 cap0] w fun e w' => e = .returned (.bool true) ∧ Below w.heap.size w w' := by
  have H0 := Lib.hid h0
  have HE := Lib.hid hE
  have HT := Lib.hid hT
  clear h0 hE hT
  by_cases hl0 : (1048576 : Int) < (len0 : Int)
  · go_enter Tryd.func5, Tryd.ntmps5
    go_wp2_with fail
    go_ret
    exact ⟨rfl, Below.refl _ _⟩
  go_enter Tryd.func5, Tryd.ntmps5
  go_wp2_with fail
  refine (drL_any a0 len0 cap0 zs0 _ H0.out).mono ?_
  rintro en w1 ⟨f, b, l, t, P, M, a, c, d, e, al, cl, L, ah, ch, H, rfl, ⟨hlH, hlL, hlP, hlM, t0, t6⟩, ⟨hch, hcl⟩, hW, oH, oL, sA, hm, b1⟩
  have H1 := Lib.hid (And.intro oH (And.intro oL (And.intro sA (And.intro hm b1))))
  have HW := Lib.hid hW
  clear oH oL sA hm b1 hW
  go_wp2_with (refine wpList_stY rfl 27 _ _ rfl w1.heap.size #[.int .i64 f, .int .i64 b, .slice a P.length c, .int .i64 l, .slice d M.length e] ?x1 ?y1 ?o1 ?i1 _ (AtY.new5 w1 _ _ _ _ _ _) rfl ?g1)
  try case x1 => simp [Act.eval]
  try case y1 => simp [Act.eval]
  try case o1 => simp [Value.oneCell']
  try case i1 => rfl
  intro w2 a2 g2
  have HS := Lib.hid (Sg.mk' H1.out.2.2.2.2 H1.out.2.2.2.1 HE.out HT.out H1.out.1 H1.out.2.1 H1.out.2.2.1 a2 g2)
  clear a2 g2 H1
  obtain ⟨q0, q1, q2, q3, q4⟩ := HS.out.sm.box.five
  obtain ⟨n, hn⟩ : ∃ n, lackM H L f b P l M t = n := ⟨_, rfl⟩
  have HN := Lib.hid hn
  clear hn
  go_wp2_with fail
  refine (islacks_is H L HW.out ah al ch cl f b a c P l d e M t HN.out _ p HS.out.hv (by omega) HS.out.sl (by omega) HS.out.sm.rt HS.out.sm.ev HS.out.sm.pw).mono ?_
  rintro en w3 ⟨rfl, b3⟩
  have HS3 := Lib.hid (HS.out.go b3)
  clear b3 q0 q1 q2 q3 q4 HS
  obtain ⟨q0, q1, q2, q3, q4⟩ := HS3.out.sm.box.five
  go_wp2_with fail
  refine (slacks_is H L ah al ch cl f b a c P l d e M t HN.out _ HS3.out.hv (by omega) HS3.out.sl (by omega) HS3.out.sm.rt).mono ?_
  rintro en w4 ⟨rfl, b4⟩
  have HS4 := Lib.hid (HS3.out.go b4)
  clear b4 q0 q1 q2 q3 q4 HS3
  obtain ⟨q0, q1, q2, q3, q4⟩ := HS4.out.sm.box.five
  have e1 : (n != n) = false := by simp
  cases hk : tellB f b P l M t with
  | false =>
    obtain rfl : -2 = n := by rw [← HN.out, lackM, hk]; rfl
    clear e1
    go_wp2_with fail
    refine (slacks_is H L ah al ch cl f b a c P l d e M t HN.out _ HS4.out.hv (by omega) HS4.out.sl (by omega) HS4.out.sm.rt).mono ?_
    rintro en w5 ⟨rfl, b5⟩
    have HS5 := Lib.hid (HS4.out.go b5)
    clear b5
    go_wp2_with fail
    go_ret
    exact ⟨ret_bool (by simp), HS5.out.sm.bel⟩
  | true =>
    have e2 : (n == -2) = false := by rw [beq_eq_false_iff_ne, ← HN.out]; exact lack_ne2 hk
    have HK := Lib.hid hk
    have hP0 := tell_pos hk
    obtain ⟨pb, po, rfl, c0⟩ := path_last HS4.out.sm.rt.1.1 hP0
    obtain ⟨K, hK⟩ : ∃ K, P.length - 1 = K := ⟨_, rfl⟩
    have ek : IntKind.i64.wrap ((P.length : Int) - 1) = (K : Int) := by rw [IntKind.wrap_i64]; omega
    have i0 : (0 : Int) ≤ (K : Int) := by omega
    have i1 : (K : Int) < (P.length : Int) := by omega
    obtain ⟨g, hg⟩ : ∃ g, P.getD (P.length - 1) 0 = g := ⟨_, rfl⟩
    obtain ⟨x, hx⟩ : ∃ x, holdsB H g f b = x := ⟨_, rfl⟩
    have HX := Lib.hid hx
    have HZ := Lib.hid (show (if x then firstLack L (sealsOf f b t P) else -1) = n by rw [← HN.out, lackM, hk, hg, hx]; rfl)
    rw [hg, hK] at c0
    clear hk hg hK hx
    go_upto_region 7 with fail
    have HQC := Lib.hid (And.intro q0 (And.intro q1 (And.intro q2 (And.intro q3 (And.intro q4 c0)))))
    clear q0 q1 q2 q3 q4 c0
    refine wp_region_held_drew (S := fun Wx => (Wx.cell? ⟨w1.heap.size, 0, none⟩ = some (.int .i64 f) ∧ Wx.cell? ⟨w1.heap.size, 1, none⟩ = some (.int .i64 b) ∧ Wx.cell? ⟨w1.heap.size, 2, none⟩ = some (.slice (some ⟨pb, po, none⟩) P.length c) ∧ Wx.cell? ⟨w1.heap.size, 3, none⟩ = some (.int .i64 l) ∧ Wx.cell? ⟨w1.heap.size, 4, none⟩ = some (.slice d M.length e) ∧ Wx.cell? ⟨pb, po + K, none⟩ = some (.int .i64 g)) ∧ Hid (Below w4.heap.size w4 Wx)) (by kernel_rfl) ?_ (fun hHeld => ?_)
    · exact ⟨HQC.out, Lib.hid (Below.refl _ w4).drew⟩
    refine takeH (i := 0) (v := ?_) rfl rfl (by kernel_rfl) (by kernel_rfl) (by kernel_rfl) (fun _ _ _ h => h) (by rfl) ?_ (by assumption) ?_
    rotate_left 1
    · intro w hSw
      (try dsimp only at hSw)
      go_simp
      try with_reducible rfl
    try simp only [List.setIfInBounds_toArray, List.set_cons_zero, List.set_cons_succ]
    refine takeH (i := 1) (v := ?_) rfl rfl (by kernel_rfl) (by kernel_rfl) (by kernel_rfl) (fun _ _ _ h => h) (by rfl) ?_ (by assumption) ?_
    rotate_left 1
    · intro w hSw
      (try dsimp only at hSw)
      go_simp
      try with_reducible rfl
    try simp only [List.setIfInBounds_toArray, List.set_cons_zero, List.set_cons_succ]
    refine takeH (i := 2) (v := ?_) rfl rfl (by kernel_rfl) (by kernel_rfl) (by kernel_rfl) (fun _ _ _ h => h) (by rfl) ?_ (by assumption) ?_
    rotate_left 1
    · intro w hSw
      (try dsimp only at hSw)
      go_simp
      try with_reducible rfl
    try simp only [List.setIfInBounds_toArray, List.set_cons_zero, List.set_cons_succ]
    refine takeH (i := 3) (v := ?_) rfl rfl (by kernel_rfl) (by kernel_rfl) (by kernel_rfl) (fun _ _ _ h => h) (by rfl) ?_ (by assumption) ?_
    rotate_left 1
    · intro w hSw
      (try dsimp only at hSw)
      go_simp
      try with_reducible rfl
    try simp only [List.setIfInBounds_toArray, List.set_cons_zero, List.set_cons_succ]
    refine takeH (i := 4) (v := ?_) rfl rfl (by kernel_rfl) (by kernel_rfl) (by kernel_rfl) (fun _ _ _ h => h) (by rfl) ?_ (by assumption) ?_
    rotate_left 1
    · intro w hSw
      (try dsimp only at hSw)
      go_simp
      try with_reducible rfl
    try simp only [List.setIfInBounds_toArray, List.set_cons_zero, List.set_cons_succ]
    refine takeH (i := 5) (v := ?_) rfl rfl (by kernel_rfl) (by kernel_rfl) (by kernel_rfl) (fun _ _ _ h => h) (by rfl) ?_ (by assumption) ?_
    rotate_left 1
    · intro w hSw
      (try dsimp only at hSw)
      go_simp
      try with_reducible rfl
    try simp only [List.setIfInBounds_toArray, List.set_cons_zero, List.set_cons_succ]
    refine takeH (i := 6) (v := ?_) rfl rfl (by kernel_rfl) (by kernel_rfl) (by kernel_rfl) (fun _ _ _ h => h) (by rfl) ?_ (by assumption) ?_
    rotate_left 1
    · intro w hSw
      (try dsimp only at hSw)
      go_simp
      try with_reducible rfl
    try simp only [List.setIfInBounds_toArray, List.set_cons_zero, List.set_cons_succ]
    refine takeH (i := 7) (v := ?_) rfl rfl (by kernel_rfl) (by kernel_rfl) (by kernel_rfl) (fun _ _ _ h => h) (by rfl) ?_ (by assumption) ?_
    rotate_left 1
    · intro w hSw
      (try dsimp only at hSw)
      go_simp
      try with_reducible rfl
    try simp only [List.setIfInBounds_toArray, List.set_cons_zero, List.set_cons_succ]
    refine takeH (i := 8) (v := ?_) rfl rfl (by kernel_rfl) (by kernel_rfl) (by kernel_rfl) (fun _ _ _ h => h) (by rfl) ?_ (by assumption) ?_
    rotate_left 1
    · intro w hSw
      (try dsimp only at hSw)
      go_simp
      try with_reducible rfl
    try simp only [List.setIfInBounds_toArray, List.set_cons_zero, List.set_cons_succ]
    refine takeH (i := 9) (v := ?_) rfl rfl (by kernel_rfl) (by kernel_rfl) (by kernel_rfl) (fun _ _ _ h => h) (by rfl) ?_ (by assumption) ?_
    rotate_left 1
    · intro w hSw
      (try dsimp only at hSw)
      go_simp
      try with_reducible rfl
    try simp only [List.setIfInBounds_toArray, List.set_cons_zero, List.set_cons_succ]
    refine takeH (i := 10) (v := ?_) rfl rfl (by kernel_rfl) (by kernel_rfl) (by kernel_rfl) (fun _ _ _ h => h) (by rfl) ?_ (by assumption) ?_
    rotate_left 1
    · intro w hSw
      (try dsimp only at hSw)
      go_simp
      try with_reducible rfl
    try simp only [List.setIfInBounds_toArray, List.set_cons_zero, List.set_cons_succ]
    refine wpAnyH_ready (rs := [11]) (by kernel_rfl) (by simp) ?_
    refine AllReadyH.cons rfl (fun K hK => ?_) (AllReadyH.nil)
    go_simp
    refine (iholdhas_is H g f b HX.out ah ch _ _ rfl (HS4.out.hv.below hHeld.2.out) (by omega)).mono ?_
    rintro en w5 ⟨rfl, b5⟩
    go_wp2_with fail
    refine hK.out _ _ ?_ (fun hNew => ?_)
    · exact ⟨⟨cell_later b5 hHeld.1.1, cell_later b5 hHeld.1.2.1, cell_later b5 hHeld.1.2.2.1, cell_later b5 hHeld.1.2.2.2.1, cell_later b5 hHeld.1.2.2.2.2.1, cell_later b5 hHeld.1.2.2.2.2.2⟩, Lib.hid (next hHeld.2.out b5)⟩
    clear hK K hHeld
    have hHeld := hNew
    clear hNew
    try simp only [Act.put, List.setIfInBounds_toArray, List.set_cons_zero, List.set_cons_succ]
    refine takeH (i := 12) (v := ?_) rfl rfl (by kernel_rfl) (by kernel_rfl) (by kernel_rfl) (fun _ _ _ h => h) (by rfl) ?_ (by assumption) ?_
    rotate_left 1
    · intro w hSw
      (try dsimp only at hSw)
      go_simp
      try with_reducible rfl
    try simp only [List.setIfInBounds_toArray, List.set_cons_zero, List.set_cons_succ]
    refine wpAnyH_done (by kernel_rfl) ?_ _
    have HS5 := Lib.hid (HS4.out.go hHeld.2.out)
    clear hHeld HQC HS4 ek i0 i1
    obtain ⟨q0, q1, q2, q3, q4⟩ := HS5.out.sm.box.five
    cases x with
    | false =>
      obtain rfl : -1 = n := HZ.out
      go_wp2_with fail
      go_ret
      exact ⟨rfl, HS5.out.sm.bel⟩
    | true =>
      go_wp2_with fail
      refine (isealmake_is f b (some ⟨pb, po, none⟩) c P l d e M t rfl _ p HS5.out.sm.rt HS5.out.sm.ev).mono ?_
      rintro en w6 ⟨v6, A, rfl, hR, hQ, hsm, b6⟩
      obtain ⟨la, lc, rfl, hlc⟩ := OwnSl.tab hR.row
      have HS6 := Lib.hid (HS5.out.go b6)
      have HA6 := Lib.hid (SlR.sla hR (fun x hx => by have := hsm x hx; omega))
      obtain ⟨hA, hLP⟩ := make_all hQ HK.out
      have HWA := Lib.hid (makeS_w hQ)
      have HF0 := Lib.hid (show firstLack L ((sealsP A).drop 0) = n by rw [hA]; exact HZ.out)
      have hAl : A.length ≤ 6 := by omega
      clear hR hQ hsm b6 q0 q1 q2 q3 q4 HS5 hA hLP
      go_wp2_with fail
      go_loopw [9] (fun i wr => ∃ I : Nat, I ≤ A.length ∧ i = .int .i64 I ∧ Hid (firstLack L ((sealsP A).drop I) = n) ∧ Hid (Below w6.heap.size w6 wr)) (fun i _ => A.length - (intOf i).toNat)
      case atStart => exact ⟨0, Nat.zero_le _, rfl, HF0, Lib.hid (Below.refl _ _)⟩
      case round =>
        clear HF0
        obtain ⟨I, hI, rfl, HF, HB⟩ := hrel
        by_cases hlt : I < A.length
        · obtain ⟨s, hs⟩ : ∃ s, A[I]? = some s := ⟨_, List.getElem?_eq_getElem hlt⟩
          obtain ⟨b0, o0, rfl, hc5, hm5⟩ := (HA6.out.below HB.out).at hs
          have HSs := Lib.hid (HWA.out s (List.mem_of_getElem? hs))
          have HMs := Lib.hid hm5
          have HST := Lib.hid ((firstLack_step (S := L) (sealsP_at hs)).symm.trans HF.out)
          have HC5 := Lib.hid hc5
          have j0 : (0 : Int) ≤ (I : Int) := by omega
          have j1 : (I : Int) < (A.length : Int) := by omega
          have HS7 := Lib.hid (HS6.out.go HB.out)
          obtain ⟨y, hy⟩ : ∃ y, hasS L s.p = y := ⟨_, rfl⟩
          have HY := Lib.hid hy
          rw [hy] at HST
          obtain ⟨r0, r1, r2, r3, r4⟩ := hc5
          clear hs hm5 hy
          go_wp2_with fail
          refine (isealhas_is L HW.out s HSs.out HY.out al cl _ _ rfl HS7.out.sl HMs.out (by omega) HS7.out.sm.pw).mono ?_
          rintro en w7 ⟨rfl, b7⟩
          have HB7 := Lib.hid (next HB.out b7)
          have r0' := cell_later b7 r0
          clear b7 r0 r1 r2 r3 r4
          cases y with
          | true =>
            go_wp2_with fail
            go_roundw
            case rel => exact ⟨I + 1, by omega, by go_num, Lib.hid HST.out, HB7⟩
            case measure => simp [intOf]; omega
          | false =>
            obtain rfl : s.y = n := HST.out
            have e3 : (s.y == s.y) = true := by simp
            go_wp2_with fail
            go_ret
            exact ⟨rfl, next HS6.out.sm.bel HB7.out⟩
        · obtain rfl : I = A.length := by omega
          obtain rfl : 0 = n := by have h := HF.out; rw [List.drop_eq_nil_of_le (by simp [sealsP])] at h; exact h
          have HS7 := Lib.hid (HS6.out.go HB.out)
          obtain ⟨q0, q1, q2, q3, q4⟩ := HS7.out.sm.box.five
          go_wp2_with fail
          refine (isealok_is H L HW.out ah al ch cl f b (some ⟨pb, po, none⟩) c P l d e M t (decide_eq_true HN.out) _ p HS7.out.hv (by omega) HS7.out.sl (by omega) HS7.out.sm.rt HS7.out.sm.ev HS7.out.sm.pw).mono ?_
          rintro en w7 ⟨rfl, b7⟩
          have HB7 := Lib.hid (next HS7.out.sm.bel b7)
          clear b7
          go_wp2_with fail
          go_ret
          exact ⟨rfl, HB7.out⟩
end Go.Proofs.YtnnmgbgkgnejlaaDoor
