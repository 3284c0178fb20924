/-
  The law that who does not hold a range cannot tell of it: the walk.
-/
import Derived.Test.YtnnmgbgkgnejlaaDoorSlLg
import Derived.Test.YtnnmgbgkgnejlaaDoorSlBu
namespace Go.Proofs.YtnnmgbgkgnejlaaDoor
open Go.RowKit
set_option linter.unusedSimpArgs false
set_option linter.unusedVariables false

theorem inta_at (w : World) (h : Int) : IntA (w.alloc (.cells #[.int .i64 h] 3)) (some ⟨w.heap.size, 0, none⟩) [h] := .inr ⟨_, 0, rfl, fun i e hi => by
  match i, hi with
  | 0, hi =>
    obtain rfl : h = e := by simpa using hi
    simp⟩
theorem OwnSl.num {w : World} {R n c : Nat} {a : Option Addr} {L : List SV} (h : OwnSl w R (.slice a n c) L) : ∀ b o, a = some ⟨b, o, none⟩ → R ≤ b ∧ b < w.heap.size := fun b o e => by
  subst e
  exact World.ownsRow.lt h b rfl
/-- the paths of seals are one's own -/
def PaO (w : World) (R : Nat) (A : List SV) : Prop := ∀ x ∈ A, OwnI w R x.s x.P
theorem PaO.below {w w' : World} {R : Nat} {A : List SV} (h : PaO w R A) (k : Below w.heap.size w w') : PaO w' R A := fun x hx => owni_later (h x hx) k
theorem PaO.app {w w' : World} {R Q : Nat} {A L : List SV} {v : Value} (h : PaO w R A) (o : OwnSl w Q v L) (g : w.grownBy w' v.ownBlock) : PaO w' R A := fun x hx => World.ownsRow.kept (h x hx) g (slrows_apart (h x hx) o (by decide))
theorem PaO.m {w : World} {R : Nat} {A : List SV} (h : PaO w R A) (hl : ∀ x ∈ A, x.P.length ≤ 6) : ∀ v ∈ A, v.m w := fun x hx => ⟨(OwnI.intA (h x hx)).2.2, (OwnI.intA (h x hx)).2.1, by have := hl x hx; omega⟩
theorem hij {H : List HV} {L A : List SV} {f b l h v : Int} {M : List Int} (hr : rtOk (f, b, [h], l, M) = true) (hv : 1 ≤ v ∧ v ≤ 5) (hA : sealsP A = makeS f b [h] l M v) :
    decide (lackM H (L ++ A) f b [h] l M v = 0) = (decide (v ≠ h) && holdsB H h f b) := by
  by_cases e : v = h
  · have ht : tellB f b [h] l M v = false := by
      cases hk : tellB f b [h] l M v with
      | false => rfl
      | true => exact absurd (tellB_rt hk).2.2 (by simp [e])
    rw [decide_eq_false (fun h0 => by rw [(lackM_zero.1 h0).1] at ht; cases ht)]
    simp [e]
  · have ht : tellB f b [h] l M v = true := tellB_of hr hv (by simpa using e)
    have hA2 : sealsP A = sealsOf f b v [h] := by rw [hA, makeS, if_pos ht]
    have h1 : decide (v ≠ h) = true := decide_eq_true e
    rw [h1, Bool.true_and]
    cases hx : holdsB H h f b with
    | true => exact decide_eq_true (lackM_zero.2 ⟨ht, hx, fun s k => by rw [sealsP_app, hA2]; exact List.mem_append_right _ k⟩)
    | false => exact decide_eq_false (fun h0 => by have h2 := (lackM_zero.1 h0).2.1; rw [show [h].getD ([h].length - 1) 0 = h from rfl, hx] at h2; cases h2)
set_option maxRecDepth 100000 in
set_option maxHeartbeats 8000000 in
theorem lawHijack (a0 : Option Addr) (len0 cap0 : Nat) (zs0 : List Int) (a1 : Option Addr) (len1 cap1 : Nat) (zs1 : List Int) (w : World) (h0 : IsRow w a0 len0 cap0 zs0) (h1 : IsRow w a1 len1 cap1 zs1) (p : Addr) (hE : EV w p) (hT : PowS w) :
    Calls Tryd.prog 7 #[.slice a0 len0 cap0, .slice a1 len1 cap1] w fun e w' => e = .returned (.bool true) ∧ Below w.heap.size w w' := by
  have H0 := Lib.hid h0
  have HE := Lib.hid hE
  have HT := Lib.hid hT
  clear h0 hE hT h1
  by_cases hl0 : (1048576 : Int) < (len0 : Int)
  · go_enter Tryd.func7, Tryd.ntmps7
    go_wp2_with fail
    go_ret
    exact ⟨rfl, Below.refl _ _⟩
  by_cases hl1 : (1048576 : Int) < (len1 : Int)
  · go_enter Tryd.func7, Tryd.ntmps7
    go_wp2_with fail
    go_ret
    exact ⟨rfl, Below.refl _ _⟩
  go_enter Tryd.func7, Tryd.ntmps7
  go_wp2_with fail
  refine (drL_any a0 len0 cap0 zs0 _ H0.out).mono ?_
  rintro en w1 ⟨f, b, l, t, P, M, a, c, d, e, al, cl, L, ah, ch, H, rfl, ⟨hlH, hlL, hlP, hlM, t0, t6⟩, ⟨hch, hcl⟩, hW, oH, oL, sA, hm, b1⟩
  have H1 := Lib.hid (And.intro oH (And.intro oL (And.intro sA (And.intro hm b1))))
  have HW := Lib.hid hW
  clear oH oL sA hm b1 hW
  go_wp2_with (refine wpList_stY rfl 27 _ _ rfl w1.heap.size #[.int .i64 f, .int .i64 b, .slice a P.length c, .int .i64 l, .slice d M.length e] ?x1 ?y1 ?o1 ?i1 _ (AtY.new5 w1 _ _ _ _ _ _) rfl ?g1)
  try case x1 => simp [Act.eval]
  try case y1 => simp [Act.eval]
  try case o1 => simp [Value.oneCell']
  try case i1 => rfl
  intro w2 a2 g2
  have HS := Lib.hid (Sg.mk' H1.out.2.2.2.2 H1.out.2.2.2.1 HE.out HT.out H1.out.1 H1.out.2.1 H1.out.2.2.1 a2 g2)
  clear a2 g2 H1
  obtain ⟨q0, q1, q2, q3, q4⟩ := HS.out.sm.box.five
  obtain ⟨n, hn⟩ : ∃ n, lackM H L f b P l M t = n := ⟨_, rfl⟩
  have HN := Lib.hid hn
  clear hn
  go_wp2_with fail
  refine (islacks_is H L HW.out ah al ch cl f b a c P l d e M t HN.out _ p HS.out.hv (by omega) HS.out.sl (by omega) HS.out.sm.rt HS.out.sm.ev HS.out.sm.pw).mono ?_
  rintro en w3 ⟨rfl, b3⟩
  have HS3 := Lib.hid (HS.out.go b3)
  clear b3 q0 q1 q2 q3 q4 HS
  obtain ⟨q0, q1, q2, q3, q4⟩ := HS3.out.sm.box.five
  go_wp2_with fail
  refine (slacks_is H L ah al ch cl f b a c P l d e M t HN.out _ HS3.out.hv (by omega) HS3.out.sl (by omega) HS3.out.sm.rt).mono ?_
  rintro en w4 ⟨rfl, b4⟩
  have HS4 := Lib.hid (HS3.out.go b4)
  clear b4 q0 q1 q2 q3 q4 HS3
  obtain ⟨q0, q1, q2, q3, q4⟩ := HS4.out.sm.box.five
  have e1 : (n != n) = false := by simp
  cases hk : tellB f b P l M t with
  | false =>
    obtain rfl : -2 = n := by rw [← HN.out, lackM, hk]; rfl
    clear e1
    go_wp2_with fail
    refine (slacks_is H L ah al ch cl f b a c P l d e M t HN.out _ HS4.out.hv (by omega) HS4.out.sl (by omega) HS4.out.sm.rt).mono ?_
    rintro en w5 ⟨rfl, b5⟩
    have HS5 := Lib.hid (HS4.out.go b5)
    clear b5
    go_wp2_with fail
    go_ret
    exact ⟨ret_bool (by simp), HS5.out.sm.bel⟩
  | true =>
    have e2 : (n == -2) = false := by rw [beq_eq_false_iff_ne, ← HN.out]; exact lack_ne2 hk
    have HK := Lib.hid hk
    go_upto_region 8 with fail
    obtain ⟨h, hh⟩ : ∃ h : Int, 1 + (len1 : Int) % 5 = h := ⟨_, rfl⟩
    have hh1 : 1 ≤ h ∧ h ≤ 5 := by omega
    rw [hh]
    clear hh
    have hR : rtOk (f, b, [h], l, M) = true := by
      have g := (rtOk_iff _).1 (tellB_rt hk).1
      exact (rtOk_iff _).2 ⟨g.ran, ⟨fun x hx => by rw [List.mem_singleton.1 hx]; exact hh1, by simp⟩, by simp, g.like, g.marks⟩
    have HR := Lib.hid hR
    obtain ⟨x, hx⟩ : ∃ x, holdsB H h f b = x := ⟨_, rfl⟩
    have HX := Lib.hid hx
    clear hk hx hR
    obtain ⟨W, hW⟩ : ∃ W, w4.alloc (.cells #[.int .i64 h] 3) = W := ⟨_, rfl⟩
    have bW : Below w4.heap.size w4 W := by rw [← hW]; exact (Below.refl _ _).alloc (Nat.le_refl _) _
    have HIW := Lib.hid (show IntA W (some ⟨w4.heap.size, 0, none⟩) [h] by rw [← hW]; exact inta_at w4 h)
    have HSW := Lib.hid (HS4.out.go bW)
    obtain ⟨y0, y1, y2, y3, y4⟩ := HSW.out.sm.box.five
    clear bW
    go_wp2_with (refine wpList_stY rfl 27 _ _ rfl W.heap.size #[.int .i64 f, .int .i64 b, .slice (some ⟨w4.heap.size, 0, none⟩) 1 1, .int .i64 l, .slice d M.length e] ?x3 ?z3 ?o3 ?i3 _ (AtY.new5 W _ _ _ _ _ _) rfl ?g3)
    try case x3 => simp [Act.eval]
    try case z3 => simp [Act.eval]
    try case o3 => simp [Value.oneCell']
    try case i3 => rfl
    intro w5 a5 g5
    have b5 : Below W.heap.size W w5 := ((Below.refl W.heap.size W).alloc (Nat.le_refl _) _).grown g5 (by simp) (fun k hk => by cases hk; exact Nat.le_refl _)
    have HS5 := Lib.hid (HSW.out.go b5)
    have HF5 := Lib.hid a5
    have HRF := Lib.hid (show RtM w5 (some ⟨w4.heap.size, 0, none⟩) 1 [h] d e M from ⟨⟨HIW.out.below b5, HS5.out.sm.rt.1.2⟩, by simp, HS5.out.sm.rt.2.2.1, by simp, HS5.out.sm.rt.2.2.2.2⟩)
    clear a5 g5 b5 hW q0 q1 q2 q3 q4 y0 y1 y2 y3 y4 HS4 HSW HIW
    go_wp2_with fail
    go_loopw [12] (fun i wr => ∃ k : Nat, (1 ≤ k ∧ k ≤ 6) ∧ i = .int .i64 k ∧ Hid (Below w5.heap.size w5 wr)) (fun i _ => 6 - (intOf i).toNat)
    case atStart => exact ⟨1, by omega, rfl, Lib.hid (Below.refl _ _)⟩
    case round =>
      obtain ⟨k, ⟨hk1, hk6⟩, rfl, HB⟩ := hrel
      have HS6 := Lib.hid (HS5.out.go HB.out)
      have HRF6 := Lib.hid (HRF.out.below HB.out)
      by_cases hlt : (k : Int) ≤ 5
      · obtain ⟨v, hv⟩ : ∃ v : Int, (k : Int) = v := ⟨_, rfl⟩
        obtain ⟨q0, q1, q2, q3, q4⟩ := HS6.out.sm.box.five
        obtain ⟨r0, r1, r2, r3, r4⟩ := (HF5.out.below HB.out).five
        have hv5 : 1 ≤ v ∧ v ≤ 5 := by omega
        obtain ⟨z, hz⟩ : ∃ z, (decide (v ≠ h) && holdsB H h f b) = z := ⟨_, rfl⟩
        have HZ := Lib.hid (show ∀ A : List SV, sealsP A = makeS f b [h] l M v → decide (lackM H (L ++ A) f b [h] l M v = 0) = z from fun A hA => by rw [← hz]; exact hij HR.out hv5 hA)
        have HQC := Lib.hid (And.intro (And.intro q0 (And.intro q1 (And.intro q2 (And.intro q3 q4)))) (And.intro r0 (And.intro r1 (And.intro r2 (And.intro r3 r4)))))
        have HLL := Lib.hid HS6.out.ll
        by_cases ev : v = h
        · obtain rfl : false = z := by rw [← hz]; simp [ev]
          subst ev
          have ev2 : ((k : Int) != v) = false := by rw [hv]; simp
          have e3 : (false != false) = false := rfl
          clear hz
          go_upto_region 12 with fail
          clear q0 q1 q2 q3 q4 r0 r1 r2 r3 r4
          rw [hv] at ev2 ⊢
          refine wp_region_held_drew (S := fun Wx => ((Wx.cell? ⟨w1.heap.size, 0, none⟩ = some (.int .i64 f) ∧ Wx.cell? ⟨w1.heap.size, 1, none⟩ = some (.int .i64 b) ∧ Wx.cell? ⟨w1.heap.size, 2, none⟩ = some (.slice a P.length c) ∧ Wx.cell? ⟨w1.heap.size, 3, none⟩ = some (.int .i64 l) ∧ Wx.cell? ⟨w1.heap.size, 4, none⟩ = some (.slice d M.length e)) ∧ (Wx.cell? ⟨W.heap.size, 0, none⟩ = some (.int .i64 f) ∧ Wx.cell? ⟨W.heap.size, 1, none⟩ = some (.int .i64 b) ∧ Wx.cell? ⟨W.heap.size, 2, none⟩ = some (.slice (some ⟨w4.heap.size, 0, none⟩) 1 1) ∧ Wx.cell? ⟨W.heap.size, 3, none⟩ = some (.int .i64 l) ∧ Wx.cell? ⟨W.heap.size, 4, none⟩ = some (.slice d M.length e))) ∧ Hid (Below wr.heap.size wr Wx)) (by kernel_rfl) ?_ (fun hHeld => ?_)
          · exact ⟨HQC.out, Lib.hid (Below.refl _ wr).drew⟩
          refine takeH (i := 0) (v := ?_) rfl rfl (by kernel_rfl) (by kernel_rfl) (by kernel_rfl) (fun _ _ _ h => h) (by rfl) ?_ (by assumption) ?_
          rotate_left 1
          · intro w hSw
            (try dsimp only at hSw)
            go_simp
            try with_reducible rfl
          try simp only [List.setIfInBounds_toArray, List.set_cons_zero, List.set_cons_succ]
          refine takeH (i := 2) (v := ?_) rfl rfl (by kernel_rfl) (by kernel_rfl) (by kernel_rfl) (fun _ _ _ h => h) (by rfl) ?_ (by assumption) ?_
          rotate_left 1
          · intro w hSw
            (try dsimp only at hSw)
            go_simp
            try with_reducible rfl
          try simp only [List.setIfInBounds_toArray, List.set_cons_zero, List.set_cons_succ]
          refine takeH (i := 4) (v := ?_) rfl rfl (by kernel_rfl) (by kernel_rfl) (by kernel_rfl) (fun _ _ _ h => h) (by rfl) ?_ (by assumption) ?_
          rotate_left 1
          · intro w hSw
            (try dsimp only at hSw)
            go_simp
            try with_reducible rfl
          try simp only [List.setIfInBounds_toArray, List.set_cons_zero, List.set_cons_succ]
          refine takeH (i := 5) (v := ?_) rfl rfl (by kernel_rfl) (by kernel_rfl) (by kernel_rfl) (fun _ _ _ h => h) (by rfl) ?_ (by assumption) ?_
          rotate_left 1
          · intro w hSw
            (try dsimp only at hSw)
            go_simp
            try with_reducible rfl
          try simp only [List.setIfInBounds_toArray, List.set_cons_zero, List.set_cons_succ]
          refine takeH (i := 8) (v := ?_) rfl rfl (by kernel_rfl) (by kernel_rfl) (by kernel_rfl) (fun _ _ _ h => h) (by rfl) ?_ (by assumption) ?_
          rotate_left 1
          · intro w hSw
            (try dsimp only at hSw)
            go_simp
            try with_reducible rfl
          try simp only [List.setIfInBounds_toArray, List.set_cons_zero, List.set_cons_succ]
          refine takeH (i := 9) (v := ?_) rfl rfl (by kernel_rfl) (by kernel_rfl) (by kernel_rfl) (fun _ _ _ h => h) (by rfl) ?_ (by assumption) ?_
          rotate_left 1
          · intro w hSw
            (try dsimp only at hSw)
            go_simp
            try with_reducible rfl
          try simp only [List.setIfInBounds_toArray, List.set_cons_zero, List.set_cons_succ]
          refine takeH (i := 11) (v := ?_) rfl rfl (by kernel_rfl) (by kernel_rfl) (by kernel_rfl) (fun _ _ _ h => h) (by rfl) ?_ (by assumption) ?_
          rotate_left 1
          · intro w hSw
            (try dsimp only at hSw)
            go_simp
            try with_reducible rfl
          try simp only [List.setIfInBounds_toArray, List.set_cons_zero, List.set_cons_succ]
          refine takeH (i := 12) (v := ?_) rfl rfl (by kernel_rfl) (by kernel_rfl) (by kernel_rfl) (fun _ _ _ h => h) (by rfl) ?_ (by assumption) ?_
          rotate_left 1
          · intro w hSw
            (try dsimp only at hSw)
            go_simp
            try with_reducible rfl
          try simp only [List.setIfInBounds_toArray, List.set_cons_zero, List.set_cons_succ]
          refine takeH (i := 13) (v := ?_) rfl rfl (by kernel_rfl) (by kernel_rfl) (by kernel_rfl) (fun _ _ _ h => h) (by rfl) ?_ (by assumption) ?_
          rotate_left 1
          · intro w hSw
            (try dsimp only at hSw)
            go_simp
            try with_reducible rfl
          try simp only [List.setIfInBounds_toArray, List.set_cons_zero, List.set_cons_succ]
          refine wpAnyH_ready (rs := [1]) (by kernel_rfl) (by simp) ?_
          refine AllReadyH.cons rfl (fun K hK => ?_) (AllReadyH.nil)
          go_simp
          have be1 : Below wr.drew.heap.size wr.drew ((wr.alloc (.cells #[] 34)).drew) := (show Below wr.drew.heap.size wr.drew (wr.drew.alloc (.cells #[] 34)) from (Below.refl _ _).alloc (Nat.le_refl _) _)
          have E1 := Lib.hid (show OwnSl ((wr.alloc (.cells #[] 34)).drew) wr.heap.size (.slice (some ⟨wr.heap.size, 0, none⟩) 0 0) [] from (slr_empty wr.drew wr.heap.size (Nat.le_refl _)).row)
          have bq1 := next ((Below.refl wr.heap.size wr).drew) be1
          have hs1 : wr.heap.size + 1 ≤ ((wr.alloc (.cells #[] 34)).drew).heap.size := (by simp)
          generalize (wr.alloc (.cells #[] 34)).drew = wz1 at *
          refine hK.out _ _ ?_ (fun hNew => ?_)
          · exact ⟨⟨⟨cell_later (bq1) HQC.out.1.1, cell_later (bq1) HQC.out.1.2.1, cell_later (bq1) HQC.out.1.2.2.1, cell_later (bq1) HQC.out.1.2.2.2.1, cell_later (bq1) HQC.out.1.2.2.2.2⟩, ⟨cell_later (bq1) HQC.out.2.1, cell_later (bq1) HQC.out.2.2.1, cell_later (bq1) HQC.out.2.2.2.1, cell_later (bq1) HQC.out.2.2.2.2.1, cell_later (bq1) HQC.out.2.2.2.2.2⟩⟩, Lib.hid (bq1)⟩
          clear hK K hHeld
          have hHeld := hNew
          clear hNew
          try simp only [Act.put, List.setIfInBounds_toArray, List.set_cons_zero, List.set_cons_succ]
          refine wpAnyH_ready (rs := [3]) (by kernel_rfl) (by simp) ?_
          refine AllReadyH.cons rfl (fun K hK => ?_) (AllReadyH.nil)
          refine wp_appS (.tmp 69) (.tmp 70) rfl wr.heap.size (.slice (some ⟨wr.heap.size, 0, none⟩) 0 0) [] (by simp [Act.eval]) E1.out al L.length cl L (by first | rfl | (simp; done) | (simp; omega)) (by simp [Act.eval]) (HLL.out.below hHeld.2.out) hcl (by first | (simp; omega) | omega) hHeld.2.out.size ?_
          intro v2 w902 own2 grow2
          replace own2 : OwnSl w902 wr.heap.size v2 L := own2
          have bq2 : Below wr.heap.size wr w902 := below_app hHeld.2.out E1.out (Nat.le_refl _) grow2
          obtain ⟨xa2, xc2, rfl, _⟩ := OwnSl.tab own2
          have E2 := Lib.hid own2
          have hs2 : True := trivial
          clear own2 grow2
          generalize hw2 : w902 = wz2 at *
          clear hw2
          show K (Act.put _ (some 71) _) wz2
          refine hK.out _ _ ?_ (fun hNew => ?_)
          · exact ⟨⟨⟨cell_later (bq2) HQC.out.1.1, cell_later (bq2) HQC.out.1.2.1, cell_later (bq2) HQC.out.1.2.2.1, cell_later (bq2) HQC.out.1.2.2.2.1, cell_later (bq2) HQC.out.1.2.2.2.2⟩, ⟨cell_later (bq2) HQC.out.2.1, cell_later (bq2) HQC.out.2.2.1, cell_later (bq2) HQC.out.2.2.2.1, cell_later (bq2) HQC.out.2.2.2.2.1, cell_later (bq2) HQC.out.2.2.2.2.2⟩⟩, Lib.hid (bq2)⟩
          clear hK K hHeld
          have hHeld := hNew
          clear hNew
          try simp only [Act.put, List.setIfInBounds_toArray, List.set_cons_zero, List.set_cons_succ]
          refine wpAnyH_ready (rs := [6]) (by kernel_rfl) (by simp) ?_
          refine AllReadyH.cons rfl (fun K hK => ?_) (AllReadyH.nil)
          go_simp
          refine (isealmake_is f b (some ⟨w4.heap.size, 0, none⟩) 1 [v] l d e M v rfl _ p (HRF6.out.below hHeld.2.out) (HS6.out.sm.ev.below hHeld.2.out)).mono ?_
          rintro en wz3 ⟨vn, A, rfl, hR, hQ, hsm, b3⟩
          obtain ⟨la, lc, rfl, hlc⟩ := OwnSl.tab hR.row
          have E3 := Lib.hid (ownsl_later E2.out b3)
          have NN := Lib.hid (OwnSl.num hR.row)
          have NL3 := Lib.hid (OwnSl.lies hR.row)
          have NP3 := Lib.hid (show PaO wz3 _ A from hR.own)
          have HQ := Lib.hid hQ
          have HSM := Lib.hid hsm
          have hAl : A.length ≤ 1 := (by have h8 := makeS_len f b [v] l M v; rw [← hQ, sealsP_len] at h8; simpa using h8)
          have bq3 := next hHeld.2.out b3
          have hs3 := b3.size
          clear hR hQ hsm b3
          go_wp2_with fail
          refine hK.out _ _ ?_ (fun hNew => ?_)
          · exact ⟨⟨⟨cell_later (bq3) HQC.out.1.1, cell_later (bq3) HQC.out.1.2.1, cell_later (bq3) HQC.out.1.2.2.1, cell_later (bq3) HQC.out.1.2.2.2.1, cell_later (bq3) HQC.out.1.2.2.2.2⟩, ⟨cell_later (bq3) HQC.out.2.1, cell_later (bq3) HQC.out.2.2.1, cell_later (bq3) HQC.out.2.2.2.1, cell_later (bq3) HQC.out.2.2.2.2.1, cell_later (bq3) HQC.out.2.2.2.2.2⟩⟩, Lib.hid (bq3)⟩
          clear hK K hHeld
          have hHeld := hNew
          clear hNew
          try simp only [Act.put, List.setIfInBounds_toArray, List.set_cons_zero, List.set_cons_succ]
          refine wpAnyH_ready (rs := [7]) (by kernel_rfl) (by simp) ?_
          refine AllReadyH.cons rfl (fun K hK => ?_) (AllReadyH.nil)
          refine wp_appS (.tmp 71) (.tmp 74) rfl wr.heap.size (.slice xa2 L.length xc2) L (by simp [Act.eval]) E3.out la A.length lc A (by first | rfl | (simp; done) | (simp; omega)) (by simp [Act.eval]) NL3.out hlc (by first | (simp; omega) | omega) hHeld.2.out.size ?_
          intro v4 w904 own4 grow4
          have bq4 : Below wr.heap.size wr w904 := below_app hHeld.2.out E3.out (Nat.le_refl _) grow4
          have NP4 := Lib.hid (NP3.out.app E3.out grow4)
          obtain ⟨L3, hL3⟩ : ∃ L3, L ++ A = L3 := ⟨_, rfl⟩
          have HL3 := Lib.hid hL3
          have HZ3 := Lib.hid (show decide (lackM H L3 f b [v] l M v = 0) = false from (by rw [← hL3]; exact HZ.out A HQ.out))
          rw [hL3] at own4
          have hl3 : L3.length ≤ 18 := (by have h6 := congrArg List.length hL3; simp at h6; omega)
          obtain ⟨xa4, xc4, rfl, _⟩ := OwnSl.tab own4
          have SA4 := Lib.hid (show SlA w904 xa4 L3 from app_sla HL3.out own4 (HS6.out.go bq4).sl.2 (NP4.out.m (fun x hx => by have h7 := HSM.out x hx; simp at h7; omega)))
          have hs4 : True := trivial
          clear own4 grow4 hL3
          generalize hw4 : w904 = wz4 at *
          clear hw4
          show K (Act.put _ (some 75) _) wz4
          refine hK.out _ _ ?_ (fun hNew => ?_)
          · exact ⟨⟨⟨cell_later (bq4) HQC.out.1.1, cell_later (bq4) HQC.out.1.2.1, cell_later (bq4) HQC.out.1.2.2.1, cell_later (bq4) HQC.out.1.2.2.2.1, cell_later (bq4) HQC.out.1.2.2.2.2⟩, ⟨cell_later (bq4) HQC.out.2.1, cell_later (bq4) HQC.out.2.2.1, cell_later (bq4) HQC.out.2.2.2.1, cell_later (bq4) HQC.out.2.2.2.2.1, cell_later (bq4) HQC.out.2.2.2.2.2⟩⟩, Lib.hid (bq4)⟩
          clear hK K hHeld
          have hHeld := hNew
          clear hNew
          try simp only [Act.put, List.setIfInBounds_toArray, List.set_cons_zero, List.set_cons_succ]
          refine wpAnyH_ready (rs := [10]) (by kernel_rfl) (by simp) ?_
          refine AllReadyH.cons rfl (fun K hK => ?_) (AllReadyH.nil)
          go_simp
          refine (isealok_is H L3 (app_w HL3.out HW.out (makeS_w HQ.out)) ah xa4 ch xc4 f b (some ⟨w4.heap.size, 0, none⟩) 1 [v] l d e M v HZ3.out _ p (HS6.out.hv.below hHeld.2.out) (by omega) SA4.out (by omega) (HRF6.out.below hHeld.2.out) (HS6.out.sm.ev.below hHeld.2.out) (HS6.out.sm.pw.next hHeld.2.out)).mono ?_
          rintro en wz5 ⟨rfl, b5⟩
          have bq5 := next hHeld.2.out b5
          have hs5 : True := trivial
          clear b5
          go_wp2_with fail
          refine hK.out _ _ ?_ (fun hNew => ?_)
          · exact ⟨⟨⟨cell_later (bq5) HQC.out.1.1, cell_later (bq5) HQC.out.1.2.1, cell_later (bq5) HQC.out.1.2.2.1, cell_later (bq5) HQC.out.1.2.2.2.1, cell_later (bq5) HQC.out.1.2.2.2.2⟩, ⟨cell_later (bq5) HQC.out.2.1, cell_later (bq5) HQC.out.2.2.1, cell_later (bq5) HQC.out.2.2.2.1, cell_later (bq5) HQC.out.2.2.2.2.1, cell_later (bq5) HQC.out.2.2.2.2.2⟩⟩, Lib.hid (bq5)⟩
          clear hK K hHeld
          have hHeld := hNew
          clear hNew
          try simp only [Act.put, List.setIfInBounds_toArray, List.set_cons_zero, List.set_cons_succ]
          refine takeH (i := 14) (v := ?_) rfl rfl (by kernel_rfl) (by kernel_rfl) (by kernel_rfl) (fun _ _ _ h => h) (by rfl) ?_ (by assumption) ?_
          rotate_left 1
          · intro w hSw
            (try dsimp only at hSw)
            go_simp
            try with_reducible rfl
          try simp only [List.setIfInBounds_toArray, List.set_cons_zero, List.set_cons_succ]
          refine skipH (i := 15) rfl rfl (by kernel_rfl) (by kernel_rfl) (by kernel_rfl) (fun _ _ _ h => h) (by rfl) (by assumption) ?_
          try simp only [List.setIfInBounds_toArray, List.set_cons_zero, List.set_cons_succ]
          refine skipH (i := 16) rfl rfl (by kernel_rfl) (by kernel_rfl) (by kernel_rfl) (fun _ _ _ h => h) (by rfl) (by assumption) ?_
          try simp only [List.setIfInBounds_toArray, List.set_cons_zero, List.set_cons_succ]
          refine skipH (i := 17) rfl rfl (by kernel_rfl) (by kernel_rfl) (by kernel_rfl) (fun _ _ _ h => h) (by rfl) (by assumption) ?_
          try simp only [List.setIfInBounds_toArray, List.set_cons_zero, List.set_cons_succ]
          refine skipH (i := 18) rfl rfl (by kernel_rfl) (by kernel_rfl) (by kernel_rfl) (fun _ _ _ h => h) (by rfl) (by assumption) ?_
          try simp only [List.setIfInBounds_toArray, List.set_cons_zero, List.set_cons_succ]
          refine skipH (i := 19) rfl rfl (by kernel_rfl) (by kernel_rfl) (by kernel_rfl) (fun _ _ _ h => h) (by rfl) (by assumption) ?_
          try simp only [List.setIfInBounds_toArray, List.set_cons_zero, List.set_cons_succ]
          refine takeH (i := 20) (v := ?_) rfl rfl (by kernel_rfl) (by kernel_rfl) (by kernel_rfl) (fun _ _ _ h => h) (by rfl) ?_ (by assumption) ?_
          rotate_left 1
          · intro w hSw
            (try dsimp only at hSw)
            go_simp
            try with_reducible rfl
          try simp only [List.setIfInBounds_toArray, List.set_cons_zero, List.set_cons_succ]
          refine takeH (i := 21) (v := ?_) rfl rfl (by kernel_rfl) (by kernel_rfl) (by kernel_rfl) (fun _ _ _ h => h) (by rfl) ?_ (by assumption) ?_
          rotate_left 1
          · intro w hSw
            (try dsimp only at hSw)
            go_simp
            try with_reducible rfl
          try simp only [List.setIfInBounds_toArray, List.set_cons_zero, List.set_cons_succ]
          refine wpAnyH_done (by kernel_rfl) ?_ _
          have HB7 := Lib.hid (next HB.out hHeld.2.out)
          clear hHeld
          subst hv
          go_wp2_with fail
          go_roundw
          case rel => exact ⟨k + 1, by omega, by first | go_num | (rw [← hv]; go_num), HB7⟩
          case measure => (simp [intOf]; omega)
        · obtain rfl : x = z := by rw [← hz, HX.out]; simp [ev]
          have ev2 : ((k : Int) != h) = true := by rw [hv]; simpa using ev
          have e3 : (x != x) = false := by simp
          clear hz
          go_upto_region 12 with fail
          clear q0 q1 q2 q3 q4 r0 r1 r2 r3 r4
          rw [hv] at ev2 ⊢
          refine wp_region_held_drew (S := fun Wx => ((Wx.cell? ⟨w1.heap.size, 0, none⟩ = some (.int .i64 f) ∧ Wx.cell? ⟨w1.heap.size, 1, none⟩ = some (.int .i64 b) ∧ Wx.cell? ⟨w1.heap.size, 2, none⟩ = some (.slice a P.length c) ∧ Wx.cell? ⟨w1.heap.size, 3, none⟩ = some (.int .i64 l) ∧ Wx.cell? ⟨w1.heap.size, 4, none⟩ = some (.slice d M.length e)) ∧ (Wx.cell? ⟨W.heap.size, 0, none⟩ = some (.int .i64 f) ∧ Wx.cell? ⟨W.heap.size, 1, none⟩ = some (.int .i64 b) ∧ Wx.cell? ⟨W.heap.size, 2, none⟩ = some (.slice (some ⟨w4.heap.size, 0, none⟩) 1 1) ∧ Wx.cell? ⟨W.heap.size, 3, none⟩ = some (.int .i64 l) ∧ Wx.cell? ⟨W.heap.size, 4, none⟩ = some (.slice d M.length e))) ∧ Hid (Below wr.heap.size wr Wx)) (by kernel_rfl) ?_ (fun hHeld => ?_)
          · exact ⟨HQC.out, Lib.hid (Below.refl _ wr).drew⟩
          refine takeH (i := 0) (v := ?_) rfl rfl (by kernel_rfl) (by kernel_rfl) (by kernel_rfl) (fun _ _ _ h => h) (by rfl) ?_ (by assumption) ?_
          rotate_left 1
          · intro w hSw
            (try dsimp only at hSw)
            go_simp
            try with_reducible rfl
          try simp only [List.setIfInBounds_toArray, List.set_cons_zero, List.set_cons_succ]
          refine takeH (i := 2) (v := ?_) rfl rfl (by kernel_rfl) (by kernel_rfl) (by kernel_rfl) (fun _ _ _ h => h) (by rfl) ?_ (by assumption) ?_
          rotate_left 1
          · intro w hSw
            (try dsimp only at hSw)
            go_simp
            try with_reducible rfl
          try simp only [List.setIfInBounds_toArray, List.set_cons_zero, List.set_cons_succ]
          refine takeH (i := 4) (v := ?_) rfl rfl (by kernel_rfl) (by kernel_rfl) (by kernel_rfl) (fun _ _ _ h => h) (by rfl) ?_ (by assumption) ?_
          rotate_left 1
          · intro w hSw
            (try dsimp only at hSw)
            go_simp
            try with_reducible rfl
          try simp only [List.setIfInBounds_toArray, List.set_cons_zero, List.set_cons_succ]
          refine takeH (i := 5) (v := ?_) rfl rfl (by kernel_rfl) (by kernel_rfl) (by kernel_rfl) (fun _ _ _ h => h) (by rfl) ?_ (by assumption) ?_
          rotate_left 1
          · intro w hSw
            (try dsimp only at hSw)
            go_simp
            try with_reducible rfl
          try simp only [List.setIfInBounds_toArray, List.set_cons_zero, List.set_cons_succ]
          refine takeH (i := 8) (v := ?_) rfl rfl (by kernel_rfl) (by kernel_rfl) (by kernel_rfl) (fun _ _ _ h => h) (by rfl) ?_ (by assumption) ?_
          rotate_left 1
          · intro w hSw
            (try dsimp only at hSw)
            go_simp
            try with_reducible rfl
          try simp only [List.setIfInBounds_toArray, List.set_cons_zero, List.set_cons_succ]
          refine takeH (i := 9) (v := ?_) rfl rfl (by kernel_rfl) (by kernel_rfl) (by kernel_rfl) (fun _ _ _ h => h) (by rfl) ?_ (by assumption) ?_
          rotate_left 1
          · intro w hSw
            (try dsimp only at hSw)
            go_simp
            try with_reducible rfl
          try simp only [List.setIfInBounds_toArray, List.set_cons_zero, List.set_cons_succ]
          refine takeH (i := 11) (v := ?_) rfl rfl (by kernel_rfl) (by kernel_rfl) (by kernel_rfl) (fun _ _ _ h => h) (by rfl) ?_ (by assumption) ?_
          rotate_left 1
          · intro w hSw
            (try dsimp only at hSw)
            go_simp
            try with_reducible rfl
          try simp only [List.setIfInBounds_toArray, List.set_cons_zero, List.set_cons_succ]
          refine takeH (i := 12) (v := ?_) rfl rfl (by kernel_rfl) (by kernel_rfl) (by kernel_rfl) (fun _ _ _ h => h) (by rfl) ?_ (by assumption) ?_
          rotate_left 1
          · intro w hSw
            (try dsimp only at hSw)
            go_simp
            try with_reducible rfl
          try simp only [List.setIfInBounds_toArray, List.set_cons_zero, List.set_cons_succ]
          refine takeH (i := 13) (v := ?_) rfl rfl (by kernel_rfl) (by kernel_rfl) (by kernel_rfl) (fun _ _ _ h => h) (by rfl) ?_ (by assumption) ?_
          rotate_left 1
          · intro w hSw
            (try dsimp only at hSw)
            go_simp
            try with_reducible rfl
          try simp only [List.setIfInBounds_toArray, List.set_cons_zero, List.set_cons_succ]
          refine wpAnyH_ready (rs := [1]) (by kernel_rfl) (by simp) ?_
          refine AllReadyH.cons rfl (fun K hK => ?_) (AllReadyH.nil)
          go_simp
          have be1 : Below wr.drew.heap.size wr.drew ((wr.alloc (.cells #[] 34)).drew) := (show Below wr.drew.heap.size wr.drew (wr.drew.alloc (.cells #[] 34)) from (Below.refl _ _).alloc (Nat.le_refl _) _)
          have E1 := Lib.hid (show OwnSl ((wr.alloc (.cells #[] 34)).drew) wr.heap.size (.slice (some ⟨wr.heap.size, 0, none⟩) 0 0) [] from (slr_empty wr.drew wr.heap.size (Nat.le_refl _)).row)
          have bq1 := next ((Below.refl wr.heap.size wr).drew) be1
          have hs1 : wr.heap.size + 1 ≤ ((wr.alloc (.cells #[] 34)).drew).heap.size := (by simp)
          generalize (wr.alloc (.cells #[] 34)).drew = wz1 at *
          refine hK.out _ _ ?_ (fun hNew => ?_)
          · exact ⟨⟨⟨cell_later (bq1) HQC.out.1.1, cell_later (bq1) HQC.out.1.2.1, cell_later (bq1) HQC.out.1.2.2.1, cell_later (bq1) HQC.out.1.2.2.2.1, cell_later (bq1) HQC.out.1.2.2.2.2⟩, ⟨cell_later (bq1) HQC.out.2.1, cell_later (bq1) HQC.out.2.2.1, cell_later (bq1) HQC.out.2.2.2.1, cell_later (bq1) HQC.out.2.2.2.2.1, cell_later (bq1) HQC.out.2.2.2.2.2⟩⟩, Lib.hid (bq1)⟩
          clear hK K hHeld
          have hHeld := hNew
          clear hNew
          try simp only [Act.put, List.setIfInBounds_toArray, List.set_cons_zero, List.set_cons_succ]
          refine wpAnyH_ready (rs := [3]) (by kernel_rfl) (by simp) ?_
          refine AllReadyH.cons rfl (fun K hK => ?_) (AllReadyH.nil)
          refine wp_appS (.tmp 69) (.tmp 70) rfl wr.heap.size (.slice (some ⟨wr.heap.size, 0, none⟩) 0 0) [] (by simp [Act.eval]) E1.out al L.length cl L (by first | rfl | (simp; done) | (simp; omega)) (by simp [Act.eval]) (HLL.out.below hHeld.2.out) hcl (by first | (simp; omega) | omega) hHeld.2.out.size ?_
          intro v2 w902 own2 grow2
          replace own2 : OwnSl w902 wr.heap.size v2 L := own2
          have bq2 : Below wr.heap.size wr w902 := below_app hHeld.2.out E1.out (Nat.le_refl _) grow2
          obtain ⟨xa2, xc2, rfl, _⟩ := OwnSl.tab own2
          have E2 := Lib.hid own2
          have hs2 : True := trivial
          clear own2 grow2
          generalize hw2 : w902 = wz2 at *
          clear hw2
          show K (Act.put _ (some 71) _) wz2
          refine hK.out _ _ ?_ (fun hNew => ?_)
          · exact ⟨⟨⟨cell_later (bq2) HQC.out.1.1, cell_later (bq2) HQC.out.1.2.1, cell_later (bq2) HQC.out.1.2.2.1, cell_later (bq2) HQC.out.1.2.2.2.1, cell_later (bq2) HQC.out.1.2.2.2.2⟩, ⟨cell_later (bq2) HQC.out.2.1, cell_later (bq2) HQC.out.2.2.1, cell_later (bq2) HQC.out.2.2.2.1, cell_later (bq2) HQC.out.2.2.2.2.1, cell_later (bq2) HQC.out.2.2.2.2.2⟩⟩, Lib.hid (bq2)⟩
          clear hK K hHeld
          have hHeld := hNew
          clear hNew
          try simp only [Act.put, List.setIfInBounds_toArray, List.set_cons_zero, List.set_cons_succ]
          refine wpAnyH_ready (rs := [6]) (by kernel_rfl) (by simp) ?_
          refine AllReadyH.cons rfl (fun K hK => ?_) (AllReadyH.nil)
          go_simp
          refine (isealmake_is f b (some ⟨w4.heap.size, 0, none⟩) 1 [h] l d e M v rfl _ p (HRF6.out.below hHeld.2.out) (HS6.out.sm.ev.below hHeld.2.out)).mono ?_
          rintro en wz3 ⟨vn, A, rfl, hR, hQ, hsm, b3⟩
          obtain ⟨la, lc, rfl, hlc⟩ := OwnSl.tab hR.row
          have E3 := Lib.hid (ownsl_later E2.out b3)
          have NN := Lib.hid (OwnSl.num hR.row)
          have NL3 := Lib.hid (OwnSl.lies hR.row)
          have NP3 := Lib.hid (show PaO wz3 _ A from hR.own)
          have HQ := Lib.hid hQ
          have HSM := Lib.hid hsm
          have hAl : A.length ≤ 1 := (by have h8 := makeS_len f b [h] l M v; rw [← hQ, sealsP_len] at h8; simpa using h8)
          have bq3 := next hHeld.2.out b3
          have hs3 := b3.size
          clear hR hQ hsm b3
          go_wp2_with fail
          refine hK.out _ _ ?_ (fun hNew => ?_)
          · exact ⟨⟨⟨cell_later (bq3) HQC.out.1.1, cell_later (bq3) HQC.out.1.2.1, cell_later (bq3) HQC.out.1.2.2.1, cell_later (bq3) HQC.out.1.2.2.2.1, cell_later (bq3) HQC.out.1.2.2.2.2⟩, ⟨cell_later (bq3) HQC.out.2.1, cell_later (bq3) HQC.out.2.2.1, cell_later (bq3) HQC.out.2.2.2.1, cell_later (bq3) HQC.out.2.2.2.2.1, cell_later (bq3) HQC.out.2.2.2.2.2⟩⟩, Lib.hid (bq3)⟩
          clear hK K hHeld
          have hHeld := hNew
          clear hNew
          try simp only [Act.put, List.setIfInBounds_toArray, List.set_cons_zero, List.set_cons_succ]
          refine wpAnyH_ready (rs := [7]) (by kernel_rfl) (by simp) ?_
          refine AllReadyH.cons rfl (fun K hK => ?_) (AllReadyH.nil)
          refine wp_appS (.tmp 71) (.tmp 74) rfl wr.heap.size (.slice xa2 L.length xc2) L (by simp [Act.eval]) E3.out la A.length lc A (by first | rfl | (simp; done) | (simp; omega)) (by simp [Act.eval]) NL3.out hlc (by first | (simp; omega) | omega) hHeld.2.out.size ?_
          intro v4 w904 own4 grow4
          have bq4 : Below wr.heap.size wr w904 := below_app hHeld.2.out E3.out (Nat.le_refl _) grow4
          have NP4 := Lib.hid (NP3.out.app E3.out grow4)
          obtain ⟨L3, hL3⟩ : ∃ L3, L ++ A = L3 := ⟨_, rfl⟩
          have HL3 := Lib.hid hL3
          have HZ3 := Lib.hid (show decide (lackM H L3 f b [h] l M v = 0) = x from (by rw [← hL3]; exact HZ.out A HQ.out))
          rw [hL3] at own4
          have hl3 : L3.length ≤ 18 := (by have h6 := congrArg List.length hL3; simp at h6; omega)
          obtain ⟨xa4, xc4, rfl, _⟩ := OwnSl.tab own4
          have SA4 := Lib.hid (show SlA w904 xa4 L3 from app_sla HL3.out own4 (HS6.out.go bq4).sl.2 (NP4.out.m (fun x hx => by have h7 := HSM.out x hx; simp at h7; omega)))
          have hs4 : True := trivial
          clear own4 grow4 hL3
          generalize hw4 : w904 = wz4 at *
          clear hw4
          show K (Act.put _ (some 75) _) wz4
          refine hK.out _ _ ?_ (fun hNew => ?_)
          · exact ⟨⟨⟨cell_later (bq4) HQC.out.1.1, cell_later (bq4) HQC.out.1.2.1, cell_later (bq4) HQC.out.1.2.2.1, cell_later (bq4) HQC.out.1.2.2.2.1, cell_later (bq4) HQC.out.1.2.2.2.2⟩, ⟨cell_later (bq4) HQC.out.2.1, cell_later (bq4) HQC.out.2.2.1, cell_later (bq4) HQC.out.2.2.2.1, cell_later (bq4) HQC.out.2.2.2.2.1, cell_later (bq4) HQC.out.2.2.2.2.2⟩⟩, Lib.hid (bq4)⟩
          clear hK K hHeld
          have hHeld := hNew
          clear hNew
          try simp only [Act.put, List.setIfInBounds_toArray, List.set_cons_zero, List.set_cons_succ]
          refine wpAnyH_ready (rs := [10]) (by kernel_rfl) (by simp) ?_
          refine AllReadyH.cons rfl (fun K hK => ?_) (AllReadyH.nil)
          go_simp
          refine (isealok_is H L3 (app_w HL3.out HW.out (makeS_w HQ.out)) ah xa4 ch xc4 f b (some ⟨w4.heap.size, 0, none⟩) 1 [h] l d e M v HZ3.out _ p (HS6.out.hv.below hHeld.2.out) (by omega) SA4.out (by omega) (HRF6.out.below hHeld.2.out) (HS6.out.sm.ev.below hHeld.2.out) (HS6.out.sm.pw.next hHeld.2.out)).mono ?_
          rintro en wz5 ⟨rfl, b5⟩
          have bq5 := next hHeld.2.out b5
          have hs5 : True := trivial
          clear b5
          go_wp2_with fail
          refine hK.out _ _ ?_ (fun hNew => ?_)
          · exact ⟨⟨⟨cell_later (bq5) HQC.out.1.1, cell_later (bq5) HQC.out.1.2.1, cell_later (bq5) HQC.out.1.2.2.1, cell_later (bq5) HQC.out.1.2.2.2.1, cell_later (bq5) HQC.out.1.2.2.2.2⟩, ⟨cell_later (bq5) HQC.out.2.1, cell_later (bq5) HQC.out.2.2.1, cell_later (bq5) HQC.out.2.2.2.1, cell_later (bq5) HQC.out.2.2.2.2.1, cell_later (bq5) HQC.out.2.2.2.2.2⟩⟩, Lib.hid (bq5)⟩
          clear hK K hHeld
          have hHeld := hNew
          clear hNew
          try simp only [Act.put, List.setIfInBounds_toArray, List.set_cons_zero, List.set_cons_succ]
          refine takeH (i := 14) (v := ?_) rfl rfl (by kernel_rfl) (by kernel_rfl) (by kernel_rfl) (fun _ _ _ h => h) (by rfl) ?_ (by assumption) ?_
          rotate_left 1
          · intro w hSw
            (try dsimp only at hSw)
            go_simp
            try with_reducible rfl
          try simp only [List.setIfInBounds_toArray, List.set_cons_zero, List.set_cons_succ]
          refine takeH (i := 15) (v := ?_) rfl rfl (by kernel_rfl) (by kernel_rfl) (by kernel_rfl) (fun _ _ _ h => h) (by rfl) ?_ (by assumption) ?_
          rotate_left 1
          · intro w hSw
            (try dsimp only at hSw)
            go_simp
            try with_reducible rfl
          try simp only [List.setIfInBounds_toArray, List.set_cons_zero, List.set_cons_succ]
          refine takeH (i := 16) (v := ?_) rfl rfl (by kernel_rfl) (by kernel_rfl) (by kernel_rfl) (fun _ _ _ h => h) (by rfl) ?_ (by assumption) ?_
          rotate_left 1
          · intro w hSw
            (try dsimp only at hSw)
            go_simp
            try with_reducible rfl
          try simp only [List.setIfInBounds_toArray, List.set_cons_zero, List.set_cons_succ]
          refine takeH (i := 17) (v := ?_) rfl rfl (by kernel_rfl) (by kernel_rfl) (by kernel_rfl) (fun _ _ _ h => h) (by rfl) ?_ (by assumption) ?_
          rotate_left 1
          · intro w hSw
            (try dsimp only at hSw)
            go_simp
            try with_reducible rfl
          try simp only [List.setIfInBounds_toArray, List.set_cons_zero, List.set_cons_succ]
          refine takeH (i := 18) (v := ?_) rfl rfl (by kernel_rfl) (by kernel_rfl) (by kernel_rfl) (fun _ _ _ h => h) (by rfl) ?_ (by assumption) ?_
          rotate_left 1
          · intro w hSw
            (try dsimp only at hSw)
            go_simp
            try with_reducible rfl
          try simp only [List.setIfInBounds_toArray, List.set_cons_zero, List.set_cons_succ]
          refine wpAnyH_ready (rs := [19]) (by kernel_rfl) (by simp) ?_
          refine AllReadyH.cons rfl (fun K hK => ?_) (AllReadyH.nil)
          go_simp
          refine (iholdhas_is H h f b HX.out ah ch _ _ rfl (HS6.out.hv.below hHeld.2.out) (by omega)).mono ?_
          rintro en wz6 ⟨rfl, b6⟩
          have bq6 := next hHeld.2.out b6
          have hs6 := b6.size
          clear b6
          go_wp2_with fail
          refine hK.out _ _ ?_ (fun hNew => ?_)
          · exact ⟨⟨⟨cell_later (bq6) HQC.out.1.1, cell_later (bq6) HQC.out.1.2.1, cell_later (bq6) HQC.out.1.2.2.1, cell_later (bq6) HQC.out.1.2.2.2.1, cell_later (bq6) HQC.out.1.2.2.2.2⟩, ⟨cell_later (bq6) HQC.out.2.1, cell_later (bq6) HQC.out.2.2.1, cell_later (bq6) HQC.out.2.2.2.1, cell_later (bq6) HQC.out.2.2.2.2.1, cell_later (bq6) HQC.out.2.2.2.2.2⟩⟩, Lib.hid (bq6)⟩
          clear hK K hHeld
          have hHeld := hNew
          clear hNew
          try simp only [Act.put, List.setIfInBounds_toArray, List.set_cons_zero, List.set_cons_succ]
          refine takeH (i := 20) (v := ?_) rfl rfl (by kernel_rfl) (by kernel_rfl) (by kernel_rfl) (fun _ _ _ h => h) (by rfl) ?_ (by assumption) ?_
          rotate_left 1
          · intro w hSw
            (try dsimp only at hSw)
            go_simp
            try with_reducible rfl
          try simp only [List.setIfInBounds_toArray, List.set_cons_zero, List.set_cons_succ]
          refine takeH (i := 21) (v := ?_) rfl rfl (by kernel_rfl) (by kernel_rfl) (by kernel_rfl) (fun _ _ _ h => h) (by rfl) ?_ (by assumption) ?_
          rotate_left 1
          · intro w hSw
            (try dsimp only at hSw)
            go_simp
            try with_reducible rfl
          try simp only [List.setIfInBounds_toArray, List.set_cons_zero, List.set_cons_succ]
          refine wpAnyH_done (by kernel_rfl) ?_ _
          have HB7 := Lib.hid (next HB.out hHeld.2.out)
          clear hHeld
          subst hv
          go_wp2_with fail
          go_roundw
          case rel => exact ⟨k + 1, by omega, by first | go_num | (rw [← hv]; go_num), HB7⟩
          case measure => (simp [intOf]; omega)
      · obtain rfl : k = 6 := by omega
        go_wp2_with fail
        go_ret
        exact ⟨rfl, HS6.out.sm.bel⟩
end Go.Proofs.YtnnmgbgkgnejlaaDoor
