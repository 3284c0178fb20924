/-
  The exact law of SealMake: the walk.
-/
import Derived.Test.YtnnmgbgkgnejlaaDoorSlEc
import Derived.Test.YtnnmgbgkgnejlaaDoorSlXc
namespace Go.Proofs.YtnnmgbgkgnejlaaDoor
open Go.RowKit
set_option linter.unusedSimpArgs false
set_option linter.unusedVariables false

theorem trt_own (f b : Int) (a : Option Addr) (c : Nat) (P : List Int) (l : Int) (d : Option Addr) (e : Nat) (M : List Int) (w : World) (hm : RtM w a c P d e M) (hl1 : P.length ≤ 1048576) (hl2 : M.length ≤ 1048576) :
    Calls Tryd.prog 37 #[.agg #[.int .i64 f, .int .i64 b, .slice a P.length c, .int .i64 l, .slice d M.length e]] w fun en w' => ∃ (a' : Option Addr) (c' : Nat) (d' : Option Addr) (e' : Nat), en = .returned (.agg #[.int .i64 f, .int .i64 b, .slice a' P.length c', .int .i64 l, .slice d' M.length e']) ∧ OwnI w' w.heap.size (.slice a' P.length c') P ∧ OwnI w' w.heap.size (.slice d' M.length e') M ∧ ((Value.slice a' P.length c').ownBlock = none ∨ (Value.slice a' P.length c').ownBlock ≠ (Value.slice d' M.length e').ownBlock) ∧ Below w.heap.size w w' := by
  refine (tort_is f b a c P l d e M _ hm hl1 hl2).mono ?_
  rintro en w2 ⟨pv, mv, rfl, S, o1, bP, o2, hS, b2⟩
  replace o1 : OwnI w2 w.heap.size pv P := o1
  replace o2 : OwnI w2 S mv M := o2
  have hap := apart2 bP o2
  obtain ⟨a2, c2, rfl, _, _⟩ := OwnI.tab o1
  obtain ⟨d2, e2, rfl, _, _⟩ := OwnI.tab o2
  exact ⟨a2, c2, d2, e2, rfl, o1, owni_mono o2 hS, hap, b2⟩
theorem SlR.opt {w w' : World} {R : Nat} {v : Value} {L : List SV} {row : Option Nat} (h : SlR w R v L) (hg : w.grownBy w' row) (hb : ∀ k, row = some k → k < R) : SlR w' R v L :=
  ⟨World.ownsRow.kept h.row hg (by
    cases e : v.ownBlock with
    | none => exact .inl rfl
    | some k => exact .inr (fun q => by have := (World.ownsRow.lt h.row k e).1; have := hb k q.symm; omega)), fun x hx => World.ownsRow.kept (h.own x hx) hg (by
    cases e : x.s.ownBlock with
    | none => exact .inl rfl
    | some k => exact .inr (fun q => by have := ((h.own x hx).lt k e).1; have := hb k q.symm; omega)), h.ap⟩
theorem make_small {f b l t : Int} {P M : List Int} {L : List SV} (h : sealsP L = makeS f b P l M t) : L.length ≤ 5 ∧ ∀ x ∈ L, x.P.length ≤ 5 := by
  cases hk : tellB f b P l M t with
  | false => rw [make_nil h hk]; exact ⟨by simp, fun x hx => by cases hx⟩
  | true =>
    obtain ⟨h1, h2⟩ := make_all h hk
    have hp : Path P := ((rtOk_iff _).1 (tellB_rt hk).1).path
    have h5 := hp.len
    refine ⟨by omega, fun x hx => ?_⟩
    have hm : x.p ∈ sealsOf f b t P := by rw [← h1]; exact List.mem_map_of_mem hx
    obtain ⟨i, hi, e⟩ := sealsOf_in.1 hm
    have eP : P.drop i = x.P := congrArg SP.P e
    rw [← eP, List.length_drop]; omega
set_option maxRecDepth 100000 in
set_option maxHeartbeats 8000000 in
theorem exactSealMake_walk (f b : Int) (a : Option Addr) (n c : Nat) (P : List Int) (l : Int) (d : Option Addr) (m e : Nat) (M : List Int) (tt : Int) (w : World)
    (hP : IntA w a P) (hM : IntA w d M) (hn : n = P.length) (hm : m = M.length) (hcP : n ≤ c) (hcM : m ≤ e) (hnl : n ≤ 9223372036854775807) (hml : m ≤ 9223372036854775807) (_ : (Lit.int .i64 tt).wf = true) (p : Addr) (hE : EV w p) (_ : True) :
    Calls Tryd.prog 12 #[.agg #[.int .i64 f, .int .i64 b, .slice a n c, .int .i64 l, .slice d m e], .int .i64 tt] w fun e w' => e = .returned (.bool true) ∧ Below w.heap.size w w' := by
  subst hn hm
  obtain ⟨W, hW⟩ : ∃ W, w.alloc (.cells #[.int .i64 f, .int .i64 b, .slice a P.length c, .int .i64 l, .slice d M.length e] 58) = W := ⟨_, rfl⟩
  have hb : Below w.heap.size w W := by rw [← hW]; exact (Below.refl _ _).alloc (Nat.le_refl _) _
  have HB0 := Lib.hid hb
  have HPM := Lib.hid (And.intro (hP.below hb) (hM.below hb))
  have HE := Lib.hid (hE.below hb)
  have HX := Lib.hid (show AtY W w.heap.size [.int .i64 f, .int .i64 b, .slice a P.length c, .int .i64 l, .slice d M.length e] by rw [← hW]; exact AtY.new5 w _ _ _ _ _ _)
  clear hb hP hM hE
  obtain ⟨q0, q1, q2, q3, q4⟩ := HX.out.five
  by_cases hfit : (P.length : Int) + M.length ≤ 1048576
  case neg =>
    go_enter Tryd.func12, Tryd.ntmps12
    have hz3 := szR_neg (left := 1048576) (n := P.length) (m := M.length) (by omega)
    go_wp2_with fail
    refine (szrt_is f b l a d _ c _ e hz3 (by omega) (by omega) hnl hml _).mono ?_
    rintro en w2 ⟨rfl, b2⟩
    have H2 := Lib.hid (next HB0.out b2)
    clear b2
    go_wp2_with fail
    go_ret
    exact ⟨rfl, H2.out⟩
  go_enter Tryd.func12, Tryd.ntmps12
  have hz3 := szR_pos hfit
  obtain ⟨Z3, hZ3⟩ : ∃ Z3, 1048576 - (P.length : Int) - (M.length : Int) = Z3 := ⟨_, rfl⟩
  rw [hZ3] at hz3
  have hn3 : ¬ Z3 < 0 := by omega
  have hlP : P.length ≤ 1048576 := by omega
  have hlM : M.length ≤ 1048576 := by omega
  clear hZ3 hfit
  have HR := Lib.hid (show RtM W a c P d e M from ⟨HPM.out, hcP, hcM, by omega, by omega⟩)
  go_wp2_with fail
  refine (szrt_is f b l a d _ c _ e hz3 (by omega) (by omega) hnl hml _).mono ?_
  rintro en w1 ⟨rfl, b1⟩
  have H1 := Lib.hid b1
  have X1 := Lib.hid (HX.out.below b1)
  clear b1 q0 q1 q2 q3 q4 hz3
  obtain ⟨q0, q1, q2, q3, q4⟩ := X1.out.five
  go_wp2_with fail
  refine (trt_at f b a c P l d e M _ (HR.out.below H1.out) hlP hlM).mono ?_
  rintro en w2 ⟨a2, c2, d2, e2, rfl, hR2, b2⟩
  have H2 := Lib.hid (next H1.out b2)
  have R2 := Lib.hid hR2
  clear hR2 b2 q0 q1 q2 q3 q4
  obtain ⟨Q, hQ⟩ : ∃ Q, makeS f b P l M tt = Q := ⟨_, rfl⟩
  have HQ := Lib.hid hQ
  clear hQ
  go_wp2_with fail
  refine (ssealmake_is f b a2 c2 P l d2 e2 M tt HQ.out _ R2.out).mono ?_
  rintro en w3 ⟨v0, L0, rfl, hR3, hQ3, hs3, b3⟩
  obtain ⟨la0, lc0, rfl, _⟩ := OwnSl.tab hR3.row
  have H3 := Lib.hid (next H2.out b3)
  have S3 := Lib.hid (SlR.sla hR3 (fun x hx => by have := hs3 x hx; omega))
  have Q0 := Lib.hid hQ3
  have X3 := Lib.hid (HX.out.below H3.out)
  have SM0 := Lib.hid (make_small (hQ3.trans HQ.out.symm))
  clear hR3 hQ3 hs3 b3
  obtain ⟨q0, q1, q2, q3, q4⟩ := X3.out.five
  go_wp2_with fail
  refine (trt_own f b a c P l d e M _ (HR.out.below H3.out) hlP hlM).mono ?_
  rintro en w4 ⟨a4, c4, d4, e4, rfl, o1, o2, hap, b4⟩
  have H4 := Lib.hid (next H3.out b4)
  have B34 := Lib.hid b4
  have O1 := Lib.hid o1
  have O2 := Lib.hid o2
  have HAP := Lib.hid hap
  clear o1 o2 hap b4 q0 q1 q2 q3 q4
  obtain ⟨w5, hw5⟩ : ∃ W, w4.alloc (.cells #[.int .i64 f, .int .i64 b, .slice a4 P.length c4, .int .i64 l, .slice d4 M.length e4] 27) = W := ⟨_, rfl⟩
  have b5 : Below w4.heap.size w4 w5 := by rw [← hw5]; exact (Below.refl _ _).alloc (Nat.le_refl _) _
  have Y5 := Lib.hid (show AtY w5 w4.heap.size [.int .i64 f, .int .i64 b, .slice a4 P.length c4, .int .i64 l, .slice d4 M.length e4] by rw [← hw5]; exact AtY.new5 w4 _ _ _ _ _ _)
  have H5 := Lib.hid (next H4.out b5)
  have B35 := Lib.hid (next B34.out b5)
  have P5 := Lib.hid (owni_later O1.out b5)
  have M5 := Lib.hid (owni_later O2.out b5)
  clear b5
  obtain ⟨q0, q1, q2, q3, q4⟩ := Y5.out.five
  go_wp2_with fail
  refine (isealmake_is f b a4 c4 P l d4 e4 M tt HQ.out _ p (rtm_own P5.out M5.out (by omega) (by omega)) (HE.out.below H5.out)).mono ?_
  rintro en w6 ⟨v1, L1, rfl, hR6, hQ6, hs6, b6⟩
  obtain ⟨la1, lc1, rfl, _⟩ := OwnSl.tab hR6.row
  have H6 := Lib.hid (next H5.out b6)
  have B36 := Lib.hid (next B35.out b6)
  have P6 := Lib.hid (owni_later P5.out b6)
  have M6 := Lib.hid (owni_later M5.out b6)
  have Y6 := Lib.hid (Y5.out.below b6)
  have G6 := Lib.hid hR6
  have Q1 := Lib.hid (hQ6.trans Q0.out.symm)
  have SM1 := Lib.hid (make_small (hQ6.trans HQ.out.symm))
  have z6 := Lib.hid b6.size
  have LT5 := Lib.hid (And.intro P5.out.lt M5.out.lt)
  clear hR6 hQ6 hs6 b6 q0 q1 q2 q3 q4
  have hl1 : L1.length ≤ 5 := SM1.out.1
  go_wp2_with fail
  refine (eqsls_is L1 L0 _ _ _ _ _ _ _ rfl rfl (SlR.sla G6.out (fun x hx => by have := SM1.out.2 x hx; omega)) (SlA.below S3.out B36.out) Q1.out (by omega)).mono ?_
  rintro en w7 ⟨rfl, b7⟩
  have H7 := Lib.hid (next H6.out b7)
  have B37 := Lib.hid (next B36.out b7)
  have P7 := Lib.hid (owni_later P6.out b7)
  have M7 := Lib.hid (owni_later M6.out b7)
  have Y7 := Lib.hid (Y6.out.below b7)
  have G7 := Lib.hid (G6.out.later b7)
  have z7 := Lib.hid (Nat.le_trans z6.out b7.size)
  have X7 := Lib.hid (HX.out.below H7.out)
  clear b7
  go_upto_region 10 with fail
  go_cut [35] from 31 (fun v wx => v = .bool false ∧ Hid (Below w7.heap.size w7 wx))
  case first =>
    refine wp_region_held_drew (S := fun Wx => ((Wx.cell? ⟨w.heap.size, 0, none⟩ = some (.int .i64 f) ∧ Wx.cell? ⟨w.heap.size, 1, none⟩ = some (.int .i64 b) ∧ Wx.cell? ⟨w.heap.size, 2, none⟩ = some (.slice a P.length c) ∧ Wx.cell? ⟨w.heap.size, 3, none⟩ = some (.int .i64 l) ∧ Wx.cell? ⟨w.heap.size, 4, none⟩ = some (.slice d M.length e)) ∧ Wx.cell? ⟨w4.heap.size, 0, none⟩ = some (.int .i64 f) ∧ Wx.cell? ⟨w4.heap.size, 1, none⟩ = some (.int .i64 b) ∧ Wx.cell? ⟨w4.heap.size, 2, none⟩ = some (.slice a4 P.length c4) ∧ Wx.cell? ⟨w4.heap.size, 3, none⟩ = some (.int .i64 l) ∧ Wx.cell? ⟨w4.heap.size, 4, none⟩ = some (.slice d4 M.length e4)) ∧ Hid (Below W.heap.size W Wx ∧ Below w7.heap.size w7 Wx)) (by kernel_rfl) ?_ (fun hHeld => ?_)
    · exact ⟨⟨X7.out.five, Y7.out.five⟩, Lib.hid ⟨H7.out.drew, (Below.refl _ w7).drew⟩⟩
    refine takeH (i := 0) (v := ?_) rfl rfl (by kernel_rfl) (by kernel_rfl) (by kernel_rfl) (fun _ _ _ h => h) (by rfl) ?_ (by assumption) ?_
    rotate_left 1
    · intro w hSw
      (try dsimp only at hSw)
      go_simp
      try with_reducible rfl
    try simp only [List.setIfInBounds_toArray, List.set_cons_zero, List.set_cons_succ]
    refine takeH (i := 1) (v := ?_) rfl rfl (by kernel_rfl) (by kernel_rfl) (by kernel_rfl) (fun _ _ _ h => h) (by rfl) ?_ (by assumption) ?_
    rotate_left 1
    · intro w hSw
      (try dsimp only at hSw)
      go_simp
      try with_reducible rfl
    try simp only [List.setIfInBounds_toArray, List.set_cons_zero, List.set_cons_succ]
    refine wpAnyH_ready (rs := [2]) (by kernel_rfl) (by simp) ?_
    refine AllReadyH.cons rfl (fun K hK => ?_) (AllReadyH.nil)
    go_simp
    refine (trt_at f b a c P l d e M _ (HR.out.below hHeld.2.out.1) hlP hlM).mono ?_
    rintro en wc ⟨sa, sc, sd, se, rfl, hR, bc⟩
    have T3 := Lib.hid (And.intro hR (RtM.below (rtm_own P7.out M7.out (by omega) (by omega)) (next hHeld.2.out.2 bc)))
    clear hR
    go_wp2_with fail
    refine hK.out _ _ ?_ (fun hNew => ?_)
    · exact ⟨⟨⟨cell_later bc hHeld.1.1.1, cell_later bc hHeld.1.1.2.1, cell_later bc hHeld.1.1.2.2.1, cell_later bc hHeld.1.1.2.2.2.1, cell_later bc hHeld.1.1.2.2.2.2⟩, cell_later bc hHeld.1.2.1, cell_later bc hHeld.1.2.2.1, cell_later bc hHeld.1.2.2.2.1, cell_later bc hHeld.1.2.2.2.2.1, cell_later bc hHeld.1.2.2.2.2.2⟩, Lib.hid ⟨next hHeld.2.out.1 bc, next hHeld.2.out.2 bc⟩⟩
    clear hK K hHeld
    have hHeld := hNew
    clear hNew
    try simp only [Act.put, List.setIfInBounds_toArray, List.set_cons_zero, List.set_cons_succ]
    refine wpAnyH_ready (rs := [3]) (by kernel_rfl) (by simp) ?_
    refine AllReadyH.cons rfl (fun K hK => ?_) (AllReadyH.nil)
    go_simp
    refine (eqrt_is f b _ _ P l _ _ M f b _ _ P l _ _ M (x := true) (by simp) _ T3.out.2 T3.out.1).mono ?_
    rintro en wc ⟨rfl, bc⟩
    go_wp2_with fail
    refine hK.out _ _ ?_ (fun hNew => ?_)
    · exact ⟨⟨⟨cell_later bc hHeld.1.1.1, cell_later bc hHeld.1.1.2.1, cell_later bc hHeld.1.1.2.2.1, cell_later bc hHeld.1.1.2.2.2.1, cell_later bc hHeld.1.1.2.2.2.2⟩, cell_later bc hHeld.1.2.1, cell_later bc hHeld.1.2.2.1, cell_later bc hHeld.1.2.2.2.1, cell_later bc hHeld.1.2.2.2.2.1, cell_later bc hHeld.1.2.2.2.2.2⟩, Lib.hid ⟨next hHeld.2.out.1 bc, next hHeld.2.out.2 bc⟩⟩
    clear hK K hHeld
    have hHeld := hNew
    clear hNew
    try simp only [Act.put, List.setIfInBounds_toArray, List.set_cons_zero, List.set_cons_succ]
    refine takeH (i := 4) (v := ?_) rfl rfl (by kernel_rfl) (by kernel_rfl) (by kernel_rfl) (fun _ _ _ h => h) (by rfl) ?_ (by assumption) ?_
    rotate_left 1
    · intro w hSw
      (try dsimp only at hSw)
      go_simp
      try with_reducible rfl
    try simp only [List.setIfInBounds_toArray, List.set_cons_zero, List.set_cons_succ]
    refine wpAnyH_done (by kernel_rfl) ?_ _
    have HF := Lib.hid hHeld.2.out.2
    clear hHeld
    go_wp2_with fail
    go_meet
    exact ⟨rfl, HF⟩
  case rest =>
    obtain ⟨rfl, HC⟩ := hcut
    obtain ⟨w8, hw8⟩ : ∃ W, W = wc := ⟨_, rfl⟩
    subst hw8
    have H8 := Lib.hid (next H7.out HC.out)
    have B38 := Lib.hid (next B37.out HC.out)
    have P8 := Lib.hid (owni_later P7.out HC.out)
    have M8 := Lib.hid (owni_later M7.out HC.out)
    have Y8 := Lib.hid (Y7.out.below HC.out)
    have G8 := Lib.hid (G7.out.later HC.out)
    have z8 := Lib.hid (Nat.le_trans z7.out HC.out.size)
    clear HC G7 Y7 M7 P7 G6 Y6 M6 P6
    obtain ⟨q0, q1, q2, q3, q4⟩ := Y8.out.five
    go_wp2_with fail
    refine (markrt_any f b l a4 d4 c4 e4 P M _ _ _ P8.out M8.out HAP.out (by omega) (by omega)).mono ?_
    rintro en w9 ⟨rfl, _, _, WA, WB, bA, gB, gC⟩
    have G9 := Lib.hid (SlR.opt (SlR.opt (G8.out.later bA) gB (fun k hk => (LT5.out.1 k hk).2)) gC (fun k hk => (LT5.out.2 k hk).2))
    have z9 := Lib.hid (Nat.le_trans z8.out (Nat.le_trans bA.size (Nat.le_trans gB.size gC.size)))
    have lo1 : ∀ k, (Value.slice a4 P.length c4).ownBlock = some k → w3.heap.size ≤ k := fun k hk => (LT5.out.1 k hk).1
    have lo2 : ∀ k, (Value.slice d4 M.length e4).ownBlock = some k → w3.heap.size ≤ k := fun k hk => (LT5.out.2 k hk).1
    have bx1 := next B38.out bA
    have bx2 := bx1.grown gB bx1.size lo1
    have B39 := Lib.hid (bx2.grown gC bx2.size lo2)
    clear bx1 bx2
    have H9 := Lib.hid (next H3.out B39.out)
    clear bA gB gC lo1 lo2 q0 q1 q2 q3 q4
    have hnn : ¬ (((1 + P.length + M.length : Nat)) : Int) < 0 := by omega
    generalize hkk : 1 + P.length + M.length = kk at *
    go_wp2_with fail
    refine (eqsls_is L1 L0 _ _ _ _ _ _ _ rfl rfl (SlR.sla G9.out (fun x hx => by have := SM1.out.2 x hx; omega)) (SlA.below S3.out B39.out) Q1.out (by omega)).mono ?_
    rintro en wA ⟨rfl, bA⟩
    have HA1 := Lib.hid (next H9.out bA)
    have B3A := Lib.hid (next B39.out bA)
    have GA := Lib.hid (G9.out.later bA)
    have zA := Lib.hid (Nat.le_trans z9.out bA.size)
    clear bA
    obtain ⟨kn, hkn⟩ : ∃ kn : Nat, mkSn 1 L1 = kn := ⟨_, rfl⟩
    have HKN := Lib.hid hkn
    clear hkn
    go_wp2_with fail
    refine (marksls_any 1 (by omega) _ L1 w5.heap.size _ GA.out (by omega) (fun x hx => by have := SM1.out.2 x hx; omega) zA.out).mono ?_
    rintro en wB ⟨rfl, hG, bm⟩
    rw [HKN.out]
    have GB := Lib.hid (SlR.sla hG (mkSs_small (fun x hx => by have := SM1.out.2 x hx; omega)))
    have B3B := Lib.hid (B3A.out.trans (bm.mono B35.out.size))
    have HB1 := Lib.hid (next H3.out B3B.out)
    clear hG bm
    have hkn0 : ¬ ((kn : Nat) : Int) < 0 := by omega
    have hkn1 : (((kn : Nat) : Int) != ((kn : Nat) : Int)) = false := by simp
    go_wp2_with fail
    refine (heldsls_any 1 (by omega) L1 _ _ _ _ rfl GB.out (by omega) (fun x hx => by have := SM1.out.2 x hx; omega)).mono ?_
    rintro en wq ⟨rfl, rfl⟩
    rw [HKN.out]
    have XB := Lib.hid (HX.out.below HB1.out)
    obtain ⟨q0, q1, q2, q3, q4⟩ := XB.out.five
    go_wp2_with fail
    refine (trt_at f b a c P l d e M _ (HR.out.below HB1.out) hlP hlM).mono ?_
    rintro en wC ⟨aC, cC, dC, eC, rfl, hRC, bC⟩
    have HC1 := Lib.hid (next HB1.out bC)
    have RC := Lib.hid hRC
    have B3C := Lib.hid (next B3B.out bC)
    have GC := Lib.hid (SlA.below GB.out bC)
    clear hRC bC q0 q1 q2 q3 q4
    go_wp2_with fail
    refine (isealmake_is f b aC cC P l dC eC M tt HQ.out _ p RC.out (HE.out.below HC1.out)).mono ?_
    rintro en wD ⟨v2, L2, rfl, hRD, hQD, hsD, bD⟩
    obtain ⟨la2, lc2, rfl, _⟩ := OwnSl.tab hRD.row
    have HD1 := Lib.hid (next HC1.out bD)
    have B3D := Lib.hid (next B3C.out bD)
    have GD := Lib.hid (SlA.below GC.out bD)
    have SD := Lib.hid (SlR.sla hRD (fun x hx => by have := hsD x hx; omega))
    have QD := Lib.hid (hQD.trans Q0.out.symm)
    have SMD := Lib.hid (make_small (hQD.trans HQ.out.symm))
    clear hRD hQD hsD bD
    have hl2 : L2.length ≤ 5 := SMD.out.1
    go_wp2_with fail
    refine (eqsls_is L2 L0 _ _ _ _ _ _ _ rfl rfl SD.out (SlA.below S3.out B3D.out) QD.out (by omega)).mono ?_
    rintro en wE ⟨rfl, bE⟩
    have HE1 := Lib.hid (next HD1.out bE)
    have GE := Lib.hid (SlA.below GD.out bE)
    clear bE
    go_wp2_with fail
    refine (heldsls_any 1 (by omega) L1 _ _ _ _ rfl GE.out (by omega) (fun x hx => by have := SM1.out.2 x hx; omega)).mono ?_
    rintro en wq ⟨rfl, rfl⟩
    rw [HKN.out]
    go_wp2_with fail
    go_ret
    exact ⟨rfl, next HB0.out HE1.out⟩
end Go.Proofs.YtnnmgbgkgnejlaaDoor
