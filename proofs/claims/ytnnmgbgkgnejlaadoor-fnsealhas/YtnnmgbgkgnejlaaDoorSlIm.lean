/-
  The program's SealMake.
-/
import Derived.Test.YtnnmgbgkgnejlaaDoorSlKq
import Derived.Test.YtnnmgbgkgnejlaaDoorSlAp
import Derived.Test.YtnnmgbgkgnejlaaDoorSlHd
import Derived.Test.YtnnmgbgkgnejlaaDoorSlMk
namespace Go.Proofs.YtnnmgbgkgnejlaaDoor
open Go.RowKit
set_option linter.unusedSimpArgs false
set_option linter.unusedVariables false

theorem slr_nil (w : World) (R : Nat) : SlR w R (.slice none 0 0) [] := ⟨World.ownsRow_nil _ _ _ _, (fun x hx => by cases hx), List.Pairwise.nil⟩
theorem whom_next {t0 h : Int} {P : List Int} {I : Nat} (hh : P[I]? = some h) : whomAt t0 P (I + 1) = h := by
  rw [whomAt, if_neg (by omega)]; simp [List.getD, hh]
abbrev rCells (f b : Int) (a : Option Addr) (n c : Nat) (l : Int) (d : Option Addr) (m e : Nat) : Obj := .cells #[.int .i64 f, .int .i64 b, .slice a n c, .int .i64 l, .slice d m e] 27
/-- what the loop of SealMake keeps -/
structure MkQ (w wr : World) (f b : Int) (a : Option Addr) (c : Nat) (P : List Int) (l : Int) (d : Option Addr) (e : Nat) (M : List Int) (tt : Int) (I : Nat) (s : Value) (L : List SV) : Prop where
  row : SlR wr (w.heap.size + 1) s L
  seals : sealsP L = (sealsOf f b tt P).take I
  small : ∀ x ∈ L, x.P.length ≤ P.length
  box : AtY wr w.heap.size [.int .i64 f, .int .i64 b, .slice a P.length c, .int .i64 l, .slice d M.length e]
  path : IntA wr a P
  bel : Below w.heap.size w wr
  big : w.heap.size + 1 ≤ wr.heap.size
/-- slices.Clone of ints -/
theorem clone_is (pb po n c : Nat) (D : List Int) (w : World) (hn : n ≤ D.length) (hl : n ≤ 2000000) (hA : IntA w (some ⟨pb, po, none⟩) D) (hD : D.length ≤ n) :
    Calls Tryd.prog 57 #[.slice (some ⟨pb, po, none⟩) n c] w fun e w' => ∃ (a' : Option Addr) (c' : Nat), e = .returned (.slice a' D.length c') ∧ OwnI w' w.heap.size (.slice a' D.length c') D ∧ Below w.heap.size w w' := by
  obtain rfl : n = D.length := by omega
  have hc : ∀ j, j < D.length → w.cell? ⟨pb, po + j, none⟩ = some (.int .i64 (D.getD j 0)) := fun j hj => by
    obtain ⟨b0, o0, x, e0, hx, c0⟩ := hA.at hj
    obtain ⟨rfl, rfl⟩ : pb = b0 ∧ po = o0 := by simpa using e0
    rw [c0]; simp [List.getD, hx]
  refine (Tryd.slices_Clone_int pb po D.length c D w (Nat.le_refl _) (by omega) hc).mono ?_
  rintro e w' ⟨v', rfl, ho, _, hb⟩
  rw [List.take_length] at ho
  have ho' : OwnI w' w.heap.size v' D := ho
  obtain ⟨a', c', rfl, _, _⟩ := OwnI.tab ho'
  exact ⟨a', c', rfl, ho', hb⟩
theorem mkq_step {w wr w6 w7 : World} {f b l tt h wm : Int} {a : Option Addr} {c : Nat} {P M : List Int} {d : Option Addr} {e I : Nat} {ta : Option Addr} {tc : Nat} {L : List SV} {D : List Int} {a5 a7 : Option Addr} {c5 c7 : Nat}
    (hS : MkQ w wr f b a c P l d e M tt I (.slice ta L.length tc) L) (hT : (sealsOf f b tt P).take (I + 1) = (sealsOf f b tt P).take I ++ [sealAt f b tt P I]) (hD : P.drop I = D) (hh : P[I]? = some h) (hm : whomAt tt P I = wm)
    (hb : Below wr.heap.size wr w6) (hI : IntA w a P) (hR : SlR w6 (w.heap.size + 1) (.slice ta L.length tc) L) (ho : OwnI w6 wr.heap.size (.slice a5 (D).length c5) (D))
    {L2 : List SV} (hL2 : L ++ [(⟨h, wm, f, b, a5, c5, D⟩ : SV)] = L2) (own : OwnSl w7 (w.heap.size + 1) (.slice a7 L2.length c7) L2) (gr : w6.grownBy w7 (Value.slice ta L.length tc).ownBlock) :
    MkQ w w7 f b a c P l d e M tt (I + 1) (.slice a7 L2.length c7) L2 := by
  subst hD hL2
  have hlo : ∀ k, (Value.slice ta L.length tc).ownBlock = some k → w.heap.size + 1 ≤ k := fun k hk => (World.ownsRow.lt hR.row k hk).1
  have hb6 := next hS.bel hb
  have hb7 : Below w.heap.size w w7 := hb6.grown gr hb6.size (fun k hk => by have := hlo k hk; omega)
  refine ⟨SlR.app hR hS.big (SlR.lt hS.row) ho own gr, ?_, fun x hx => ?_, (hS.box.below hb).only gr (fun q => by have := hlo _ q.symm; omega), hI.below hb7, hb7, by have := hS.big; have := hb.size; have := gr.size; omega⟩
  · rw [hT, sealsP, List.map_append, List.map_cons, List.map_nil]
    have e1 : sealAt f b tt P I = ⟨h, wm, f, b, P.drop I⟩ := by simp [sealAt, hm, List.getD, hh]
    rw [e1]
    exact congrArg (· ++ _) hS.seals
  · rcases List.mem_append.1 hx with k | k
    · exact hS.small x k
    · obtain rfl := List.mem_singleton.1 k
      simp
set_option maxRecDepth 100000 in
set_option maxHeartbeats 4000000 in
theorem isealmake_is (f b : Int) (a : Option Addr) (c : Nat) (P : List Int) (l : Int) (d : Option Addr) (e : Nat) (M : List Int) (tt : Int) {Q : List SP} (hQ : makeS f b P l M tt = Q) (w : World) (p : Addr) (hm : RtM w a c P d e M) (hE : EV w p) :
    Calls Tryd.prog 17 #[.agg #[.int .i64 f, .int .i64 b, .slice a P.length c, .int .i64 l, .slice d M.length e], .int .i64 tt] w (MkEnd w Q P.length) := by
  have HX := Lib.hid hQ
  have hPl := hm.2.2.2.1
  have hPc := hm.2.1
  have hb := (Below.refl w.heap.size w).alloc (Nat.le_refl _) (rCells f b a P.length c l d M.length e)
  have BX := Lib.hid (AtY.new5 w (.int .i64 f) (.int .i64 b) (.slice a P.length c) (.int .i64 l) (.slice d M.length e) 27)
  have HB := Lib.hid hb
  have HIP := Lib.hid hm.1.1
  have HM := Lib.hid (hm.below hb)
  have HE := Lib.hid (hE.below hb)
  obtain ⟨W, hW⟩ : ∃ W, w.alloc (.cells #[.int .i64 f, .int .i64 b, .slice a P.length c, .int .i64 l, .slice d M.length e] 27) = W := ⟨_, rfl⟩
  have HWs := Lib.hid (show W.heap.size = w.heap.size + 1 by rw [← hW]; simp)
  unfold rCells at HB HM HE
  rw [hW] at BX HB HM HE
  obtain ⟨q0, q1, q2, q3, q4⟩ := BX.out.five
  clear hQ hb
  go_enter Tryd.func17, Tryd.ntmps17
  go_wp2_with fail
  cases ho : rtOk (f, b, P, l, M) with
  | false =>
    have HZ := Lib.hid (show [] = Q by rw [← HX.out, makeS, tellB, ho]; rfl)
    refine (riok_is f b a c P l d e M ho _ p HM.out HE.out).mono ?_
    rintro en w1 ⟨rfl, b1⟩
    have HB1 := Lib.hid (next HB.out b1)
    clear b1
    go_wp2_with fail
    go_ret
    exact ⟨_, [], rfl, slr_nil _ _, HZ.out, fun x hx => (by cases hx), HB1.out⟩
  | true =>
    refine (riok_is f b a c P l d e M ho _ p HM.out HE.out).mono ?_
    rintro en w1 ⟨rfl, b1⟩
    have hs1 := Lib.hid b1.size
    have HB1 := Lib.hid (next HB.out b1)
    have BX1 := Lib.hid (BX.out.below b1)
    have HM1 := Lib.hid (HM.out.below b1)
    have HE1 := Lib.hid (HE.out.below b1)
    have HPt := Lib.hid ((rtOk_iff _).1 ho).path
    clear b1 q0 q1 q2 q3 q4 BX HM HE hW
    obtain ⟨q0, q1, q2, q3, q4⟩ := BX1.out.five
    cases hh : isH tt with
    | false =>
      have HZ := Lib.hid (show [] = Q by rw [← HX.out, makeS, tellB, ho, hh]; rfl)
      clear ho
      go_wp2_with fail
      refine (ihouse_is hh _).mono ?_
      rintro en wq ⟨rfl, rfl⟩
      go_wp2_with fail
      go_ret
      exact ⟨_, [], rfl, slr_nil _ _, HZ.out, fun x hx => (by cases hx), HB1.out⟩
    | true =>
      have HO := Lib.hid ho
      clear ho
      go_wp2_with fail
      refine (ihouse_is hh _).mono ?_
      rintro en wq ⟨rfl, rfl⟩
      go_wp2_with fail
      cases hp : decide (tt ∈ P) with
      | true =>
        have HZ := Lib.hid (show [] = Q by rw [← HX.out, makeS, tellB, HO.out, hh, hp]; rfl)
        refine (pihas_is (show pHas P tt = true by rw [pHas_yes HPt.out, hp]) a c _ _ p rfl (by omega) HM1.out.1.1 HE1.out).mono ?_
        rintro en wq ⟨rfl, bq⟩
        have HB2 := Lib.hid (next HB1.out bq)
        clear bq
        go_wp2_with fail
        go_ret
        exact ⟨_, [], rfl, slr_nil _ _, HZ.out, fun x hx => (by cases hx), HB2.out⟩
      | false =>
        have HZ := Lib.hid (show sealsOf f b tt P = Q by rw [← HX.out, makeS, tellB, HO.out, hh, hp]; rfl)
        refine (pihas_is (show pHas P tt = false by rw [pHas_yes HPt.out, hp]) a c _ _ p rfl (by omega) HM1.out.1.1 HE1.out).mono ?_
        rintro en w2 ⟨rfl, bq⟩
        have H0 := Lib.hid (show MkQ w w2 f b a c P l d e M tt 0 (.slice none 0 0) [] from ⟨slr_nil _ _, rfl, (fun x hx => by cases hx), BX1.out.below bq, HM1.out.1.1.below bq, next HB1.out bq, by have := HWs.out; have := hs1.out; have := bq.size; omega⟩)
        clear hh hp bq q0 q1 q2 q3 q4 BX1 HM1 HE1 HB1
        obtain ⟨q0, q1, q2, q3, q4⟩ := H0.out.box.five
        go_wp2_with fail
        go_loopw [5, 6, 27] (fun s t i wr => ∃ (I : Nat) (L : List SV), I ≤ P.length ∧ i = .int .i64 I ∧ t = .int .i64 (whomAt tt P I) ∧ Hid (L.length = I) ∧ Hid (MkQ w wr f b a c P l d e M tt I s L)) (fun _ _ i _ => P.length - (intOf i).toNat)
        case atStart => exact ⟨0, [], Nat.zero_le _, rfl, rfl, Lib.hid rfl, H0⟩
        case round =>
          clear H0 q0 q1 q2 q3 q4
          obtain ⟨I, L, hI, rfl, rfl, lL, HS⟩ := hrel
          by_cases hlt : I < P.length
          · obtain ⟨ta, tc, rfl, _⟩ := OwnSl.tab HS.out.row.row
            obtain ⟨pb, po, h, rfl, hh, c0⟩ := HS.out.path.at hlt
            have HH := Lib.hid hh
            have HTK := Lib.hid (seals_take (f := f) (b := b) (t := tt) hlt)
            have HWN := Lib.hid (whom_next (t0 := tt) hh)
            have i0 : (0 : Int) ≤ (I : Int) := by omega
            have i1 : (I : Int) < (P.length : Int) := by omega
            have i2 : (I : Int) ≤ (P.length : Int) := by omega
            have i3 : (I : Int) ≤ (c : Int) := by omega
            have hic : P.length - I ≤ c - I := by omega
            have hci : ¬ c = I := by omega
            obtain ⟨wm, hwm⟩ : ∃ wm, whomAt tt P I = wm := ⟨_, rfl⟩
            have HWM := Lib.hid hwm
            rw [hwm]
            obtain ⟨q0, q1, q2, q3, q4⟩ := HS.out.box.five
            obtain ⟨D, hD⟩ : ∃ D, P.drop I = D := ⟨_, rfl⟩
            have HD := Lib.hid hD
            have HDl := Lib.hid (show D.length = P.length - I by rw [← hD]; simp)
            have HPA := Lib.hid (by have h5 := IntA.drop HS.out.path I; rw [hD] at h5; exact h5)
            clear hD
            clear hh hwm
            go_upto_region 8 with fail
            have HQ := Lib.hid (And.intro q0 (And.intro q1 (And.intro q2 (And.intro q3 q4))))
            clear q0 q1 q2 q3 q4 c0
            refine wp_region_held_drew (S := fun Wx => (Wx.cell? ⟨w.heap.size, 0, none⟩ = some (.int .i64 f) ∧ Wx.cell? ⟨w.heap.size, 1, none⟩ = some (.int .i64 b) ∧ Wx.cell? ⟨w.heap.size, 2, none⟩ = some (.slice (some ⟨pb, po, none⟩) P.length c) ∧ Wx.cell? ⟨w.heap.size, 3, none⟩ = some (.int .i64 l) ∧ Wx.cell? ⟨w.heap.size, 4, none⟩ = some (.slice d M.length e)) ∧ Hid True) (by kernel_rfl) ?_ (fun hHeld => ?_)
            · exact ⟨HQ.out, Lib.hid trivial⟩
            refine takeH (i := 0) (v := ?_) rfl rfl (by kernel_rfl) (by kernel_rfl) (by kernel_rfl) (fun _ _ _ h => h) (by rfl) ?_ (by assumption) ?_
            rotate_left 1
            · intro w hSw
              (try dsimp only at hSw)
              go_simp
              try with_reducible rfl
            try simp only [List.setIfInBounds_toArray, List.set_cons_zero, List.set_cons_succ]
            refine takeH (i := 1) (v := ?_) rfl rfl (by kernel_rfl) (by kernel_rfl) (by kernel_rfl) (fun _ _ _ h => h) (by rfl) ?_ (by assumption) ?_
            rotate_left 1
            · intro w hSw
              (try dsimp only at hSw)
              go_simp
              try with_reducible rfl
            try simp only [List.setIfInBounds_toArray, List.set_cons_zero, List.set_cons_succ]
            refine takeH (i := 2) (v := ?_) rfl rfl (by kernel_rfl) (by kernel_rfl) (by kernel_rfl) (fun _ _ _ h => h) (by rfl) ?_ (by assumption) ?_
            rotate_left 1
            · intro w hSw
              (try dsimp only at hSw)
              go_simp
              try with_reducible rfl
            try simp only [List.setIfInBounds_toArray, List.set_cons_zero, List.set_cons_succ]
            refine takeH (i := 3) (v := ?_) rfl rfl (by kernel_rfl) (by kernel_rfl) (by kernel_rfl) (fun _ _ _ h => h) (by rfl) ?_ (by assumption) ?_
            rotate_left 1
            · intro w hSw
              (try dsimp only at hSw)
              go_simp
              try with_reducible rfl
            try simp only [List.setIfInBounds_toArray, List.set_cons_zero, List.set_cons_succ]
            refine takeH (i := 4) (v := ?_) rfl rfl (by kernel_rfl) (by kernel_rfl) (by kernel_rfl) (fun _ _ _ h => h) (by rfl) ?_ (by assumption) ?_
            rotate_left 1
            · intro w hSw
              (try dsimp only at hSw)
              go_simp
              try with_reducible rfl
            try simp only [List.setIfInBounds_toArray, List.set_cons_zero, List.set_cons_succ]
            refine takeH (i := 5) (v := ?_) rfl rfl (by kernel_rfl) (by kernel_rfl) (by kernel_rfl) (fun _ _ _ h => h) (by rfl) ?_ (by assumption) ?_
            rotate_left 1
            · intro w hSw
              (try dsimp only at hSw)
              go_simp
              try with_reducible rfl
            try simp only [List.setIfInBounds_toArray, List.set_cons_zero, List.set_cons_succ]
            refine takeH (i := 6) (v := ?_) rfl rfl (by kernel_rfl) (by kernel_rfl) (by kernel_rfl) (fun _ _ _ h => h) (by rfl) ?_ (by assumption) ?_
            rotate_left 1
            · intro w hSw
              (try dsimp only at hSw)
              go_simp
              try with_reducible rfl
            try simp only [List.setIfInBounds_toArray, List.set_cons_zero, List.set_cons_succ]
            refine takeH (i := 7) (v := ?_) rfl rfl (by kernel_rfl) (by kernel_rfl) (by kernel_rfl) (fun _ _ _ h => h) (by rfl) ?_ (by assumption) ?_
            rotate_left 1
            · intro w hSw
              (try dsimp only at hSw)
              go_simp
              try with_reducible rfl
            try simp only [List.setIfInBounds_toArray, List.set_cons_zero, List.set_cons_succ]
            refine takeH (i := 8) (v := ?_) rfl rfl (by kernel_rfl) (by kernel_rfl) (by kernel_rfl) (fun _ _ _ h => h) (by rfl) ?_ (by assumption) ?_
            rotate_left 1
            · intro w hSw
              (try dsimp only at hSw)
              go_simp
              try with_reducible rfl
            try simp only [List.setIfInBounds_toArray, List.set_cons_zero, List.set_cons_succ]
            refine wpAnyH_ready (rs := [9]) (by kernel_rfl) (by simp) ?_
            refine AllReadyH.cons rfl (fun K hK => ?_) (AllReadyH.nil)
            go_simp
            refine (clone_is pb (po + I) (P.length - I) (c - I) D _ (by have := HDl.out; omega) (by omega) (HPA.out.below (Below.refl _ wr).drew) (by have := HDl.out; omega)).mono ?_
            rintro en w5 ⟨a5, c5, rfl, o5, b5⟩
            have HO5 := Lib.hid (show OwnI w5 wr.heap.size (.slice a5 D.length c5) D from o5)
            have HB5 := Lib.hid (next ((Below.refl wr.heap.size wr).drew) b5)
            have HR5 := Lib.hid (HS.out.row.later HB5.out)
            clear o5
            go_wp2_with fail
            refine hK.out _ _ ?_ (fun hNew => ?_)
            · exact ⟨⟨cell_later b5 hHeld.1.1, cell_later b5 hHeld.1.2.1, cell_later b5 hHeld.1.2.2.1, cell_later b5 hHeld.1.2.2.2.1, cell_later b5 hHeld.1.2.2.2.2⟩, Lib.hid trivial⟩
            clear hK K hHeld
            have hHeld := hNew
            clear hNew
            try simp only [Act.put, List.setIfInBounds_toArray, List.set_cons_zero, List.set_cons_succ]
            refine takeH (i := 10) (v := ?_) rfl rfl (by kernel_rfl) (by kernel_rfl) (by kernel_rfl) (fun _ _ _ h => h) (by rfl) ?_ (by assumption) ?_
            rotate_left 1
            · intro w hSw
              (try dsimp only at hSw)
              go_simp
              try with_reducible rfl
            try simp only [List.setIfInBounds_toArray, List.set_cons_zero, List.set_cons_succ]
            refine wpAnyH_ready (rs := [11]) (by kernel_rfl) (by simp) ?_
            refine AllReadyH.cons rfl (fun K hK => ?_) (AllReadyH.nil)
            go_simp
            have be6 : Below w5.heap.size w5 (w5.alloc (.cells #[.int .i64 h, .int .i64 wm, .int .i64 f, .int .i64 b, .slice a5 (D).length c5] 34)) := (Below.refl _ _).alloc (Nat.le_refl _) _
            have HO6 := Lib.hid (owni_later HO5.out be6)
            have HR6 := Lib.hid (HR5.out.later be6)
            have HN6 := Lib.hid (AtY.new5 w5 (.int .i64 h) (.int .i64 wm) (.int .i64 f) (.int .i64 b) (.slice a5 (D).length c5) 34)
            have HB6 := Lib.hid (next HB5.out be6)
            have hw5 : wr.heap.size ≤ w5.heap.size := HB5.out.size
            generalize w5.alloc (.cells #[.int .i64 h, .int .i64 wm, .int .i64 f, .int .i64 b, .slice a5 (D).length c5] 34) = w6 at *
            refine hK.out _ _ ?_ (fun hNew => ?_)
            · exact ⟨⟨cell_later be6 hHeld.1.1, cell_later be6 hHeld.1.2.1, cell_later be6 hHeld.1.2.2.1, cell_later be6 hHeld.1.2.2.2.1, cell_later be6 hHeld.1.2.2.2.2⟩, Lib.hid trivial⟩
            clear hK K hHeld
            have hHeld := hNew
            clear hNew
            try simp only [Act.put, List.setIfInBounds_toArray, List.set_cons_zero, List.set_cons_succ]
            refine wpAnyH_ready (rs := [12]) (by kernel_rfl) (by simp) ?_
            refine AllReadyH.cons rfl (fun K hK => ?_) (AllReadyH.nil)
            refine wp_appS (.tmp 32) (.tmp 43) rfl (w.heap.size + 1) (.slice ta L.length tc) L (by simp [Act.eval]) HR6.out.row (some ⟨w5.heap.size, 0, none⟩) 1 1 [⟨h, wm, f, b, a5, c5, D⟩] rfl (by simp [Act.eval]) (.inr ⟨_, 0, rfl, fun j u hj => (by rw [Nat.zero_add]; exact (HN6.out j u (by simpa [cellsSl, SV.cells] using hj)).1)⟩) (by omega) (by have := lL.out; simp; omega) (by have := HS.out.big; have := HB6.out.size; omega) ?_
            intro v7 w907 own7 grow7
            obtain ⟨L2, hL2⟩ : ∃ L2 : List SV, L ++ [(⟨h, wm, f, b, a5, c5, D⟩ : SV)] = L2 := ⟨_, rfl⟩
            have hl2 : L2.length = I + 1 := (by rw [← hL2]; simp [lL.out])
            have HL2 := Lib.hid hl2
            rw [hL2] at own7
            obtain ⟨a7, c7, rfl, _⟩ := OwnSl.tab own7
            have HF := Lib.hid (show MkQ w w907 f b (some ⟨pb, po, none⟩) c P l d e M tt (I + 1) (.slice a7 L2.length c7) L2 from mkq_step HS.out HTK.out HD.out HH.out HWM.out HB6.out HIP.out HR6.out HO6.out hL2 own7 grow7)
            clear hl2 hL2
            clear own7 grow7
            generalize hw7 : w907 = wz7 at *
            clear hw7
            show K (Act.put _ (some 44) _) wz7
            refine hK.out _ _ ?_ (fun hNew => ?_)
            · exact ⟨HF.out.box.five, Lib.hid trivial⟩
            clear hK K hHeld
            have hHeld := hNew
            clear hNew
            try simp only [Act.put, List.setIfInBounds_toArray, List.set_cons_zero, List.set_cons_succ]
            refine takeH (i := 13) (v := ?_) rfl rfl (by kernel_rfl) (by kernel_rfl) (by kernel_rfl) (fun _ _ _ h => h) (by rfl) ?_ (by assumption) ?_
            rotate_left 1
            · intro w hSw
              (try dsimp only at hSw)
              go_simp
              try with_reducible rfl
            try simp only [List.setIfInBounds_toArray, List.set_cons_zero, List.set_cons_succ]
            refine wpAnyH_done (by kernel_rfl) ?_ _
            clear hHeld
            go_wp2_with fail
            go_roundw
            case rel => exact ⟨I + 1, L2, by omega, by go_num, by rw [HWN.out], HL2, HF⟩
            case measure => (simp [intOf]; omega)
          · obtain rfl : I = P.length := by omega
            have HEE := Lib.hid (show sealsP L = Q by have h := HS.out.seals; rw [show (sealsOf f b tt P).take P.length = sealsOf f b tt P from List.take_of_length_le (by rw [sealsOf_len]; omega)] at h; rw [h, HZ.out])
            go_wp2_with fail
            go_ret
            exact ⟨_, L, rfl, HS.out.row.mono (by omega), HEE.out, HS.out.small, HS.out.bel⟩
end Go.Proofs.YtnnmgbgkgnejlaaDoor
