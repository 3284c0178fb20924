/-
  Two drawn ranges, often one in the other.
-/
import Derived.Test.YtglmoacgaacmeaaDoorDrawS
import Derived.Test.YtglmoacgaacmeaaDoorHalfS
namespace Go.Proofs.YtglmoacgaacmeaaDoor
open Go.RowKit
set_option linter.unusedSimpArgs false

theorem half_small {f b : Int} (h : halfB f b = true) (u : Bool) : Small (halfF f b u) (b + 1) := by
  obtain ⟨ho, hlt⟩ := (halfB_iff f b).1 h
  obtain ⟨b0, b8, f0, f1, hm⟩ := (okB_iff f b).1 ho
  have hs := sz_bd (b := b + 1) (by omega) (by omega)
  have key : f + sz (b + 1) ≤ 256 := by
    rcases sz_cases b0 b8 with h | h | h | h | h | h | h | h | h <;> obtain ⟨rfl, e⟩ := h <;> rw [e] at hm <;> simp [sz] <;> omega
  unfold Small halfF
  cases u
  · simp; omega
  · simp; omega

/-- while two ranges are drawn: A, C: the ranges, R, Q: where the results lie, B: the reader -/
def Tw (w : World) (A C R Q B : Nat) (f b g c : Int) (w' : World) : Prop := At w' A f b ∧ At w' C g c ∧ At w' R 0 0 ∧ At w' Q 0 0 ∧ w.grownBy w' (some B)
theorem Tw.drew {w : World} {A C R Q B : Nat} {f b g c : Int} {w' : World} (h : Tw w A C R Q B f b g c w') : Tw w A C R Q B f b g c w'.drew := ⟨h.1.drew, h.2.1.drew, h.2.2.1.drew, h.2.2.2.1.drew, only_drew h.2.2.2.2⟩
theorem Tw.below {w W w' : World} {A C R Q B : Nat} {f b g c : Int} (h : Tw w A C R Q B f b g c W) (k : Below W.heap.size W w') : Tw w A C R Q B f b g c w' :=
  ⟨h.1.below k, h.2.1.below k, h.2.2.1.below k, h.2.2.2.1.below k, only_below h.2.2.2.2 k⟩
theorem Tw.alloc {w W : World} {A C R Q B : Nat} {f b g c : Int} (h : Tw w A C R Q B f b g c W) (o : Obj) : Tw w A C R Q B f b g c (W.alloc o) :=
  ⟨h.1.alloc o, h.2.1.alloc o, h.2.2.1.alloc o, h.2.2.2.1.alloc o, only_alloc h.2.2.2.2 o⟩
theorem Tw.only {w W w' : World} {A C R Q B : Nat} {f b g c : Int} (h : Tw w A C R Q B f b g c W) (k : W.grownBy w' (some B)) (hA : A ≠ B) (hC : C ≠ B) (hR : R ≠ B) (hQ : Q ≠ B) : Tw w A C R Q B f b g c w' :=
  ⟨h.1.only k hA, h.2.1.only k hC, h.2.2.1.only k hR, h.2.2.2.1.only k hQ, only_on h.2.2.2.2 k⟩
theorem Tw.put {w W : World} {A C R Q B : Nat} {f b g c : Int} (h : Tw w A C R Q B f b g c W) (hC : A ≠ C) (hR : A ≠ R) (hQ : A ≠ Q) (hw : w.heap.size ≤ A) (f' b' : Int) :
    Tw w A C R Q B f' b' g c ((W.setCell ⟨A, 0, none⟩ (.int .i64 f')).setCell ⟨A, 1, none⟩ (.int .i64 b')) :=
  ⟨h.1.put f' b', h.2.1.far2 _ _ hC, h.2.2.1.far2 _ _ hR, h.2.2.2.1.far2 _ _ hQ, only_set2 h.2.2.2.2 _ _ hw⟩
theorem Tw.sv {w : World} {A C R Q B : Nat} {f b g c : Int} {w' : World} (h : Tw w A C R Q B f b g c w') : w'.cell? ⟨A, 0, none⟩ = some (.int .i64 f) ∧ w'.cell? ⟨A, 1, none⟩ = some (.int .i64 b) ∧ Tw w A C R Q B f b g c w' := ⟨h.1.1, h.1.2.1, h⟩

/-- another struct is stored -/
theorem Tw.elsewhere {w W : World} {A C R Q B X : Nat} {f b g c : Int} (h : Tw w A C R Q B f b g c W) (hA : X ≠ A) (hC : X ≠ C) (hR : X ≠ R) (hQ : X ≠ Q) (hw : w.heap.size ≤ X) (u v : Value) :
    Tw w A C R Q B f b g c ((W.setCell ⟨X, 0, none⟩ u).setCell ⟨X, 1, none⟩ v) :=
  ⟨h.1.far2 _ _ hA, h.2.1.far2 _ _ hC, h.2.2.1.far2 _ _ hR, h.2.2.2.1.far2 _ _ hQ, only_set2 h.2.2.2.2 _ _ hw⟩
/-- both results are stored -/
theorem Tw.fin {w W : World} {A C R Q B : Nat} {f b g c : Int} (h : Tw w A C R Q B f b g c W) (hRQ : R ≠ Q) (hR : w.heap.size ≤ R) (hQ : w.heap.size ≤ Q) :
    At ((((W.setCell ⟨R, 0, none⟩ (.int .i64 f)).setCell ⟨R, 1, none⟩ (.int .i64 b)).setCell ⟨Q, 0, none⟩ (.int .i64 g)).setCell ⟨Q, 1, none⟩ (.int .i64 c)).drew R f b ∧
    At ((((W.setCell ⟨R, 0, none⟩ (.int .i64 f)).setCell ⟨R, 1, none⟩ (.int .i64 b)).setCell ⟨Q, 0, none⟩ (.int .i64 g)).setCell ⟨Q, 1, none⟩ (.int .i64 c)).drew Q g c ∧
    w.grownBy ((((W.setCell ⟨R, 0, none⟩ (.int .i64 f)).setCell ⟨R, 1, none⟩ (.int .i64 b)).setCell ⟨Q, 0, none⟩ (.int .i64 g)).setCell ⟨Q, 1, none⟩ (.int .i64 c)).drew (some B) :=
  ⟨((h.2.2.1.put f b).far2 _ _ (Ne.symm hRQ)).drew, ((h.2.2.2.1.far2 (.int .i64 f) (.int .i64 b) hRQ).put g c).drew, only_drew (only_set2 (only_set2 h.2.2.2.2 _ _ hR) _ _ hQ)⟩
/-- two ranges were drawn -/
def Twoed (w : World) (B : Nat) (e : Ending) (w' : World) : Prop :=
  ∃ f b g c, Small f b ∧ Small g c ∧ e = .returned (.tuple #[.agg #[.int .i64 f, .int .i64 b], .agg #[.int .i64 g, .int .i64 c]]) ∧ w.grownBy w' (some B)

set_option maxRecDepth 100000 in
set_option maxHeartbeats 2000000 in
theorem two_any (w : World) (B : Nat) (hr : Rd w B 0) :
    Calls Tryd.prog 31 #[.pointer (some ⟨B, 0, none⟩)] w (Twoed w B) := by
  have hBw := rd_lt hr
  have rR := (At.new w 0 0 25).alloc (.cells #[.int .i64 0, .int .i64 0] 25)
  have rQ := At.new (w.alloc (.cells #[.int .i64 0, .int .i64 0] 25)) 0 0 25
  simp only [World.size_alloc] at rQ
  have G0 := only_alloc (only_alloc (World.grownBy.refl w (some B)) (.cells #[.int .i64 0, .int .i64 0] 25)) (.cells #[.int .i64 0, .int .i64 0] 25)
  have HR0 := Lib.hid (rd_alloc (rd_alloc hr (.cells #[.int .i64 0, .int .i64 0] 25)) (.cells #[.int .i64 0, .int .i64 0] 25))
  clear hr
  go_enter Tryd.func31, Tryd.ntmps31
  go_wp2_with fail
  refine (range_any _ B 0 (by omega) HR0.out).mono ?_
  rintro e w1 ⟨f, b, p1, hs, rfl, hr1, hp1, hg1⟩
  replace rR := (rR.only hg1 (by omega)).alloc (.cells #[.int .i64 f, .int .i64 b] 25)
  replace rQ := (rQ.only hg1 (by omega)).alloc (.cells #[.int .i64 f, .int .i64 b] 25)
  have rA := At.new w1 f b 25
  have G1 := only_alloc (only_on G0 hg1) (.cells #[.int .i64 f, .int .i64 b] 25)
  have HR1 := Lib.hid (rd_alloc hr1 (.cells #[.int .i64 f, .int .i64 b] 25))
  have hB1 := rd_lt hr1
  have hz1 := G0.size
  have hz1' := hg1.size
  simp only [World.size_alloc] at hz1'
  clear hr1 hg1 G0 HR0
  have HS1 := Lib.hid hs
  clear hs
  go_wp2_with fail
  generalize w1.alloc (.cells #[.int .i64 f, .int .i64 b] 25) = W1 at *
  generalize w1.heap.size = A at *
  refine (range_any _ B p1 (by omega) HR1.out).mono ?_
  rintro e w2 ⟨g, c, p2, hs, rfl, hr2, hp2, hg2⟩
  replace rR := (rR.only hg2 (by omega)).alloc (.cells #[.int .i64 g, .int .i64 c] 25)
  replace rQ := (rQ.only hg2 (by omega)).alloc (.cells #[.int .i64 g, .int .i64 c] 25)
  have hA2 := (rA.only hg2 (by omega)).lt
  replace rA := (rA.only hg2 (by omega)).alloc (.cells #[.int .i64 g, .int .i64 c] 25)
  have rC := At.new w2 g c 25
  have G2 := only_alloc (only_on G1 hg2) (.cells #[.int .i64 g, .int .i64 c] 25)
  have HR2 := Lib.hid (rd_alloc hr2 (.cells #[.int .i64 g, .int .i64 c] 25))
  clear hr2 hg2 G1 HR1
  have HS2 := Lib.hid hs
  clear hs
  go_wp2_with fail
  generalize w2.alloc (.cells #[.int .i64 g, .int .i64 c] 25) = W2 at *
  generalize w2.heap.size = C at *
  refine (sok_any g c _).mono ?_
  rintro e w3 ⟨rfl, hb3⟩
  have T3 : Tw w A C w.heap.size (w.heap.size + 1) B f b g c w3 := Tw.below ⟨rA, rC, rR, rQ, G2⟩ hb3
  have HR3 := Lib.hid (rd_below HR2.out hb3)
  clear rA rC rR rQ G2 hb3 HR2
  by_cases ho : okB g c = true
  · rw [ho]
    go_wp2_with fail
    refine (pick_any 2 _ _ p2 (by omega) (by omega) HR3.out).mono ?_
    rintro e w4 ⟨x4, x4l, x4u, rfl, hr4, hg4⟩
    have T4 := T3.only hg4 (by omega) (by omega) (by omega) (by omega)
    have HR4 := Lib.hid hr4
    clear hr4 hg4 T3 HR3
    by_cases h4 : x4 = 0
    · have h4' : (x4 == 0) = true := by simp [h4]
      clear h4
      obtain ⟨a0, a1, a2, a3⟩ := id T4.1
      obtain ⟨c0, c1, _, _⟩ := id T4.2.1
      have T5 := T4.put (by omega) (by omega) (by omega) (by omega) g c
      have HR5 := Lib.hid (rd_set2 HR4.out (.int .i64 g) (.int .i64 c) (show B < A by omega))
      clear T4 HR4
      go_wp2_with fail
      generalize (w4.setCell ⟨A, 0, none⟩ (.int .i64 g)).setCell ⟨A, 1, none⟩ (.int .i64 c) = W5 at *
      clear a0 a1 a2 a3 c0 c1 HS1
      refine (pick_any 4 _ _ (p2 + 1) (by omega) (by omega) HR5.out).mono ?_
      rintro e w6 ⟨x6, x6l, x6u, rfl, hr6, hg6⟩
      have T6 := T5.only hg6 (by omega) (by omega) (by omega) (by omega)
      clear hg6 T5 HR5
      obtain ⟨m, rfl⟩ := Int.eq_ofNat_of_zero_le x6l
      go_wp2_with fail
      go_loopw [6] (fun n wr => ∃ (k : Nat) (f' b' : Int) (p' : Nat), k ≤ 3 ∧ n = .int .i64 k ∧ Small f' b' ∧ Tw w A C w.heap.size (w.heap.size + 1) B f' b' g c wr ∧ Rd wr B p' ∧ p' + k ≤ 50) (fun n _ => (intOf n).toNat)
      case atStart => exact ⟨m, g, c, _, by omega, rfl, HS2.out, T6, hr6, by omega⟩
      case round =>
        obtain ⟨k, f', b', p', hk, rfl, hs', T7, hr7, hp7⟩ := hrel
        clear T6 hr6
        have HR7 := Lib.hid hr7
        have HS7 := Lib.hid hs'
        clear hr7 hs'
        by_cases hk0 : 0 < k
        · have HT := Lib.hid T7.drew
          clear T7
          by_cases hh : halfB f' b' = true
          · go_wp2_with fail
            refine wp_region_held_drew (S := fun w' => w'.cell? ⟨A, 0, none⟩ = some (.int .i64 f') ∧ w'.cell? ⟨A, 1, none⟩ = some (.int .i64 b') ∧ Tw w A C w.heap.size (w.heap.size + 1) B f' b' g c w') (by kernel_rfl) ?_ (fun hHeld => ?_)
            · exact HT.out.sv
            refine takeH (i := 0) (v := ?_) rfl rfl (by kernel_rfl) (by kernel_rfl) (by kernel_rfl) (fun _ _ _ h => h) (by rfl) ?_ (by assumption) ?_
            rotate_left 1
            · intro w hSw
              (try dsimp only at hSw)
              go_simp
              try with_reducible rfl
            try simp only [List.setIfInBounds_toArray, List.set_cons_zero, List.set_cons_succ]
            refine takeH (i := 1) (v := ?_) rfl rfl (by kernel_rfl) (by kernel_rfl) (by kernel_rfl) (fun _ _ _ h => h) (by rfl) ?_ (by assumption) ?_
            rotate_left 1
            · intro w hSw
              (try dsimp only at hSw)
              go_simp
              try with_reducible rfl
            try simp only [List.setIfInBounds_toArray, List.set_cons_zero, List.set_cons_succ]
            refine wpAnyH_ready (rs := [2, 8]) (by kernel_rfl) (by simp) ?_
            refine AllReadyH.cons rfl (fun K hK => ?_) (AllReadyH.cons rfl (fun K hK => ?_) (AllReadyH.nil))
            · go_simp
              refine (pick_any 2 _ _ p' (by omega) (by omega) (rd_drew HR7.out)).mono ?_
              rintro e w8 ⟨x8, x8l, x8u, rfl, hr8, hg8⟩
              go_wp2_with fail
              refine hK.out _ _ ?_ (fun hNew => ?_)
              · exact (hHeld.2.2.only hg8 (by omega) (by omega) (by omega) (by omega)).sv
              clear hK K hHeld
              have hHeld := hNew
              clear hNew
              try simp only [Act.put, List.setIfInBounds_toArray, List.set_cons_zero, List.set_cons_succ]
              refine takeH (i := 3) (v := ?_) rfl rfl (by kernel_rfl) (by kernel_rfl) (by kernel_rfl) (fun _ _ _ h => h) (by rfl) ?_ (by assumption) ?_
              rotate_left 1
              · intro w hSw
                (try dsimp only at hSw)
                go_simp
                try with_reducible rfl
              try simp only [List.setIfInBounds_toArray, List.set_cons_zero, List.set_cons_succ]
              refine wpAnyH_ready (rs := [4, 8]) (by kernel_rfl) (by simp) ?_
              refine AllReadyH.cons rfl (fun K hK => ?_) (AllReadyH.cons rfl (fun K hK => ?_) (AllReadyH.nil))
              · go_simp
                refine (shalf_yes f' b' (x8 == 0) _ hh).mono ?_
                rintro e w9 ⟨rfl, hb9⟩
                have HR9 := Lib.hid (rd_below hr8 hb9)
                go_wp2_with fail
                refine hK.out _ _ ?_ (fun hNew => ?_)
                · exact (hHeld.2.2.below hb9).sv
                clear hK K hHeld
                have hHeld := hNew
                clear hNew
                try simp only [Act.put, List.setIfInBounds_toArray, List.set_cons_zero, List.set_cons_succ]
                refine takeH (i := 5) (v := ?_) rfl rfl (by kernel_rfl) (by kernel_rfl) (by kernel_rfl) (fun _ _ _ h => h) (by rfl) ?_ (by assumption) ?_
                rotate_left 1
                · intro w hSw
                  (try dsimp only at hSw)
                  go_simp
                  try with_reducible rfl
                try simp only [List.setIfInBounds_toArray, List.set_cons_zero, List.set_cons_succ]
                refine takeH (i := 6) (v := ?_) rfl rfl (by kernel_rfl) (by kernel_rfl) (by kernel_rfl) (fun _ _ _ h => h) (by rfl) ?_ (by assumption) ?_
                rotate_left 1
                · intro w hSw
                  (try dsimp only at hSw)
                  go_simp
                  try with_reducible rfl
                try simp only [List.setIfInBounds_toArray, List.set_cons_zero, List.set_cons_succ]
                refine takeH (i := 7) (v := ?_) rfl rfl (by kernel_rfl) (by kernel_rfl) (by kernel_rfl) (fun _ _ _ h => h) (by rfl) ?_ (by assumption) ?_
                rotate_left 1
                · intro w hSw
                  (try dsimp only at hSw)
                  go_simp
                  try with_reducible rfl
                try simp only [List.setIfInBounds_toArray, List.set_cons_zero, List.set_cons_succ]
                refine wpAnyH_ready (rs := [8]) (by kernel_rfl) (by simp) ?_
                refine AllReadyH.cons rfl (fun K hK => ?_) (AllReadyH.nil)
                have hOld := Lib.hid hHeld
                go_simp
                refine hK.out _ _ ?_ (fun hNew => ?_)
                · exact (hHeld.2.2.alloc _).sv
                clear hK K hHeld
                have hHeld := hNew
                clear hNew
                try simp only [Act.put, List.setIfInBounds_toArray, List.set_cons_zero, List.set_cons_succ]
                refine wpAnyH_ready (rs := [9]) (by kernel_rfl) (by simp) ?_
                refine AllReadyH.cons rfl (fun K hK => ?_) (AllReadyH.nil)
                go_simp
                refine hK.out _ _ ?_ (fun hNew => ?_)
                · exact (hOld.out.2.2.alloc _).sv
                clear hK K hHeld
                have hHeld := hNew
                clear hNew
                try simp only [Act.put, List.setIfInBounds_toArray, List.set_cons_zero, List.set_cons_succ]
                refine takeH (i := 10) (v := ?_) rfl rfl (by kernel_rfl) (by kernel_rfl) (by kernel_rfl) (fun _ _ _ h => h) (by rfl) ?_ (by assumption) ?_
                rotate_left 1
                · intro w hSw
                  (try dsimp only at hSw)
                  go_simp
                  try with_reducible rfl
                try simp only [List.setIfInBounds_toArray, List.set_cons_zero, List.set_cons_succ]
                refine wpAnyH_done (by kernel_rfl) ?_ _
                have T9 := hHeld.2.2
                have rX := At.new w9 (halfF f' b' (x8 == 0)) (b' + 1) 25
                have HR10 := Lib.hid (rd_alloc HR9.out (.cells #[.int .i64 (halfF f' b' (x8 == 0)), .int .i64 (b' + 1)] 25))
                clear hOld hHeld HR9 HT HR7
                generalize w9.alloc (.cells #[.int .i64 (halfF f' b' (x8 == 0)), .int .i64 (b' + 1)] 25) = W9 at *
                generalize w9.heap.size = X at *
                obtain ⟨a0, a1, a2, a3⟩ := id T9.1
                obtain ⟨y0, y1, _, _⟩ := id rX
                have T10 := T9.put (by omega) (by omega) (by omega) (by omega) (halfF f' b' (x8 == 0)) (b' + 1)
                have HR11 := Lib.hid (rd_set2 HR10.out (.int .i64 (halfF f' b' (x8 == 0))) (.int .i64 (b' + 1)) (show B < A by omega))
                clear T9 HR10 rX
                go_wp2
                go_roundw
                case rel => exact ⟨k - 1, _, _, _, by omega, by go_num, half_small hh _, T10, HR11.out, by omega⟩
                case measure => simp [intOf]; omega
              · go_simp
                have rX := At.new w8 0 0 25
                have HR8x := Lib.hid (rd_alloc hr8 (.cells #[.int .i64 0, .int .i64 0] 25))
                have hX := rd_lt hr8
                have hHo := hHeld.2.2.alloc (.cells #[.int .i64 0, .int .i64 0] 25)
                have hXA := hHeld.2.2.1.lt
                have hXC := hHeld.2.2.2.1.lt
                generalize w8.alloc (.cells #[.int .i64 0, .int .i64 0] 25) = Wx at *
                generalize w8.heap.size = X at *
                refine hK.out _ _ ?_ (fun hNew => ?_)
                · exact hHo.sv
                clear hK K hHeld
                have hHeld := hNew
                clear hNew
                try simp only [Act.put, List.setIfInBounds_toArray, List.set_cons_zero, List.set_cons_succ]
                refine wpAnyH_ready (rs := [4]) (by kernel_rfl) (by simp) ?_
                refine AllReadyH.cons rfl (fun K hK => ?_) (AllReadyH.nil)
                go_simp
                refine (shalf_yes f' b' (x8 == 0) _ hh).mono ?_
                rintro e w9 ⟨rfl, hb9⟩
                have HR9 := Lib.hid (rd_below HR8x.out hb9)
                replace rX := rX.below hb9
                go_wp2_with fail
                refine hK.out _ _ ?_ (fun hNew => ?_)
                · exact (hHeld.2.2.below hb9).sv
                clear hK K hHeld
                have hHeld := hNew
                clear hNew
                try simp only [Act.put, List.setIfInBounds_toArray, List.set_cons_zero, List.set_cons_succ]
                refine takeH (i := 5) (v := ?_) rfl rfl (by kernel_rfl) (by kernel_rfl) (by kernel_rfl) (fun _ _ _ h => h) (by rfl) ?_ (by assumption) ?_
                rotate_left 1
                · intro w hSw
                  (try dsimp only at hSw)
                  go_simp
                  try with_reducible rfl
                try simp only [List.setIfInBounds_toArray, List.set_cons_zero, List.set_cons_succ]
                refine takeH (i := 6) (v := ?_) rfl rfl (by kernel_rfl) (by kernel_rfl) (by kernel_rfl) (fun _ _ _ h => h) (by rfl) ?_ (by assumption) ?_
                rotate_left 1
                · intro w hSw
                  (try dsimp only at hSw)
                  go_simp
                  try with_reducible rfl
                try simp only [List.setIfInBounds_toArray, List.set_cons_zero, List.set_cons_succ]
                refine takeH (i := 7) (v := ?_) rfl rfl (by kernel_rfl) (by kernel_rfl) (by kernel_rfl) (fun _ _ _ h => h) (by rfl) ?_ (by assumption) ?_
                rotate_left 1
                · intro w hSw
                  (try dsimp only at hSw)
                  go_simp
                  try with_reducible rfl
                try simp only [List.setIfInBounds_toArray, List.set_cons_zero, List.set_cons_succ]
                refine wpAnyH_ready (rs := [9]) (by kernel_rfl) (by simp) ?_
                refine AllReadyH.cons rfl (fun K hK => ?_) (AllReadyH.nil)
                obtain ⟨xa, xb, xc, xd⟩ := id rX
                go_simp
                refine hK.out _ _ ?_ (fun hNew => ?_)
                · exact (Tw.elsewhere hHeld.2.2 (by omega) (by omega) (by omega) (by omega) (by omega) _ _).sv
                clear hK K hHeld
                have hHeld := hNew
                clear hNew
                try simp only [Act.put, List.setIfInBounds_toArray, List.set_cons_zero, List.set_cons_succ]
                refine takeH (i := 10) (v := ?_) rfl rfl (by kernel_rfl) (by kernel_rfl) (by kernel_rfl) (fun _ _ _ h => h) (by rfl) ?_ (by assumption) ?_
                rotate_left 1
                · intro w hSw
                  (try dsimp only at hSw)
                  go_simp
                  try with_reducible rfl
                try simp only [List.setIfInBounds_toArray, List.set_cons_zero, List.set_cons_succ]
                refine wpAnyH_done (by kernel_rfl) ?_ _
                have T9 := hHeld.2.2
                have rX2 := rX.put (halfF f' b' (x8 == 0)) (b' + 1)
                have HR10 := Lib.hid (rd_set2 HR9.out (.int .i64 (halfF f' b' (x8 == 0))) (.int .i64 (b' + 1)) hX)
                clear hHeld HR9 HT HR7 rX xa xb xc xd
                have rX := rX2
                clear rX2
                generalize (w9.setCell ⟨X, 0, none⟩ (.int .i64 (halfF f' b' (x8 == 0)))).setCell ⟨X, 1, none⟩ (.int .i64 (b' + 1)) = W9 at *
                obtain ⟨a0, a1, a2, a3⟩ := id T9.1
                obtain ⟨y0, y1, _, _⟩ := id rX
                have T10 := T9.put (by omega) (by omega) (by omega) (by omega) (halfF f' b' (x8 == 0)) (b' + 1)
                have HR11 := Lib.hid (rd_set2 HR10.out (.int .i64 (halfF f' b' (x8 == 0))) (.int .i64 (b' + 1)) (show B < A by omega))
                clear T9 HR10 rX
                go_wp2
                go_roundw
                case rel => exact ⟨k - 1, _, _, _, by omega, by go_num, half_small hh _, T10, HR11.out, by omega⟩
                case measure => simp [intOf]; omega
            · go_simp
              have rX : At (wr.alloc (.cells #[.int .i64 0, .int .i64 0] 25)).drew wr.heap.size 0 0 := At.new wr 0 0 25
              have HR7x := Lib.hid (show Rd (wr.alloc (.cells #[.int .i64 0, .int .i64 0] 25)).drew B p' from rd_alloc HR7.out _)
              have hX := rd_lt HR7.out
              have hHo : Tw w A C w.heap.size (w.heap.size + 1) B f' b' g c (wr.alloc (.cells #[.int .i64 0, .int .i64 0] 25)).drew := HT.out.alloc _
              have hXA : A < wr.heap.size := HT.out.1.lt
              have hXC : C < wr.heap.size := HT.out.2.1.lt
              generalize (wr.alloc (.cells #[.int .i64 0, .int .i64 0] 25)).drew = Wx at *
              generalize wr.heap.size = X at *
              refine hK.out _ _ ?_ (fun hNew => ?_)
              · exact hHo.sv
              clear hK K hHeld
              have hHeld := hNew
              clear hNew
              try simp only [Act.put, List.setIfInBounds_toArray, List.set_cons_zero, List.set_cons_succ]
              refine wpAnyH_ready (rs := [2]) (by kernel_rfl) (by simp) ?_
              refine AllReadyH.cons rfl (fun K hK => ?_) (AllReadyH.nil)
              go_simp
              refine (pick_any 2 _ _ p' (by omega) (by omega) HR7x.out).mono ?_
              rintro e w8 ⟨x8, x8l, x8u, rfl, hr8, hg8⟩
              replace rX := rX.only hg8 (by omega)
              go_wp2_with fail
              refine hK.out _ _ ?_ (fun hNew => ?_)
              · exact (hHeld.2.2.only hg8 (by omega) (by omega) (by omega) (by omega)).sv
              clear hK K hHeld
              have hHeld := hNew
              clear hNew
              try simp only [Act.put, List.setIfInBounds_toArray, List.set_cons_zero, List.set_cons_succ]
              refine takeH (i := 3) (v := ?_) rfl rfl (by kernel_rfl) (by kernel_rfl) (by kernel_rfl) (fun _ _ _ h => h) (by rfl) ?_ (by assumption) ?_
              rotate_left 1
              · intro w hSw
                (try dsimp only at hSw)
                go_simp
                try with_reducible rfl
              try simp only [List.setIfInBounds_toArray, List.set_cons_zero, List.set_cons_succ]
              refine wpAnyH_ready (rs := [4]) (by kernel_rfl) (by simp) ?_
              refine AllReadyH.cons rfl (fun K hK => ?_) (AllReadyH.nil)
              go_simp
              refine (shalf_yes f' b' (x8 == 0) _ hh).mono ?_
              rintro e w9 ⟨rfl, hb9⟩
              have HR9 := Lib.hid (rd_below hr8 hb9)
              replace rX := rX.below hb9
              go_wp2_with fail
              refine hK.out _ _ ?_ (fun hNew => ?_)
              · exact (hHeld.2.2.below hb9).sv
              clear hK K hHeld
              have hHeld := hNew
              clear hNew
              try simp only [Act.put, List.setIfInBounds_toArray, List.set_cons_zero, List.set_cons_succ]
              refine takeH (i := 5) (v := ?_) rfl rfl (by kernel_rfl) (by kernel_rfl) (by kernel_rfl) (fun _ _ _ h => h) (by rfl) ?_ (by assumption) ?_
              rotate_left 1
              · intro w hSw
                (try dsimp only at hSw)
                go_simp
                try with_reducible rfl
              try simp only [List.setIfInBounds_toArray, List.set_cons_zero, List.set_cons_succ]
              refine takeH (i := 6) (v := ?_) rfl rfl (by kernel_rfl) (by kernel_rfl) (by kernel_rfl) (fun _ _ _ h => h) (by rfl) ?_ (by assumption) ?_
              rotate_left 1
              · intro w hSw
                (try dsimp only at hSw)
                go_simp
                try with_reducible rfl
              try simp only [List.setIfInBounds_toArray, List.set_cons_zero, List.set_cons_succ]
              refine takeH (i := 7) (v := ?_) rfl rfl (by kernel_rfl) (by kernel_rfl) (by kernel_rfl) (fun _ _ _ h => h) (by rfl) ?_ (by assumption) ?_
              rotate_left 1
              · intro w hSw
                (try dsimp only at hSw)
                go_simp
                try with_reducible rfl
              try simp only [List.setIfInBounds_toArray, List.set_cons_zero, List.set_cons_succ]
              refine wpAnyH_ready (rs := [9]) (by kernel_rfl) (by simp) ?_
              refine AllReadyH.cons rfl (fun K hK => ?_) (AllReadyH.nil)
              obtain ⟨xa, xb, xc, xd⟩ := id rX
              go_simp
              refine hK.out _ _ ?_ (fun hNew => ?_)
              · exact (Tw.elsewhere hHeld.2.2 (by omega) (by omega) (by omega) (by omega) (by omega) _ _).sv
              clear hK K hHeld
              have hHeld := hNew
              clear hNew
              try simp only [Act.put, List.setIfInBounds_toArray, List.set_cons_zero, List.set_cons_succ]
              refine takeH (i := 10) (v := ?_) rfl rfl (by kernel_rfl) (by kernel_rfl) (by kernel_rfl) (fun _ _ _ h => h) (by rfl) ?_ (by assumption) ?_
              rotate_left 1
              · intro w hSw
                (try dsimp only at hSw)
                go_simp
                try with_reducible rfl
              try simp only [List.setIfInBounds_toArray, List.set_cons_zero, List.set_cons_succ]
              refine wpAnyH_done (by kernel_rfl) ?_ _
              have T9 := hHeld.2.2
              have rX2 := rX.put (halfF f' b' (x8 == 0)) (b' + 1)
              have HR10 := Lib.hid (rd_set2 HR9.out (.int .i64 (halfF f' b' (x8 == 0))) (.int .i64 (b' + 1)) hX)
              clear hHeld HR9 HT HR7 rX xa xb xc xd
              have rX := rX2
              clear rX2
              generalize (w9.setCell ⟨X, 0, none⟩ (.int .i64 (halfF f' b' (x8 == 0)))).setCell ⟨X, 1, none⟩ (.int .i64 (b' + 1)) = W9 at *
              obtain ⟨a0, a1, a2, a3⟩ := id T9.1
              obtain ⟨y0, y1, _, _⟩ := id rX
              have T10 := T9.put (by omega) (by omega) (by omega) (by omega) (halfF f' b' (x8 == 0)) (b' + 1)
              have HR11 := Lib.hid (rd_set2 HR10.out (.int .i64 (halfF f' b' (x8 == 0))) (.int .i64 (b' + 1)) (show B < A by omega))
              clear T9 HR10 rX
              go_wp2
              go_roundw
              case rel => exact ⟨k - 1, _, _, _, by omega, by go_num, half_small hh _, T10, HR11.out, by omega⟩
              case measure => simp [intOf]; omega
          · have hh' : halfB f' b' = false := by simpa using hh
            clear hh
            have hh := hh'
            clear hh'
            go_wp2_with fail
            refine wp_region_held_drew (S := fun w' => w'.cell? ⟨A, 0, none⟩ = some (.int .i64 f') ∧ w'.cell? ⟨A, 1, none⟩ = some (.int .i64 b') ∧ Tw w A C w.heap.size (w.heap.size + 1) B f' b' g c w') (by kernel_rfl) ?_ (fun hHeld => ?_)
            · exact HT.out.sv
            refine takeH (i := 0) (v := ?_) rfl rfl (by kernel_rfl) (by kernel_rfl) (by kernel_rfl) (fun _ _ _ h => h) (by rfl) ?_ (by assumption) ?_
            rotate_left 1
            · intro w hSw
              (try dsimp only at hSw)
              go_simp
              try with_reducible rfl
            try simp only [List.setIfInBounds_toArray, List.set_cons_zero, List.set_cons_succ]
            refine takeH (i := 1) (v := ?_) rfl rfl (by kernel_rfl) (by kernel_rfl) (by kernel_rfl) (fun _ _ _ h => h) (by rfl) ?_ (by assumption) ?_
            rotate_left 1
            · intro w hSw
              (try dsimp only at hSw)
              go_simp
              try with_reducible rfl
            try simp only [List.setIfInBounds_toArray, List.set_cons_zero, List.set_cons_succ]
            refine wpAnyH_ready (rs := [2, 8]) (by kernel_rfl) (by simp) ?_
            refine AllReadyH.cons rfl (fun K hK => ?_) (AllReadyH.cons rfl (fun K hK => ?_) (AllReadyH.nil))
            · go_simp
              refine (pick_any 2 _ _ p' (by omega) (by omega) (rd_drew HR7.out)).mono ?_
              rintro e w8 ⟨x8, x8l, x8u, rfl, hr8, hg8⟩
              go_wp2_with fail
              refine hK.out _ _ ?_ (fun hNew => ?_)
              · exact (hHeld.2.2.only hg8 (by omega) (by omega) (by omega) (by omega)).sv
              clear hK K hHeld
              have hHeld := hNew
              clear hNew
              try simp only [Act.put, List.setIfInBounds_toArray, List.set_cons_zero, List.set_cons_succ]
              refine takeH (i := 3) (v := ?_) rfl rfl (by kernel_rfl) (by kernel_rfl) (by kernel_rfl) (fun _ _ _ h => h) (by rfl) ?_ (by assumption) ?_
              rotate_left 1
              · intro w hSw
                (try dsimp only at hSw)
                go_simp
                try with_reducible rfl
              try simp only [List.setIfInBounds_toArray, List.set_cons_zero, List.set_cons_succ]
              refine wpAnyH_ready (rs := [4, 8]) (by kernel_rfl) (by simp) ?_
              refine AllReadyH.cons rfl (fun K hK => ?_) (AllReadyH.cons rfl (fun K hK => ?_) (AllReadyH.nil))
              · go_simp
                refine (shalf_no f' b' (x8 == 0) _ hh).mono ?_
                rintro e w9 ⟨rfl, hb9⟩
                have HR9 := Lib.hid (rd_below hr8 hb9)
                go_wp2_with fail
                refine hK.out _ _ ?_ (fun hNew => ?_)
                · exact (hHeld.2.2.below hb9).sv
                clear hK K hHeld
                have hHeld := hNew
                clear hNew
                try simp only [Act.put, List.setIfInBounds_toArray, List.set_cons_zero, List.set_cons_succ]
                refine takeH (i := 5) (v := ?_) rfl rfl (by kernel_rfl) (by kernel_rfl) (by kernel_rfl) (fun _ _ _ h => h) (by rfl) ?_ (by assumption) ?_
                rotate_left 1
                · intro w hSw
                  (try dsimp only at hSw)
                  go_simp
                  try with_reducible rfl
                try simp only [List.setIfInBounds_toArray, List.set_cons_zero, List.set_cons_succ]
                refine takeH (i := 6) (v := ?_) rfl rfl (by kernel_rfl) (by kernel_rfl) (by kernel_rfl) (fun _ _ _ h => h) (by rfl) ?_ (by assumption) ?_
                rotate_left 1
                · intro w hSw
                  (try dsimp only at hSw)
                  go_simp
                  try with_reducible rfl
                try simp only [List.setIfInBounds_toArray, List.set_cons_zero, List.set_cons_succ]
                refine takeH (i := 7) (v := ?_) rfl rfl (by kernel_rfl) (by kernel_rfl) (by kernel_rfl) (fun _ _ _ h => h) (by rfl) ?_ (by assumption) ?_
                rotate_left 1
                · intro w hSw
                  (try dsimp only at hSw)
                  go_simp
                  try with_reducible rfl
                try simp only [List.setIfInBounds_toArray, List.set_cons_zero, List.set_cons_succ]
                refine wpAnyH_ready (rs := [8]) (by kernel_rfl) (by simp) ?_
                refine AllReadyH.cons rfl (fun K hK => ?_) (AllReadyH.nil)
                have hOld := Lib.hid hHeld
                go_simp
                refine hK.out _ _ ?_ (fun hNew => ?_)
                · exact (hHeld.2.2.alloc _).sv
                clear hK K hHeld
                have hHeld := hNew
                clear hNew
                try simp only [Act.put, List.setIfInBounds_toArray, List.set_cons_zero, List.set_cons_succ]
                refine wpAnyH_ready (rs := [9]) (by kernel_rfl) (by simp) ?_
                refine AllReadyH.cons rfl (fun K hK => ?_) (AllReadyH.nil)
                go_simp
                refine hK.out _ _ ?_ (fun hNew => ?_)
                · exact (hOld.out.2.2.alloc _).sv
                clear hK K hHeld
                have hHeld := hNew
                clear hNew
                try simp only [Act.put, List.setIfInBounds_toArray, List.set_cons_zero, List.set_cons_succ]
                refine takeH (i := 10) (v := ?_) rfl rfl (by kernel_rfl) (by kernel_rfl) (by kernel_rfl) (fun _ _ _ h => h) (by rfl) ?_ (by assumption) ?_
                rotate_left 1
                · intro w hSw
                  (try dsimp only at hSw)
                  go_simp
                  try with_reducible rfl
                try simp only [List.setIfInBounds_toArray, List.set_cons_zero, List.set_cons_succ]
                refine wpAnyH_done (by kernel_rfl) ?_ _
                have T9 := hHeld.2.2
                have rX := At.new w9 0 (0) 25
                have HR10 := Lib.hid (rd_alloc HR9.out (.cells #[.int .i64 0, .int .i64 (0)] 25))
                clear hOld hHeld HR9 HT HR7
                generalize w9.alloc (.cells #[.int .i64 0, .int .i64 (0)] 25) = W9 at *
                generalize w9.heap.size = X at *
                obtain ⟨a0, a1, a2, a3⟩ := id T9.1
                obtain ⟨y0, y1, _, _⟩ := id rX
                have T10 := T9
                have HR11 := HR10
                clear T9 HR10 rX
                go_wp2
                go_roundw
                case rel => exact ⟨k - 1, _, _, _, by omega, by go_num, HS7.out, T10, HR11.out, by omega⟩
                case measure => simp [intOf]; omega
              · go_simp
                have rX := At.new w8 0 0 25
                have HR8x := Lib.hid (rd_alloc hr8 (.cells #[.int .i64 0, .int .i64 0] 25))
                have hX := rd_lt hr8
                have hHo := hHeld.2.2.alloc (.cells #[.int .i64 0, .int .i64 0] 25)
                have hXA := hHeld.2.2.1.lt
                have hXC := hHeld.2.2.2.1.lt
                generalize w8.alloc (.cells #[.int .i64 0, .int .i64 0] 25) = Wx at *
                generalize w8.heap.size = X at *
                refine hK.out _ _ ?_ (fun hNew => ?_)
                · exact hHo.sv
                clear hK K hHeld
                have hHeld := hNew
                clear hNew
                try simp only [Act.put, List.setIfInBounds_toArray, List.set_cons_zero, List.set_cons_succ]
                refine wpAnyH_ready (rs := [4]) (by kernel_rfl) (by simp) ?_
                refine AllReadyH.cons rfl (fun K hK => ?_) (AllReadyH.nil)
                go_simp
                refine (shalf_no f' b' (x8 == 0) _ hh).mono ?_
                rintro e w9 ⟨rfl, hb9⟩
                have HR9 := Lib.hid (rd_below HR8x.out hb9)
                replace rX := rX.below hb9
                go_wp2_with fail
                refine hK.out _ _ ?_ (fun hNew => ?_)
                · exact (hHeld.2.2.below hb9).sv
                clear hK K hHeld
                have hHeld := hNew
                clear hNew
                try simp only [Act.put, List.setIfInBounds_toArray, List.set_cons_zero, List.set_cons_succ]
                refine takeH (i := 5) (v := ?_) rfl rfl (by kernel_rfl) (by kernel_rfl) (by kernel_rfl) (fun _ _ _ h => h) (by rfl) ?_ (by assumption) ?_
                rotate_left 1
                · intro w hSw
                  (try dsimp only at hSw)
                  go_simp
                  try with_reducible rfl
                try simp only [List.setIfInBounds_toArray, List.set_cons_zero, List.set_cons_succ]
                refine takeH (i := 6) (v := ?_) rfl rfl (by kernel_rfl) (by kernel_rfl) (by kernel_rfl) (fun _ _ _ h => h) (by rfl) ?_ (by assumption) ?_
                rotate_left 1
                · intro w hSw
                  (try dsimp only at hSw)
                  go_simp
                  try with_reducible rfl
                try simp only [List.setIfInBounds_toArray, List.set_cons_zero, List.set_cons_succ]
                refine takeH (i := 7) (v := ?_) rfl rfl (by kernel_rfl) (by kernel_rfl) (by kernel_rfl) (fun _ _ _ h => h) (by rfl) ?_ (by assumption) ?_
                rotate_left 1
                · intro w hSw
                  (try dsimp only at hSw)
                  go_simp
                  try with_reducible rfl
                try simp only [List.setIfInBounds_toArray, List.set_cons_zero, List.set_cons_succ]
                refine wpAnyH_ready (rs := [9]) (by kernel_rfl) (by simp) ?_
                refine AllReadyH.cons rfl (fun K hK => ?_) (AllReadyH.nil)
                obtain ⟨xa, xb, xc, xd⟩ := id rX
                go_simp
                refine hK.out _ _ ?_ (fun hNew => ?_)
                · exact (Tw.elsewhere hHeld.2.2 (by omega) (by omega) (by omega) (by omega) (by omega) _ _).sv
                clear hK K hHeld
                have hHeld := hNew
                clear hNew
                try simp only [Act.put, List.setIfInBounds_toArray, List.set_cons_zero, List.set_cons_succ]
                refine takeH (i := 10) (v := ?_) rfl rfl (by kernel_rfl) (by kernel_rfl) (by kernel_rfl) (fun _ _ _ h => h) (by rfl) ?_ (by assumption) ?_
                rotate_left 1
                · intro w hSw
                  (try dsimp only at hSw)
                  go_simp
                  try with_reducible rfl
                try simp only [List.setIfInBounds_toArray, List.set_cons_zero, List.set_cons_succ]
                refine wpAnyH_done (by kernel_rfl) ?_ _
                have T9 := hHeld.2.2
                have rX2 := rX.put 0 (0)
                have HR10 := Lib.hid (rd_set2 HR9.out (.int .i64 0) (.int .i64 (0)) hX)
                clear hHeld HR9 HT HR7 rX xa xb xc xd
                have rX := rX2
                clear rX2
                generalize (w9.setCell ⟨X, 0, none⟩ (.int .i64 0)).setCell ⟨X, 1, none⟩ (.int .i64 (0)) = W9 at *
                obtain ⟨a0, a1, a2, a3⟩ := id T9.1
                obtain ⟨y0, y1, _, _⟩ := id rX
                have T10 := T9
                have HR11 := HR10
                clear T9 HR10 rX
                go_wp2
                go_roundw
                case rel => exact ⟨k - 1, _, _, _, by omega, by go_num, HS7.out, T10, HR11.out, by omega⟩
                case measure => simp [intOf]; omega
            · go_simp
              have rX : At (wr.alloc (.cells #[.int .i64 0, .int .i64 0] 25)).drew wr.heap.size 0 0 := At.new wr 0 0 25
              have HR7x := Lib.hid (show Rd (wr.alloc (.cells #[.int .i64 0, .int .i64 0] 25)).drew B p' from rd_alloc HR7.out _)
              have hX := rd_lt HR7.out
              have hHo : Tw w A C w.heap.size (w.heap.size + 1) B f' b' g c (wr.alloc (.cells #[.int .i64 0, .int .i64 0] 25)).drew := HT.out.alloc _
              have hXA : A < wr.heap.size := HT.out.1.lt
              have hXC : C < wr.heap.size := HT.out.2.1.lt
              generalize (wr.alloc (.cells #[.int .i64 0, .int .i64 0] 25)).drew = Wx at *
              generalize wr.heap.size = X at *
              refine hK.out _ _ ?_ (fun hNew => ?_)
              · exact hHo.sv
              clear hK K hHeld
              have hHeld := hNew
              clear hNew
              try simp only [Act.put, List.setIfInBounds_toArray, List.set_cons_zero, List.set_cons_succ]
              refine wpAnyH_ready (rs := [2]) (by kernel_rfl) (by simp) ?_
              refine AllReadyH.cons rfl (fun K hK => ?_) (AllReadyH.nil)
              go_simp
              refine (pick_any 2 _ _ p' (by omega) (by omega) HR7x.out).mono ?_
              rintro e w8 ⟨x8, x8l, x8u, rfl, hr8, hg8⟩
              replace rX := rX.only hg8 (by omega)
              go_wp2_with fail
              refine hK.out _ _ ?_ (fun hNew => ?_)
              · exact (hHeld.2.2.only hg8 (by omega) (by omega) (by omega) (by omega)).sv
              clear hK K hHeld
              have hHeld := hNew
              clear hNew
              try simp only [Act.put, List.setIfInBounds_toArray, List.set_cons_zero, List.set_cons_succ]
              refine takeH (i := 3) (v := ?_) rfl rfl (by kernel_rfl) (by kernel_rfl) (by kernel_rfl) (fun _ _ _ h => h) (by rfl) ?_ (by assumption) ?_
              rotate_left 1
              · intro w hSw
                (try dsimp only at hSw)
                go_simp
                try with_reducible rfl
              try simp only [List.setIfInBounds_toArray, List.set_cons_zero, List.set_cons_succ]
              refine wpAnyH_ready (rs := [4]) (by kernel_rfl) (by simp) ?_
              refine AllReadyH.cons rfl (fun K hK => ?_) (AllReadyH.nil)
              go_simp
              refine (shalf_no f' b' (x8 == 0) _ hh).mono ?_
              rintro e w9 ⟨rfl, hb9⟩
              have HR9 := Lib.hid (rd_below hr8 hb9)
              replace rX := rX.below hb9
              go_wp2_with fail
              refine hK.out _ _ ?_ (fun hNew => ?_)
              · exact (hHeld.2.2.below hb9).sv
              clear hK K hHeld
              have hHeld := hNew
              clear hNew
              try simp only [Act.put, List.setIfInBounds_toArray, List.set_cons_zero, List.set_cons_succ]
              refine takeH (i := 5) (v := ?_) rfl rfl (by kernel_rfl) (by kernel_rfl) (by kernel_rfl) (fun _ _ _ h => h) (by rfl) ?_ (by assumption) ?_
              rotate_left 1
              · intro w hSw
                (try dsimp only at hSw)
                go_simp
                try with_reducible rfl
              try simp only [List.setIfInBounds_toArray, List.set_cons_zero, List.set_cons_succ]
              refine takeH (i := 6) (v := ?_) rfl rfl (by kernel_rfl) (by kernel_rfl) (by kernel_rfl) (fun _ _ _ h => h) (by rfl) ?_ (by assumption) ?_
              rotate_left 1
              · intro w hSw
                (try dsimp only at hSw)
                go_simp
                try with_reducible rfl
              try simp only [List.setIfInBounds_toArray, List.set_cons_zero, List.set_cons_succ]
              refine takeH (i := 7) (v := ?_) rfl rfl (by kernel_rfl) (by kernel_rfl) (by kernel_rfl) (fun _ _ _ h => h) (by rfl) ?_ (by assumption) ?_
              rotate_left 1
              · intro w hSw
                (try dsimp only at hSw)
                go_simp
                try with_reducible rfl
              try simp only [List.setIfInBounds_toArray, List.set_cons_zero, List.set_cons_succ]
              refine wpAnyH_ready (rs := [9]) (by kernel_rfl) (by simp) ?_
              refine AllReadyH.cons rfl (fun K hK => ?_) (AllReadyH.nil)
              obtain ⟨xa, xb, xc, xd⟩ := id rX
              go_simp
              refine hK.out _ _ ?_ (fun hNew => ?_)
              · exact (Tw.elsewhere hHeld.2.2 (by omega) (by omega) (by omega) (by omega) (by omega) _ _).sv
              clear hK K hHeld
              have hHeld := hNew
              clear hNew
              try simp only [Act.put, List.setIfInBounds_toArray, List.set_cons_zero, List.set_cons_succ]
              refine takeH (i := 10) (v := ?_) rfl rfl (by kernel_rfl) (by kernel_rfl) (by kernel_rfl) (fun _ _ _ h => h) (by rfl) ?_ (by assumption) ?_
              rotate_left 1
              · intro w hSw
                (try dsimp only at hSw)
                go_simp
                try with_reducible rfl
              try simp only [List.setIfInBounds_toArray, List.set_cons_zero, List.set_cons_succ]
              refine wpAnyH_done (by kernel_rfl) ?_ _
              have T9 := hHeld.2.2
              have rX2 := rX.put 0 (0)
              have HR10 := Lib.hid (rd_set2 HR9.out (.int .i64 0) (.int .i64 (0)) hX)
              clear hHeld HR9 HT HR7 rX xa xb xc xd
              have rX := rX2
              clear rX2
              generalize (w9.setCell ⟨X, 0, none⟩ (.int .i64 0)).setCell ⟨X, 1, none⟩ (.int .i64 (0)) = W9 at *
              obtain ⟨a0, a1, a2, a3⟩ := id T9.1
              obtain ⟨y0, y1, _, _⟩ := id rX
              have T10 := T9
              have HR11 := HR10
              clear T9 HR10 rX
              go_wp2
              go_roundw
              case rel => exact ⟨k - 1, _, _, _, by omega, by go_num, HS7.out, T10, HR11.out, by omega⟩
              case measure => simp [intOf]; omega
        · clear hk
          obtain ⟨a0, a1, _, _⟩ := id T7.1
          obtain ⟨c0, c1, _, _⟩ := id T7.2.1
          obtain ⟨k0, k1, k2, k3⟩ := id T7.2.2.1
          obtain ⟨q0, q1, q2, q3⟩ := id T7.2.2.2.1
          go_wp2_with fail
          go_region
          go_wp2
          obtain ⟨⟨r0, r1, _, _⟩, ⟨s0, s1, _, _⟩, G⟩ := Tw.fin T7 (by omega) (by omega) (by omega)
          generalize ((((World.setCell wr ⟨w.heap.size, 0, none⟩ (.int .i64 f')).setCell ⟨w.heap.size, 1, none⟩ (.int .i64 b')).setCell ⟨w.heap.size + 1, 0, none⟩ (.int .i64 g)).setCell ⟨w.heap.size + 1, 1, none⟩ (.int .i64 c)).drew = V at *
          exact bodyPost_ret (v := .tuple #[.agg #[.int .i64 f', .int .i64 b'], .agg #[.int .i64 g, .int .i64 c]]) (by simp [results, Tryd.results31, go_sem, r0, r1, s0, s1]) rfl ⟨_, _, _, _, HS7.out, HS2.out, rfl, G⟩
    · have h4' : (x4 == 0) = false := by simp [h4]
      clear h4
      obtain ⟨a0, a1, _, _⟩ := id T4.1
      obtain ⟨c0, c1, _, _⟩ := id T4.2.1
      obtain ⟨k0, k1, k2, k3⟩ := id T4.2.2.1
      obtain ⟨q0, q1, q2, q3⟩ := id T4.2.2.2.1
      go_wp2_with fail
      go_region
      go_wp2
      obtain ⟨⟨r0, r1, _, _⟩, ⟨s0, s1, _, _⟩, G⟩ := Tw.fin T4 (by omega) (by omega) (by omega)
      generalize ((((World.setCell w4 ⟨w.heap.size, 0, none⟩ (.int .i64 f)).setCell ⟨w.heap.size, 1, none⟩ (.int .i64 b)).setCell ⟨w.heap.size + 1, 0, none⟩ (.int .i64 g)).setCell ⟨w.heap.size + 1, 1, none⟩ (.int .i64 c)).drew = V at *
      exact bodyPost_ret (v := .tuple #[.agg #[.int .i64 f, .int .i64 b], .agg #[.int .i64 g, .int .i64 c]]) (by simp [results, Tryd.results31, go_sem, r0, r1, s0, s1]) rfl ⟨_, _, _, _, HS1.out, HS2.out, rfl, G⟩
  · have ho' : okB g c = false := by simpa using ho
    rw [ho']
    clear ho
    obtain ⟨a0, a1, _, _⟩ := id T3.1
    obtain ⟨c0, c1, _, _⟩ := id T3.2.1
    obtain ⟨k0, k1, k2, k3⟩ := id T3.2.2.1
    obtain ⟨q0, q1, q2, q3⟩ := id T3.2.2.2.1
    go_wp2_with fail
    go_region
    go_wp2
    obtain ⟨⟨r0, r1, _, _⟩, ⟨s0, s1, _, _⟩, G⟩ := Tw.fin T3 (by omega) (by omega) (by omega)
    generalize ((((World.setCell w3 ⟨w.heap.size, 0, none⟩ (.int .i64 f)).setCell ⟨w.heap.size, 1, none⟩ (.int .i64 b)).setCell ⟨w.heap.size + 1, 0, none⟩ (.int .i64 g)).setCell ⟨w.heap.size + 1, 1, none⟩ (.int .i64 c)).drew = V at *
    exact bodyPost_ret (v := .tuple #[.agg #[.int .i64 f, .int .i64 b], .agg #[.int .i64 g, .int .i64 c]]) (by simp [results, Tryd.results31, go_sem, r0, r1, s0, s1]) rfl ⟨_, _, _, _, HS1.out, HS2.out, rfl, G⟩

end Go.Proofs.YtglmoacgaacmeaaDoor
