/-
  FnSplit: the walk.
-/
import Derived.Test.YtmbcfdlemapppaaLawTm
namespace Go.Proofs.Ytmbcfdlemapppaa
open Go.RowKit
set_option linter.unusedSimpArgs false
set_option linter.unusedVariables false

set_option maxRecDepth 100000 in
set_option maxHeartbeats 8000000 in
theorem lawSplit (a : Option Addr) (len cap : Nat) (zs : List Int) (a' : Option Addr) (len' cap' : Nat) (zs' : List Int) (w : World) (h : IsRow w a len cap zs) (h' : IsRow w a' len' cap' zs') :
    Calls Try.prog 18 #[.slice a len cap, .slice a' len' cap'] w fun e w' => e = .returned (.bool true) ∧ Below w.heap.size w w' := by
  have H := Lib.hid h
  have hm := isRow_len h
  have hm' := isRow_len h'
  clear h h'
  by_cases hl : 1048576 < len
  · go_enter Try.func18, Try.ntmps18
    go_wp2_with fail
    go_ret
    exact ⟨rfl, Below.refl _ _⟩
  by_cases hl' : 1048576 < len'
  · go_enter Try.func18, Try.ntmps18
    go_wp2_with fail
    go_ret
    exact ⟨rfl, Below.refl _ _⟩
  have HB0 := Lib.hid (Below.refl w.heap.size w)
  go_enter Try.func18, Try.ntmps18
  go_wp2_with fail
  refine (dTabLess_any a len cap zs _ H.out).mono ?_
  rintro e w1 ⟨v, T, hT, rfl, o, b⟩
  have HB1 := Lib.hid (HB0.out.trans (b.mono HB0.out.size))
  obtain ⟨qt, pt, rfl, tt, nt⟩ := Owns.tabN o
  have Nt := Lib.hid nt
  have Ft_1 := Lib.hid o
  clear tt nt o
  clear b
  obtain ⟨X, hX⟩ : ∃ X, tlessM T = X := ⟨_, rfl⟩
  have hXl : X.length ≤ 14 := by rw [← hX]; exact Nat.le_trans (tless_len T) hT
  have HX := Lib.hid hX
  clear hX
  go_wp2_with fail
  refine (tless_is HX.out qt pt _ (owns_tabA Ft_1.out) (by omega)).mono ?_
  rintro e w2 ⟨v, rfl, o, b⟩
  have HB2 := Lib.hid (HB1.out.trans (b.mono HB1.out.size))
  have Ft_2 := Lib.hid (owns_later Ft_1.out b)
  obtain ⟨qx, px, rfl, tx, nx⟩ := Owns.tabN o
  have Nx := Lib.hid nx
  have Fx_2 := Lib.hid o
  clear tx nx o
  clear b
  go_wp2_with fail
  refine (sless_is HX.out qt pt _ (owns_tabA Ft_2.out) Nt.out (by omega)).mono ?_
  rintro e w3 ⟨v, rfl, o, b⟩
  have HB3 := Lib.hid (HB2.out.trans (b.mono HB2.out.size))
  have Ft_3 := Lib.hid (owns_later Ft_2.out b)
  have Fx_3 := Lib.hid (owns_later Fx_2.out b)
  obtain ⟨qs, ps, rfl, ts, ns⟩ := Owns.tabN o
  have Ns := Lib.hid ns
  have Fs_3 := Lib.hid o
  clear ts ns o
  clear b
  go_wp2_with fail
  refine (ly_same qx qs px ps X _ (owns_tabA Fx_3.out) (owns_tabA Fs_3.out) (by omega)).mono ?_
  rintro e w4 ⟨rfl, b⟩
  have HB4 := Lib.hid (HB3.out.trans (b.mono HB3.out.size))
  have Ft_4 := Lib.hid (owns_later Ft_3.out b)
  have Fx_4 := Lib.hid (owns_later Fx_3.out b)
  have Fs_4 := Lib.hid (owns_later Fs_3.out b)
  clear b
  cases ho : tabOk T with
  | false =>
    go_wp2_with fail
    refine (stok_is ho _ (owns_tabA Ft_4.out) (by omega)).mono ?_
    rintro e w5 ⟨rfl, b⟩
    have HB5 := Lib.hid (HB4.out.trans (b.mono HB4.out.size))
    have Ft_5 := Lib.hid (owns_later Ft_4.out b)
    have Fx_5 := Lib.hid (owns_later Fx_4.out b)
    clear b
    go_wp2_with fail
    refine (sless_is HX.out qt pt _ (owns_tabA Ft_5.out) Nt.out (by omega)).mono ?_
    rintro e w6 ⟨v, rfl, o, b⟩
    have HB6 := Lib.hid (HB5.out.trans (b.mono HB5.out.size))
    have Ft_6 := Lib.hid (owns_later Ft_5.out b)
    have Fx_6 := Lib.hid (owns_later Fx_5.out b)
    obtain ⟨qz, pz, rfl, tz, nz⟩ := Owns.tabN o
    have Nz := Lib.hid nz
    have Fz_6 := Lib.hid o
    clear tz nz o
    clear b
    go_wp2_with fail
    refine (ly_same qx qz px pz X _ (owns_tabA Fx_6.out) (owns_tabA Fz_6.out) (by omega)).mono ?_
    rintro e w7 ⟨rfl, b⟩
    have HB7 := Lib.hid (HB6.out.trans (b.mono HB6.out.size))
    have Ft_7 := Lib.hid (owns_later Ft_6.out b)
    have Fx_7 := Lib.hid (owns_later Fx_6.out b)
    have Fz_7 := Lib.hid (owns_later Fz_6.out b)
    clear b
    go_wp2_with fail
    go_ret
    exact ⟨rfl, HB7.out⟩
  | true =>
    go_wp2_with fail
    refine (stok_is ho _ (owns_tabA Ft_4.out) (by omega)).mono ?_
    rintro e w5 ⟨rfl, b⟩
    have HB5 := Lib.hid (HB4.out.trans (b.mono HB4.out.size))
    have Ft_5 := Lib.hid (owns_later Ft_4.out b)
    have Fx_5 := Lib.hid (owns_later Fx_4.out b)
    clear b
    have HG := Lib.hid (tab_good ho)
    have HO := Lib.hid ho
    clear ho
    by_cases h0 : T.length = 0
    · obtain rfl : T = [] := List.eq_nil_of_length_eq_zero h0
      clear h0 hT
      go_wp2_with fail
      refine (sless_is (T := []) HX.out qt pt _ (owns_tabA Ft_5.out) Nt.out (by simp)).mono ?_
      rintro e w6 ⟨v, rfl, o, b⟩
      have HB6 := Lib.hid (HB5.out.trans (b.mono HB5.out.size))
      have Ft_6 := Lib.hid (owns_later Ft_5.out b)
      have Fx_6 := Lib.hid (owns_later Fx_5.out b)
      obtain ⟨qz, pz, rfl, tz, nz⟩ := Owns.tabN o
      have Nz := Lib.hid nz
      have Fz_6 := Lib.hid o
      clear tz nz o
      clear b
      go_wp2_with fail
      refine (ly_same qx qz px pz X _ (owns_tabA Fx_6.out) (owns_tabA Fz_6.out) (by omega)).mono ?_
      rintro e w7 ⟨rfl, b⟩
      have HB7 := Lib.hid (HB6.out.trans (b.mono HB6.out.size))
      have Ft_7 := Lib.hid (owns_later Ft_6.out b)
      have Fx_7 := Lib.hid (owns_later Fx_6.out b)
      have Fz_7 := Lib.hid (owns_later Fz_6.out b)
      clear b
      go_wp2_with fail
      go_ret
      exact ⟨rfl, HB7.out⟩
    · have hm9 : (len' : Int).tmod (T.length : Int) = ((len' % T.length : Nat) : Int) := by rw [Int.tmod_eq_emod_of_nonneg (by omega)]; rfl
      have hk : len' % T.length < T.length := Nat.mod_lt _ (by omega)
      generalize len' % T.length = k at *
      have hnz : ¬ ((T.length : Nat) : Int) = 0 := by omega
      have hnb : (((T.length : Nat) : Int) == 0) = false := by rw [beq_eq_false_iff_ne]; omega
      have hp0 : (0 : Int) ≤ (k : Int) := by omega
      have hp1 : (k : Int) < (T.length : Int) := by omega
      obtain ⟨bb, off, f, c, u, hqt, hTk, x0, x1, x2⟩ := (owns_tabA Ft_5.out).at hk
      subst hqt
      have HT := Lib.hid hTk
      have okfc : okB f c = true := HG.out.1.ok (mem_at hTk)
      have hb8 := ((okB_iff _ _).1 okfc).2.1
      clear hTk
      by_cases h8 : c < 8
      · have hh : halfB f c = true := (halfB_iff f c).2 ⟨okfc, h8⟩
        go_wp2_with fail
        refine (rhalf_lo hh _).mono ?_
        rintro e w6 ⟨rfl, b⟩
        have HB6 := Lib.hid (HB5.out.trans (b.mono HB5.out.size))
        have Ft_6 := Lib.hid (owns_later Ft_5.out b)
        have Fx_6 := Lib.hid (owns_later Fx_5.out b)
        clear b
        clear x0 x1 x2
        have b := (Below.refl w6.heap.size w6).alloc (Nat.le_refl _) (.cells #[.int .i64 f, .int .i64 (c + 1)] 35)
        have HB7 := Lib.hid (HB6.out.trans (b.mono HB6.out.size))
        have Ft_7 := Lib.hid (owns_later Ft_6.out b)
        have Fx_7 := Lib.hid (owns_later Fx_6.out b)
        have Fp_7 := Lib.hid (At.new w6 f (c + 1) 35)
        have hxp : w6.heap.size < (w6.alloc (.cells #[.int .i64 f, .int .i64 (c + 1)] 35)).heap.size := by simp
        obtain ⟨x0, x1, x2⟩ := tabA_get (owns_tabA Ft_7.out) HT.out
        clear b
        go_wp2_with fail
        generalize w6.alloc (.cells #[.int .i64 f, .int .i64 (c + 1)] 35) = w7 at *
        clear x0 x1 x2
        refine (rhalf_up hh _).mono ?_
        rintro e w8 ⟨rfl, b⟩
        have HB8 := Lib.hid (HB7.out.trans (b.mono HB7.out.size))
        have Ft_8 := Lib.hid (owns_later Ft_7.out b)
        have Fx_8 := Lib.hid (owns_later Fx_7.out b)
        have Fp_8 := Lib.hid (Fp_7.out.below b)
        clear b
        have b := (Below.refl w8.heap.size w8).alloc (Nat.le_refl _) (.cells #[.int .i64 (f + sz (c + 1)), .int .i64 (c + 1)] 35)
        have HB9 := Lib.hid (HB8.out.trans (b.mono HB8.out.size))
        have Ft_9 := Lib.hid (owns_later Ft_8.out b)
        have Fx_9 := Lib.hid (owns_later Fx_8.out b)
        have Fp_9 := Lib.hid (Fp_8.out.below b)
        have Fr_9 := Lib.hid (At.new w8 (f + sz (c + 1)) (c + 1) 35)
        have hxr : w8.heap.size < (w8.alloc (.cells #[.int .i64 (f + sz (c + 1)), .int .i64 (c + 1)] 35)).heap.size := by simp
        clear b
        go_wp2_with fail
        generalize w8.alloc (.cells #[.int .i64 (f + sz (c + 1)), .int .i64 (c + 1)] 35) = w9 at *
        go_loopw [12] (fun i wr => ∃ j : Nat, j ≤ T.length ∧ i = .int .i64 j ∧ Hid ((∀ i x, i < j → T[i]? = some x → ¬ (x.1 = f ∧ x.2.1 = c + 1)) ∧ (∀ i x, i < j → T[i]? = some x → ¬ (x.1 = f + sz (c + 1) ∧ x.2.1 = c + 1))) ∧ Below w9.heap.size w9 wr) (fun i _ => T.length - (intOf i).toNat)
        case atStart => exact ⟨0, Nat.zero_le _, rfl, Lib.hid ⟨fun _ _ h => by omega, fun _ _ h => by omega⟩, Below.refl _ _⟩
        case round =>
          obtain ⟨j, hj, rfl, hn, hb⟩ := hrel
          have b := hb
          have HB10 := Lib.hid (HB9.out.trans (b.mono HB9.out.size))
          have Ft_10 := Lib.hid (owns_later Ft_9.out b)
          have Fx_10 := Lib.hid (owns_later Fx_9.out b)
          have Fp_10 := Lib.hid (Fp_9.out.below b)
          have Fr_10 := Lib.hid (Fr_9.out.below b)
          have FL_10 := Lib.hid b
          clear b hb
          by_cases hlt : j < T.length
          · obtain ⟨g1, c1, u1, hTj, y0, y1, y2⟩ := tabA_at (owns_tabA Ft_10.out) hlt
            have i0 : (0 : Int) ≤ (j : Int) := by omega
            have i1 : (j : Int) < (T.length : Int) := by omega
            obtain ⟨p0, p1, _, _⟩ := id Fp_10.out
            obtain ⟨r0, r1, _, _⟩ := id Fr_10.out
            by_cases hq1 : g1 = f ∧ c1 = c + 1
            · have q1 : ∀ W, (binOp .eql 35 (.agg #[.int .i64 g1, .int .i64 c1]) (.agg #[.int .i64 f, .int .i64 (c + 1)])).run Try.prog W = .ok (.bool true) W := fun W => by rw [eqlR g1 c1 f (c + 1) W]; simp [hq1]
              clear hq1 hn hTj
              go_wp2_with fail
              go_quiet (fail)
              have b := below_drewN (Below.refl wr.heap.size wr) nq
              have HB11 := Lib.hid (HB10.out.trans (b.mono HB10.out.size))
              have Ft_11 := Lib.hid (owns_later Ft_10.out b)
              have Fx_11 := Lib.hid (owns_later Fx_10.out b)
              have Fp_11 := Lib.hid (Fp_10.out.below b)
              have Fr_11 := Lib.hid (Fr_10.out.below b)
              have FL_11 := Lib.hid (FL_10.out.trans (b.mono FL_10.out.size))
              clear b
              generalize wr.drewN nq = w11 at *
              clear p0 p1 r0 r1 y0 y1 y2
              go_wp2_with fail
              go_ret
              exact ⟨rfl, HB11.out⟩
            · have q1 : ∀ W, (binOp .eql 35 (.agg #[.int .i64 g1, .int .i64 c1]) (.agg #[.int .i64 f, .int .i64 (c + 1)])).run Try.prog W = .ok (.bool false) W := fun W => by rw [eqlR g1 c1 f (c + 1) W]; simp [hq1]
              by_cases hq2 : g1 = f + sz (c + 1) ∧ c1 = c + 1
              · have q2 : ∀ W, (binOp .eql 35 (.agg #[.int .i64 g1, .int .i64 c1]) (.agg #[.int .i64 (f + sz (c + 1)), .int .i64 (c + 1)])).run Try.prog W = .ok (.bool true) W := fun W => by rw [eqlR g1 c1 (f + sz (c + 1)) (c + 1) W]; simp [hq2]
                clear hq1 hq2 hn hTj
                go_wp2_with fail
                go_quiet (fail)
                have b := below_drewN (Below.refl wr.heap.size wr) nq
                have HB11 := Lib.hid (HB10.out.trans (b.mono HB10.out.size))
                have Ft_11 := Lib.hid (owns_later Ft_10.out b)
                have Fx_11 := Lib.hid (owns_later Fx_10.out b)
                have Fp_11 := Lib.hid (Fp_10.out.below b)
                have Fr_11 := Lib.hid (Fr_10.out.below b)
                have FL_11 := Lib.hid (FL_10.out.trans (b.mono FL_10.out.size))
                clear b
                generalize wr.drewN nq = w11 at *
                clear p0 p1 r0 r1 y0 y1 y2
                go_wp2_with fail
                go_ret
                exact ⟨rfl, HB11.out⟩
              · have q2 : ∀ W, (binOp .eql 35 (.agg #[.int .i64 g1, .int .i64 c1]) (.agg #[.int .i64 (f + sz (c + 1)), .int .i64 (c + 1)])).run Try.prog W = .ok (.bool false) W := fun W => by rw [eqlR g1 c1 (f + sz (c + 1)) (c + 1) W]; simp [hq2]
                have HN := Lib.hid (And.intro (none_step hn.out.1 hTj hq1) (none_step hn.out.2 hTj hq2))
                clear hq1 hq2 hn hTj
                go_wp2_with fail
                go_quiet (fail)
                go_wp2_with fail
                go_roundw
                case rel => exact ⟨j + 1, by omega, by go_num, Lib.hid HN.out, below_drewN FL_10.out _⟩
                case measure => simp [intOf]; omega
          · obtain rfl : j = T.length := by omega
            have HD := Lib.hid (drop_in HO.out (mem_at HT.out))
            have hdl := drop_len T f c
            have HS := Lib.hid (same_split HG.out.1 (mem_at HT.out) h8 (fun x hx => by obtain ⟨i, hi⟩ := List.mem_iff_getElem?.1 hx; exact hn.out.1 i x (List.getElem?_eq_some_iff.1 hi).1 hi) (fun x hx => by obtain ⟨i, hi⟩ := List.mem_iff_getElem?.1 hx; exact hn.out.2 i x (List.getElem?_eq_some_iff.1 hi).1 hi))
            clear hn
            obtain ⟨x0, x1, x2⟩ := tabA_get (owns_tabA Ft_10.out) HT.out
            go_wp2_with fail
            refine (tdrop_is HD.out _ pt _ (owns_tabA Ft_10.out) (by omega)).mono ?_
            rintro e w11 ⟨v, rfl, o, b⟩
            have HB11 := Lib.hid (HB10.out.trans (b.mono HB10.out.size))
            have Ft_11 := Lib.hid (owns_later Ft_10.out b)
            have Fx_11 := Lib.hid (owns_later Fx_10.out b)
            have Fp_11 := Lib.hid (Fp_10.out.below b)
            have Fr_11 := Lib.hid (Fr_10.out.below b)
            obtain ⟨qy, py, rfl, ty, ny⟩ := Owns.tabN o
            have Ny := Lib.hid ny
            have Fy_11 := Lib.hid o
            clear ty ny o
            clear b
            clear x0 x1 x2
            obtain ⟨x0, x1, x2⟩ := tabA_get (owns_tabA Ft_11.out) HT.out
            have Y := Lib.hid (And.intro x2 (And.intro Fp_11.out.1 Fp_11.out.2.1))
            clear x0 x1 x2
            go_wp2_with fail
            refine wp_region_held_drew (S := fun W => W.cell? ⟨bb, off + k * 3 + 2, none⟩ = some (.int .i64 u) ∧ W.cell? ⟨w6.heap.size, 0, none⟩ = some (.int .i64 f) ∧ W.cell? ⟨w6.heap.size, 1, none⟩ = some (.int .i64 (c + 1)) ∧ TabA W qy (dropM T f c) ∧ Below w11.heap.size w11 W) (by kernel_rfl) ?_ (fun hHeld => ?_)
            · exact ⟨Y.out.1, Y.out.2.1, Y.out.2.2, ((owns_tabA Fy_11.out).below (Below.refl _ _).drew), (Below.refl _ _).drew⟩
            refine takeH (i := 0) (v := ?_) rfl rfl (by kernel_rfl) (by kernel_rfl) (by kernel_rfl) (fun _ _ _ h => h) (by rfl) ?_ (by assumption) ?_
            rotate_left 1
            · intro w hSw
              (try dsimp only at hSw)
              go_simp
              try with_reducible rfl
            try simp only [List.setIfInBounds_toArray, List.set_cons_zero, List.set_cons_succ]
            refine takeH (i := 1) (v := ?_) rfl rfl (by kernel_rfl) (by kernel_rfl) (by kernel_rfl) (fun _ _ _ h => h) (by rfl) ?_ (by assumption) ?_
            rotate_left 1
            · intro w hSw
              (try dsimp only at hSw)
              go_simp
              try with_reducible rfl
            try simp only [List.setIfInBounds_toArray, List.set_cons_zero, List.set_cons_succ]
            refine takeH (i := 2) (v := ?_) rfl rfl (by kernel_rfl) (by kernel_rfl) (by kernel_rfl) (fun _ _ _ h => h) (by rfl) ?_ (by assumption) ?_
            rotate_left 1
            · intro w hSw
              (try dsimp only at hSw)
              go_simp
              try with_reducible rfl
            try simp only [List.setIfInBounds_toArray, List.set_cons_zero, List.set_cons_succ]
            refine takeH (i := 3) (v := ?_) rfl rfl (by kernel_rfl) (by kernel_rfl) (by kernel_rfl) (fun _ _ _ h => h) (by rfl) ?_ (by assumption) ?_
            rotate_left 1
            · intro w hSw
              (try dsimp only at hSw)
              go_simp
              try with_reducible rfl
            try simp only [List.setIfInBounds_toArray, List.set_cons_zero, List.set_cons_succ]
            refine takeH (i := 4) (v := ?_) rfl rfl (by kernel_rfl) (by kernel_rfl) (by kernel_rfl) (fun _ _ _ h => h) (by rfl) ?_ (by assumption) ?_
            rotate_left 1
            · intro w hSw
              (try dsimp only at hSw)
              go_simp
              try with_reducible rfl
            try simp only [List.setIfInBounds_toArray, List.set_cons_zero, List.set_cons_succ]
            refine takeH (i := 5) (v := ?_) rfl rfl (by kernel_rfl) (by kernel_rfl) (by kernel_rfl) (fun _ _ _ h => h) (by rfl) ?_ (by assumption) ?_
            rotate_left 1
            · intro w hSw
              (try dsimp only at hSw)
              go_simp
              try with_reducible rfl
            try simp only [List.setIfInBounds_toArray, List.set_cons_zero, List.set_cons_succ]
            refine takeH (i := 6) (v := ?_) rfl rfl (by kernel_rfl) (by kernel_rfl) (by kernel_rfl) (fun _ _ _ h => h) (by rfl) ?_ (by assumption) ?_
            rotate_left 1
            · intro w hSw
              (try dsimp only at hSw)
              go_simp
              try with_reducible rfl
            try simp only [List.setIfInBounds_toArray, List.set_cons_zero, List.set_cons_succ]
            refine takeH (i := 7) (v := ?_) rfl rfl (by kernel_rfl) (by kernel_rfl) (by kernel_rfl) (fun _ _ _ h => h) (by rfl) ?_ (by assumption) ?_
            rotate_left 1
            · intro w hSw
              (try dsimp only at hSw)
              go_simp
              try with_reducible rfl
            try simp only [List.setIfInBounds_toArray, List.set_cons_zero, List.set_cons_succ]
            refine wpAnyH_ready (rs := [8]) (by kernel_rfl) (by simp) ?_
            refine AllReadyH.cons rfl (fun K hK => ?_) (AllReadyH.nil)
            go_simp
            refine (tput_any qy py (dropM T f c) f (c + 1) u _ hHeld.2.2.2.1 (by omega)).mono ?_
            rintro e W8 ⟨v, rfl, o, hb2⟩
            have OO := Lib.hid o
            clear o
            go_wp2_with fail
            refine hK.out _ _ ?_ (fun hNew => ?_)
            · exact ⟨cell_later hb2 hHeld.1, cell_later hb2 hHeld.2.1, cell_later hb2 hHeld.2.2.1, hHeld.2.2.2.1.below hb2, hHeld.2.2.2.2.trans (hb2.mono hHeld.2.2.2.2.size)⟩
            clear hK K hHeld
            have hHeld := hNew
            clear hNew
            try simp only [Act.put, List.setIfInBounds_toArray, List.set_cons_zero, List.set_cons_succ]
            refine takeH (i := 9) (v := ?_) rfl rfl (by kernel_rfl) (by kernel_rfl) (by kernel_rfl) (fun _ _ _ h => h) (by rfl) ?_ (by assumption) ?_
            rotate_left 1
            · intro w hSw
              (try dsimp only at hSw)
              go_simp
              try with_reducible rfl
            try simp only [List.setIfInBounds_toArray, List.set_cons_zero, List.set_cons_succ]
            refine takeH (i := 10) (v := ?_) rfl rfl (by kernel_rfl) (by kernel_rfl) (by kernel_rfl) (fun _ _ _ h => h) (by rfl) ?_ (by assumption) ?_
            rotate_left 1
            · intro w hSw
              (try dsimp only at hSw)
              go_simp
              try with_reducible rfl
            try simp only [List.setIfInBounds_toArray, List.set_cons_zero, List.set_cons_succ]
            refine takeH (i := 11) (v := ?_) rfl rfl (by kernel_rfl) (by kernel_rfl) (by kernel_rfl) (fun _ _ _ h => h) (by rfl) ?_ (by assumption) ?_
            rotate_left 1
            · intro w hSw
              (try dsimp only at hSw)
              go_simp
              try with_reducible rfl
            try simp only [List.setIfInBounds_toArray, List.set_cons_zero, List.set_cons_succ]
            refine takeH (i := 12) (v := ?_) rfl rfl (by kernel_rfl) (by kernel_rfl) (by kernel_rfl) (fun _ _ _ h => h) (by rfl) ?_ (by assumption) ?_
            rotate_left 1
            · intro w hSw
              (try dsimp only at hSw)
              go_simp
              try with_reducible rfl
            try simp only [List.setIfInBounds_toArray, List.set_cons_zero, List.set_cons_succ]
            refine takeH (i := 13) (v := ?_) rfl rfl (by kernel_rfl) (by kernel_rfl) (by kernel_rfl) (fun _ _ _ h => h) (by rfl) ?_ (by assumption) ?_
            rotate_left 1
            · intro w hSw
              (try dsimp only at hSw)
              go_simp
              try with_reducible rfl
            try simp only [List.setIfInBounds_toArray, List.set_cons_zero, List.set_cons_succ]
            refine wpAnyH_done (by kernel_rfl) ?_ _
            have b := hHeld.2.2.2.2
            have HB12 := Lib.hid (HB11.out.trans (b.mono HB11.out.size))
            have Ft_12 := Lib.hid (owns_later Ft_11.out b)
            have Fx_12 := Lib.hid (owns_later Fx_11.out b)
            have Fp_12 := Lib.hid (Fp_11.out.below b)
            have Fr_12 := Lib.hid (Fr_11.out.below b)
            have Fy_12 := Lib.hid (owns_later Fy_11.out b)
            clear b hHeld
            clear Y
            have o := OO.out
            clear OO
            obtain ⟨qz, pz, rfl, tz, nz⟩ := Owns.tabN o
            have Nz := Lib.hid nz
            have Fz_12 := Lib.hid o
            clear tz nz o
            obtain ⟨wZ12, hwZ⟩ : ∃ y, y = W8 := ⟨W8, rfl⟩
            subst hwZ
            have hlz := tput_len ((dropM T f c)) (f, c + 1, u)
            have Kz := Lib.hid (tput_ok (T := (dropM T f c)) (e := (f, c + 1, u)))
            generalize (tputM (dropM T f c) (f, c + 1, u)).1 = Lz at *
            generalize (tputM (dropM T f c) (f, c + 1, u)).2 = okz at *
            obtain ⟨x0, x1, x2⟩ := tabA_get (owns_tabA Ft_12.out) HT.out
            have Y := Lib.hid (And.intro x2 (And.intro Fr_12.out.1 Fr_12.out.2.1))
            clear x0 x1 x2
            go_wp2_with fail
            refine wp_region_held_drew (S := fun W => W.cell? ⟨bb, off + k * 3 + 2, none⟩ = some (.int .i64 u) ∧ W.cell? ⟨w8.heap.size, 0, none⟩ = some (.int .i64 (f + sz (c + 1))) ∧ W.cell? ⟨w8.heap.size, 1, none⟩ = some (.int .i64 (c + 1)) ∧ TabA W qz Lz ∧ Below wZ12.heap.size wZ12 W) (by kernel_rfl) ?_ (fun hHeld => ?_)
            · exact ⟨Y.out.1, Y.out.2.1, Y.out.2.2, ((owns_tabA Fz_12.out).below (Below.refl _ _).drew), (Below.refl _ _).drew⟩
            refine takeH (i := 0) (v := ?_) rfl rfl (by kernel_rfl) (by kernel_rfl) (by kernel_rfl) (fun _ _ _ h => h) (by rfl) ?_ (by assumption) ?_
            rotate_left 1
            · intro w hSw
              (try dsimp only at hSw)
              go_simp
              try with_reducible rfl
            try simp only [List.setIfInBounds_toArray, List.set_cons_zero, List.set_cons_succ]
            refine takeH (i := 1) (v := ?_) rfl rfl (by kernel_rfl) (by kernel_rfl) (by kernel_rfl) (fun _ _ _ h => h) (by rfl) ?_ (by assumption) ?_
            rotate_left 1
            · intro w hSw
              (try dsimp only at hSw)
              go_simp
              try with_reducible rfl
            try simp only [List.setIfInBounds_toArray, List.set_cons_zero, List.set_cons_succ]
            refine takeH (i := 2) (v := ?_) rfl rfl (by kernel_rfl) (by kernel_rfl) (by kernel_rfl) (fun _ _ _ h => h) (by rfl) ?_ (by assumption) ?_
            rotate_left 1
            · intro w hSw
              (try dsimp only at hSw)
              go_simp
              try with_reducible rfl
            try simp only [List.setIfInBounds_toArray, List.set_cons_zero, List.set_cons_succ]
            refine takeH (i := 3) (v := ?_) rfl rfl (by kernel_rfl) (by kernel_rfl) (by kernel_rfl) (fun _ _ _ h => h) (by rfl) ?_ (by assumption) ?_
            rotate_left 1
            · intro w hSw
              (try dsimp only at hSw)
              go_simp
              try with_reducible rfl
            try simp only [List.setIfInBounds_toArray, List.set_cons_zero, List.set_cons_succ]
            refine takeH (i := 4) (v := ?_) rfl rfl (by kernel_rfl) (by kernel_rfl) (by kernel_rfl) (fun _ _ _ h => h) (by rfl) ?_ (by assumption) ?_
            rotate_left 1
            · intro w hSw
              (try dsimp only at hSw)
              go_simp
              try with_reducible rfl
            try simp only [List.setIfInBounds_toArray, List.set_cons_zero, List.set_cons_succ]
            refine takeH (i := 5) (v := ?_) rfl rfl (by kernel_rfl) (by kernel_rfl) (by kernel_rfl) (fun _ _ _ h => h) (by rfl) ?_ (by assumption) ?_
            rotate_left 1
            · intro w hSw
              (try dsimp only at hSw)
              go_simp
              try with_reducible rfl
            try simp only [List.setIfInBounds_toArray, List.set_cons_zero, List.set_cons_succ]
            refine takeH (i := 6) (v := ?_) rfl rfl (by kernel_rfl) (by kernel_rfl) (by kernel_rfl) (fun _ _ _ h => h) (by rfl) ?_ (by assumption) ?_
            rotate_left 1
            · intro w hSw
              (try dsimp only at hSw)
              go_simp
              try with_reducible rfl
            try simp only [List.setIfInBounds_toArray, List.set_cons_zero, List.set_cons_succ]
            refine takeH (i := 7) (v := ?_) rfl rfl (by kernel_rfl) (by kernel_rfl) (by kernel_rfl) (fun _ _ _ h => h) (by rfl) ?_ (by assumption) ?_
            rotate_left 1
            · intro w hSw
              (try dsimp only at hSw)
              go_simp
              try with_reducible rfl
            try simp only [List.setIfInBounds_toArray, List.set_cons_zero, List.set_cons_succ]
            refine wpAnyH_ready (rs := [8]) (by kernel_rfl) (by simp) ?_
            refine AllReadyH.cons rfl (fun K hK => ?_) (AllReadyH.nil)
            go_simp
            refine (tput_any qz pz Lz (f + sz (c + 1)) (c + 1) u _ hHeld.2.2.2.1 (by omega)).mono ?_
            rintro e W8 ⟨v, rfl, o, hb2⟩
            have OO := Lib.hid o
            clear o
            go_wp2_with fail
            refine hK.out _ _ ?_ (fun hNew => ?_)
            · exact ⟨cell_later hb2 hHeld.1, cell_later hb2 hHeld.2.1, cell_later hb2 hHeld.2.2.1, hHeld.2.2.2.1.below hb2, hHeld.2.2.2.2.trans (hb2.mono hHeld.2.2.2.2.size)⟩
            clear hK K hHeld
            have hHeld := hNew
            clear hNew
            try simp only [Act.put, List.setIfInBounds_toArray, List.set_cons_zero, List.set_cons_succ]
            refine takeH (i := 9) (v := ?_) rfl rfl (by kernel_rfl) (by kernel_rfl) (by kernel_rfl) (fun _ _ _ h => h) (by rfl) ?_ (by assumption) ?_
            rotate_left 1
            · intro w hSw
              (try dsimp only at hSw)
              go_simp
              try with_reducible rfl
            try simp only [List.setIfInBounds_toArray, List.set_cons_zero, List.set_cons_succ]
            refine takeH (i := 10) (v := ?_) rfl rfl (by kernel_rfl) (by kernel_rfl) (by kernel_rfl) (fun _ _ _ h => h) (by rfl) ?_ (by assumption) ?_
            rotate_left 1
            · intro w hSw
              (try dsimp only at hSw)
              go_simp
              try with_reducible rfl
            try simp only [List.setIfInBounds_toArray, List.set_cons_zero, List.set_cons_succ]
            refine takeH (i := 11) (v := ?_) rfl rfl (by kernel_rfl) (by kernel_rfl) (by kernel_rfl) (fun _ _ _ h => h) (by rfl) ?_ (by assumption) ?_
            rotate_left 1
            · intro w hSw
              (try dsimp only at hSw)
              go_simp
              try with_reducible rfl
            try simp only [List.setIfInBounds_toArray, List.set_cons_zero, List.set_cons_succ]
            refine takeH (i := 12) (v := ?_) rfl rfl (by kernel_rfl) (by kernel_rfl) (by kernel_rfl) (fun _ _ _ h => h) (by rfl) ?_ (by assumption) ?_
            rotate_left 1
            · intro w hSw
              (try dsimp only at hSw)
              go_simp
              try with_reducible rfl
            try simp only [List.setIfInBounds_toArray, List.set_cons_zero, List.set_cons_succ]
            refine takeH (i := 13) (v := ?_) rfl rfl (by kernel_rfl) (by kernel_rfl) (by kernel_rfl) (fun _ _ _ h => h) (by rfl) ?_ (by assumption) ?_
            rotate_left 1
            · intro w hSw
              (try dsimp only at hSw)
              go_simp
              try with_reducible rfl
            try simp only [List.setIfInBounds_toArray, List.set_cons_zero, List.set_cons_succ]
            refine wpAnyH_done (by kernel_rfl) ?_ _
            have b := hHeld.2.2.2.2
            have HB13 := Lib.hid (HB12.out.trans (b.mono HB12.out.size))
            have Ft_13 := Lib.hid (owns_later Ft_12.out b)
            have Fx_13 := Lib.hid (owns_later Fx_12.out b)
            have Fp_13 := Lib.hid (Fp_12.out.below b)
            have Fr_13 := Lib.hid (Fr_12.out.below b)
            have Fy_13 := Lib.hid (owns_later Fy_12.out b)
            have Fz_13 := Lib.hid (owns_later Fz_12.out b)
            clear b hHeld
            clear Y
            have o := OO.out
            clear OO
            obtain ⟨qv, pv, rfl, tv, nv⟩ := Owns.tabN o
            have Nv := Lib.hid nv
            have Fv_13 := Lib.hid o
            clear tv nv o
            obtain ⟨wZ13, hwZ⟩ : ∃ y, y = W8 := ⟨W8, rfl⟩
            subst hwZ
            have hlv := tput_len (Lz) ((f + sz (c + 1)), c + 1, u)
            have Kv := Lib.hid (tput_ok (T := Lz) (e := ((f + sz (c + 1)), c + 1, u)))
            generalize (tputM Lz ((f + sz (c + 1)), c + 1, u)).1 = Lv at *
            generalize (tputM Lz ((f + sz (c + 1)), c + 1, u)).2 = okv at *
            cases okz with
            | false =>
              go_wp2_with fail
              go_ret
              exact ⟨rfl, HB13.out⟩
            | true =>
              cases okv with
              | false =>
                go_wp2_with fail
                go_ret
                exact ⟨rfl, HB13.out⟩
              | true =>
                have HF : Hid (tsameM Lv T = true) := Lib.hid (by have A := Kz.out rfl; have B := Kv.out rfl; have C := HS.out; rw [← A.2.2.1, ← B.2.2.1] at C; simp [tsameM, B.2.2.2, HO.out, C])
                clear Kz Kv HS
                go_wp2_with fail
                refine (tsame_is HF.out qv _ pv pt _ (owns_tabA Fv_13.out) (owns_tabA Ft_13.out) (by omega) (by omega)).mono ?_
                rintro e w14 ⟨rfl, b⟩
                have HB14 := Lib.hid (HB13.out.trans (b.mono HB13.out.size))
                have Ft_14 := Lib.hid (owns_later Ft_13.out b)
                have Fx_14 := Lib.hid (owns_later Fx_13.out b)
                have Fp_14 := Lib.hid (Fp_13.out.below b)
                have Fr_14 := Lib.hid (Fr_13.out.below b)
                have Fy_14 := Lib.hid (owns_later Fy_13.out b)
                have Fz_14 := Lib.hid (owns_later Fz_13.out b)
                have Fv_14 := Lib.hid (owns_later Fv_13.out b)
                clear b
                go_wp2_with fail
                go_ret
                exact ⟨rfl, HB14.out⟩
      · have hh : halfB f c = false := by rw [← Bool.not_eq_true, halfB_iff]; omega
        obtain rfl : c = 8 := by omega
        go_wp2_with fail
        refine (rhalf_no false hh _).mono ?_
        rintro e w6 ⟨rfl, b⟩
        have HB6 := Lib.hid (HB5.out.trans (b.mono HB5.out.size))
        have Ft_6 := Lib.hid (owns_later Ft_5.out b)
        have Fx_6 := Lib.hid (owns_later Fx_5.out b)
        clear b
        clear x0 x1 x2
        have b := (Below.refl w6.heap.size w6).alloc (Nat.le_refl _) (.cells #[.int .i64 0, .int .i64 0] 35)
        have HB7 := Lib.hid (HB6.out.trans (b.mono HB6.out.size))
        have Ft_7 := Lib.hid (owns_later Ft_6.out b)
        have Fx_7 := Lib.hid (owns_later Fx_6.out b)
        have Fp_7 := Lib.hid (At.new w6 0 0 35)
        have hxp : w6.heap.size < (w6.alloc (.cells #[.int .i64 0, .int .i64 0] 35)).heap.size := by simp
        obtain ⟨x0, x1, x2⟩ := tabA_get (owns_tabA Ft_7.out) HT.out
        clear b
        go_wp2_with fail
        generalize w6.alloc (.cells #[.int .i64 0, .int .i64 0] 35) = w7 at *
        clear x0 x1 x2
        refine (rhalf_no true hh _).mono ?_
        rintro e w8 ⟨rfl, b⟩
        have HB8 := Lib.hid (HB7.out.trans (b.mono HB7.out.size))
        have Ft_8 := Lib.hid (owns_later Ft_7.out b)
        have Fx_8 := Lib.hid (owns_later Fx_7.out b)
        have Fp_8 := Lib.hid (Fp_7.out.below b)
        clear b
        have B9 := (HB8.out.alloc HB8.out.size (.cells #[.int .i64 0, .int .i64 0] 35))
        have HB9 := Lib.hid B9
        clear B9
        go_wp2_with fail
        go_ret
        exact ⟨rfl, HB9.out⟩

end Go.Proofs.Ytmbcfdlemapppaa
