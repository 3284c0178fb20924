/-
  FnTableHalves: the walk.
-/
import Derived.Test.YtmbcfdlemapppaaLawTa
namespace Go.Proofs.Ytmbcfdlemapppaa
open Go.RowKit
set_option linter.unusedSimpArgs false
set_option linter.unusedVariables false

set_option maxRecDepth 100000 in
set_option maxHeartbeats 8000000 in
theorem lawTableHalves (a : Option Addr) (len cap : Nat) (zs : List Int) (a' : Option Addr) (len' cap' : Nat) (zs' : List Int) (w : World) (h : IsRow w a len cap zs) (h' : IsRow w a' len' cap' zs') :
    Calls Try.prog 20 #[.slice a len cap, .slice a' len' cap'] w fun e w' => e = .returned (.bool true) ∧ Below w.heap.size w w' := by
  have H := Lib.hid h
  have hm := isRow_len h
  have hm' := isRow_len h'
  clear h h'
  by_cases hl : 1048576 < len
  · go_enter Try.func20, Try.ntmps20
    go_wp2_with fail
    go_ret
    exact ⟨rfl, Below.refl _ _⟩
  by_cases hl' : 1048576 < len'
  · go_enter Try.func20, Try.ntmps20
    go_wp2_with fail
    go_ret
    exact ⟨rfl, Below.refl _ _⟩
  have HB0 := Lib.hid (Below.refl w.heap.size w)
  go_enter Try.func20, Try.ntmps20
  go_wp2_with fail
  refine (dTabPut_any a len cap zs _ H.out).mono ?_
  rintro e w1 ⟨v, T, f, c, u, hT, rfl, o, b⟩
  have HB1 := Lib.hid (HB0.out.trans (b.mono HB0.out.size))
  obtain ⟨qt, pt, rfl, tt, nt⟩ := Owns.tabN o
  have Nt := Lib.hid nt
  have Ft_1 := Lib.hid o
  clear tt nt o
  clear b
  have b := (Below.refl w1.heap.size w1).alloc (Nat.le_refl _) (.cells #[.int .i64 f, .int .i64 c, .int .i64 u] 37)
  have HB2 := Lib.hid (HB1.out.trans (b.mono HB1.out.size))
  have Ft_2 := Lib.hid (owns_later Ft_1.out b)
  have Fe_2 := Lib.hid (At3.new w1 f c u 37)
  have hxe : w1.heap.size < (w1.alloc (.cells #[.int .i64 f, .int .i64 c, .int .i64 u] 37)).heap.size := by simp
  clear b
  go_wp2_with fail
  generalize w1.alloc (.cells #[.int .i64 f, .int .i64 c, .int .i64 u] 37) = w2 at *
  refine (sput_any qt pt T f c u _ (owns_tabA Ft_2.out) (by omega)).mono ?_
  rintro e w3 ⟨v, rfl, o, b⟩
  have HB3 := Lib.hid (HB2.out.trans (b.mono HB2.out.size))
  have Ft_3 := Lib.hid (owns_later Ft_2.out b)
  have Fe_3 := Lib.hid (Fe_2.out.below b)
  obtain ⟨qs, ps, rfl, ts, ns⟩ := Owns.tabN o
  have Ns := Lib.hid ns
  have Fs_3 := Lib.hid o
  clear ts ns o
  clear b
  obtain ⟨c0, c1, c2⟩ := Fe_3.out
  go_wp2_with fail
  refine (tput_any qt pt T f c u _ (owns_tabA Ft_3.out) (by omega)).mono ?_
  rintro e w4 ⟨v, rfl, o, b⟩
  have HB4 := Lib.hid (HB3.out.trans (b.mono HB3.out.size))
  have Ft_4 := Lib.hid (owns_later Ft_3.out b)
  have Fe_4 := Lib.hid (Fe_3.out.below b)
  have Fs_4 := Lib.hid (owns_later Fs_3.out b)
  obtain ⟨qx, px, rfl, tx, nx⟩ := Owns.tabN o
  have Nx := Lib.hid nx
  have Fx_4 := Lib.hid o
  clear tx nx o
  clear b
  clear c0 c1 c2
  have hUl := tput_len T (f, c, u)
  have HOK := Lib.hid (tput_ok (T := T) (e := (f, c, u)))
  have HM := Lib.hid (show tputM T (f, c, u) = ((tputM T (f, c, u)).1, (tputM T (f, c, u)).2) from rfl)
  generalize (tputM T (f, c, u)).1 = U at *
  generalize (tputM T (f, c, u)).2 = ok at *
  cases ok with
  | false =>
    go_wp2_with fail
    refine (ly_same qx qs px ps U _ (owns_tabA Fx_4.out) (owns_tabA Fs_4.out) (by omega)).mono ?_
    rintro e w5 ⟨rfl, b⟩
    have HB5 := Lib.hid (HB4.out.trans (b.mono HB4.out.size))
    have Ft_5 := Lib.hid (owns_later Ft_4.out b)
    have Fe_5 := Lib.hid (Fe_4.out.below b)
    have Fs_5 := Lib.hid (owns_later Fs_4.out b)
    have Fx_5 := Lib.hid (owns_later Fx_4.out b)
    clear b
    go_wp2_with fail
    refine (ly_same qx qs px ps U _ (owns_tabA Fx_5.out) (owns_tabA Fs_5.out) (by omega)).mono ?_
    rintro e w6 ⟨rfl, b⟩
    have HB6 := Lib.hid (HB5.out.trans (b.mono HB5.out.size))
    have Ft_6 := Lib.hid (owns_later Ft_5.out b)
    have Fe_6 := Lib.hid (Fe_5.out.below b)
    have Fs_6 := Lib.hid (owns_later Fs_5.out b)
    have Fx_6 := Lib.hid (owns_later Fx_5.out b)
    clear b
    go_wp2_with fail
    go_ret
    exact ⟨rfl, HB6.out⟩
  | true =>
    have HU := Lib.hid (HOK.out rfl)
    clear HOK
    go_wp2_with fail
    refine (ly_same qx qs px ps U _ (owns_tabA Fx_4.out) (owns_tabA Fs_4.out) (by omega)).mono ?_
    rintro e w5 ⟨rfl, b⟩
    have HB5 := Lib.hid (HB4.out.trans (b.mono HB4.out.size))
    have Ft_5 := Lib.hid (owns_later Ft_4.out b)
    have Fe_5 := Lib.hid (Fe_4.out.below b)
    have Fs_5 := Lib.hid (owns_later Fs_4.out b)
    have Fx_5 := Lib.hid (owns_later Fx_4.out b)
    clear b
    have HG := Lib.hid ((tab_good HU.out.1).1)
    have okfc : okB f c = true := ((entOk_iff _).1 HU.out.2.1).1
    have hb8 := ((okB_iff _ _).1 okfc).2.1
    by_cases h8 : c < 8
    · have hh : halfB f c = true := (halfB_iff f c).2 ⟨okfc, h8⟩
      obtain ⟨c0, c1, c2⟩ := Fe_5.out
      go_wp2_with fail
      refine (rhalf_lo hh _).mono ?_
      rintro e w6 ⟨rfl, b⟩
      have HB6 := Lib.hid (HB5.out.trans (b.mono HB5.out.size))
      have Ft_6 := Lib.hid (owns_later Ft_5.out b)
      have Fe_6 := Lib.hid (Fe_5.out.below b)
      have Fx_6 := Lib.hid (owns_later Fx_5.out b)
      clear b
      clear c0 c1 c2
      have b := (Below.refl w6.heap.size w6).alloc (Nat.le_refl _) (.cells #[.int .i64 f, .int .i64 (c + 1)] 35)
      have HB7 := Lib.hid (HB6.out.trans (b.mono HB6.out.size))
      have Ft_7 := Lib.hid (owns_later Ft_6.out b)
      have Fe_7 := Lib.hid (Fe_6.out.below b)
      have Fx_7 := Lib.hid (owns_later Fx_6.out b)
      have Fp_7 := Lib.hid (At.new w6 f (c + 1) 35)
      have hxp : w6.heap.size < (w6.alloc (.cells #[.int .i64 f, .int .i64 (c + 1)] 35)).heap.size := by simp
      obtain ⟨c0, c1, c2⟩ := id Fe_7.out
      clear b
      go_wp2_with fail
      generalize w6.alloc (.cells #[.int .i64 f, .int .i64 (c + 1)] 35) = w7 at *
      clear c0 c1 c2
      refine (rhalf_up hh _).mono ?_
      rintro e w8 ⟨rfl, b⟩
      have HB8 := Lib.hid (HB7.out.trans (b.mono HB7.out.size))
      have Ft_8 := Lib.hid (owns_later Ft_7.out b)
      have Fe_8 := Lib.hid (Fe_7.out.below b)
      have Fx_8 := Lib.hid (owns_later Fx_7.out b)
      have Fp_8 := Lib.hid (Fp_7.out.below b)
      clear b
      have b := (Below.refl w8.heap.size w8).alloc (Nat.le_refl _) (.cells #[.int .i64 (f + sz (c + 1)), .int .i64 (c + 1)] 35)
      have HB9 := Lib.hid (HB8.out.trans (b.mono HB8.out.size))
      have Ft_9 := Lib.hid (owns_later Ft_8.out b)
      have Fe_9 := Lib.hid (Fe_8.out.below b)
      have Fx_9 := Lib.hid (owns_later Fx_8.out b)
      have Fp_9 := Lib.hid (Fp_8.out.below b)
      have Fr_9 := Lib.hid (At.new w8 (f + sz (c + 1)) (c + 1) 35)
      have hxr : w8.heap.size < (w8.alloc (.cells #[.int .i64 (f + sz (c + 1)), .int .i64 (c + 1)] 35)).heap.size := by simp
      obtain ⟨c0, c1, _, _⟩ := id Fp_9.out
      clear b
      go_wp2_with fail
      generalize w8.alloc (.cells #[.int .i64 (f + sz (c + 1)), .int .i64 (c + 1)] 35) = w9 at *
      clear c0 c1
      have hz0 : 0 ≤ (len' : Int) % 9 ∧ (len' : Int) % 9 < 9 := ⟨by omega, by omega⟩
      refine (tput_any qx px U f (c + 1) (1 + (len' : Int) % 9) _ (owns_tabA Fx_9.out) (by omega)).mono ?_
      rintro e w10 ⟨v, rfl, o, b⟩
      have HB10 := Lib.hid (HB9.out.trans (b.mono HB9.out.size))
      have Ft_10 := Lib.hid (owns_later Ft_9.out b)
      have Fe_10 := Lib.hid (Fe_9.out.below b)
      have Fx_10 := Lib.hid (owns_later Fx_9.out b)
      have Fp_10 := Lib.hid (Fp_9.out.below b)
      have Fr_10 := Lib.hid (Fr_9.out.below b)
      obtain ⟨qy, py, rfl, ty, ny⟩ := Owns.tabN o
      have Ny := Lib.hid ny
      have Fy_10 := Lib.hid o
      clear ty ny o
      clear b
      have hly := tput_len U (f, (c + 1), (1 + (len' : Int) % 9))
      have Ky := Lib.hid (tput_ok (T := U) (e := (f, (c + 1), (1 + (len' : Int) % 9))))
      have My := Lib.hid (show tputM U (f, (c + 1), (1 + (len' : Int) % 9)) = ((tputM U (f, (c + 1), (1 + (len' : Int) % 9))).1, (tputM U (f, (c + 1), (1 + (len' : Int) % 9))).2) from rfl)
      generalize (tputM U (f, (c + 1), (1 + (len' : Int) % 9))).1 = Ly at *
      generalize (tputM U (f, (c + 1), (1 + (len' : Int) % 9))).2 = oky at *
      obtain ⟨c0, c1, _, _⟩ := id Fr_10.out
      go_wp2_with fail
      refine (tput_any qy py Ly (f + sz (c + 1)) (c + 1) 3 _ (owns_tabA Fy_10.out) (by omega)).mono ?_
      rintro e w11 ⟨v, rfl, o, b⟩
      have HB11 := Lib.hid (HB10.out.trans (b.mono HB10.out.size))
      have Ft_11 := Lib.hid (owns_later Ft_10.out b)
      have Fe_11 := Lib.hid (Fe_10.out.below b)
      have Fx_11 := Lib.hid (owns_later Fx_10.out b)
      have Fp_11 := Lib.hid (Fp_10.out.below b)
      have Fr_11 := Lib.hid (Fr_10.out.below b)
      have Fy_11 := Lib.hid (owns_later Fy_10.out b)
      obtain ⟨qz, pz, rfl, tz, nz⟩ := Owns.tabN o
      have Nz := Lib.hid nz
      have Fz_11 := Lib.hid o
      clear tz nz o
      clear b
      have hlz := tput_len Ly ((f + sz (c + 1)), (c + 1), 3)
      have Kz := Lib.hid (tput_ok (T := Ly) (e := ((f + sz (c + 1)), (c + 1), 3)))
      have Mz := Lib.hid (show tputM Ly ((f + sz (c + 1)), (c + 1), 3) = ((tputM Ly ((f + sz (c + 1)), (c + 1), 3)).1, (tputM Ly ((f + sz (c + 1)), (c + 1), 3)).2) from rfl)
      generalize (tputM Ly ((f + sz (c + 1)), (c + 1), 3)).1 = Lz at *
      generalize (tputM Ly ((f + sz (c + 1)), (c + 1), 3)).2 = okz at *
      clear c0 c1
      have K : Hid (oky = true → okz = true → (f, c + 1, (1 + (len' : Int) % 9)) ∈ Lz ∧ (f + sz (c + 1), c + 1, 3) ∈ Lz ∧ (f, c, u) ∈ Lz ∧ tabOk Lz = true) := Lib.hid (fun e1 e2 => halves_in HG.out HU.out h8 (Ky.out e1) (Kz.out e2))
      clear Ky Kz My Mz
      cases oky with
      | false =>
        obtain ⟨c0, c1, c2⟩ := Fe_11.out
        go_wp2_with fail
        refine (tdrop_any qz pz Lz f c _ (owns_tabA Fz_11.out) (by omega)).mono ?_
        rintro e w12 ⟨v, rfl, o, b⟩
        have HB12 := Lib.hid (HB11.out.trans (b.mono HB11.out.size))
        have Ft_12 := Lib.hid (owns_later Ft_11.out b)
        have Fe_12 := Lib.hid (Fe_11.out.below b)
        have Fx_12 := Lib.hid (owns_later Fx_11.out b)
        have Fp_12 := Lib.hid (Fp_11.out.below b)
        have Fr_12 := Lib.hid (Fr_11.out.below b)
        have Fy_12 := Lib.hid (owns_later Fy_11.out b)
        have Fz_12 := Lib.hid (owns_later Fz_11.out b)
        obtain ⟨ql, pl, rfl, tl, nl⟩ := Owns.tabN o
        have Nl := Lib.hid nl
        have Fl_12 := Lib.hid o
        clear tl nl o
        clear b
        clear c0 c1 c2
        go_wp2_with fail
        go_ret
        exact ⟨rfl, HB12.out⟩
      | true =>
        cases okz with
        | false =>
          obtain ⟨c0, c1, c2⟩ := Fe_11.out
          go_wp2_with fail
          refine (tdrop_any qz pz Lz f c _ (owns_tabA Fz_11.out) (by omega)).mono ?_
          rintro e w12 ⟨v, rfl, o, b⟩
          have HB12 := Lib.hid (HB11.out.trans (b.mono HB11.out.size))
          have Ft_12 := Lib.hid (owns_later Ft_11.out b)
          have Fe_12 := Lib.hid (Fe_11.out.below b)
          have Fx_12 := Lib.hid (owns_later Fx_11.out b)
          have Fp_12 := Lib.hid (Fp_11.out.below b)
          have Fr_12 := Lib.hid (Fr_11.out.below b)
          have Fy_12 := Lib.hid (owns_later Fy_11.out b)
          have Fz_12 := Lib.hid (owns_later Fz_11.out b)
          obtain ⟨ql, pl, rfl, tl, nl⟩ := Owns.tabN o
          have Nl := Lib.hid nl
          have Fl_12 := Lib.hid o
          clear tl nl o
          clear b
          clear c0 c1 c2
          go_wp2_with fail
          go_ret
          exact ⟨rfl, HB12.out⟩
        | true =>
          obtain ⟨k1, k2, k3, k4⟩ := K.out rfl rfl
          have HD := Lib.hid (drop_in k4 k3)
          have HS := Lib.hid (halves_same k4 okfc h8 k1 k2)
          have hdl := drop_len Lz f c
          clear K k1 k2 k3 k4
          obtain ⟨c0, c1, c2⟩ := Fe_11.out
          go_wp2_with fail
          refine (tdrop_is HD.out qz pz _ (owns_tabA Fz_11.out) (by omega)).mono ?_
          rintro e w12 ⟨v, rfl, o, b⟩
          have HB12 := Lib.hid (HB11.out.trans (b.mono HB11.out.size))
          have Ft_12 := Lib.hid (owns_later Ft_11.out b)
          have Fe_12 := Lib.hid (Fe_11.out.below b)
          have Fx_12 := Lib.hid (owns_later Fx_11.out b)
          have Fp_12 := Lib.hid (Fp_11.out.below b)
          have Fr_12 := Lib.hid (Fr_11.out.below b)
          have Fy_12 := Lib.hid (owns_later Fy_11.out b)
          have Fz_12 := Lib.hid (owns_later Fz_11.out b)
          obtain ⟨ql, pl, rfl, tl, nl⟩ := Owns.tabN o
          have Nl := Lib.hid nl
          have Fl_12 := Lib.hid o
          clear tl nl o
          clear b
          clear c0 c1 c2
          go_wp2_with fail
          refine (tsame_is HS.out ql qz pl pz _ (owns_tabA Fl_12.out) (owns_tabA Fz_12.out) (by omega) (by omega)).mono ?_
          rintro e w13 ⟨rfl, b⟩
          have HB13 := Lib.hid (HB12.out.trans (b.mono HB12.out.size))
          have Ft_13 := Lib.hid (owns_later Ft_12.out b)
          have Fe_13 := Lib.hid (Fe_12.out.below b)
          have Fx_13 := Lib.hid (owns_later Fx_12.out b)
          have Fp_13 := Lib.hid (Fp_12.out.below b)
          have Fr_13 := Lib.hid (Fr_12.out.below b)
          have Fy_13 := Lib.hid (owns_later Fy_12.out b)
          have Fz_13 := Lib.hid (owns_later Fz_12.out b)
          have Fl_13 := Lib.hid (owns_later Fl_12.out b)
          clear b
          go_wp2_with fail
          go_ret
          exact ⟨rfl, HB13.out⟩
    · have hh : halfB f c = false := by rw [← Bool.not_eq_true, halfB_iff]; omega
      obtain rfl : c = 8 := by omega
      obtain ⟨c0, c1, c2⟩ := Fe_5.out
      go_wp2_with fail
      refine (rhalf_no false hh _).mono ?_
      rintro e w6 ⟨rfl, b⟩
      have HB6 := Lib.hid (HB5.out.trans (b.mono HB5.out.size))
      have Ft_6 := Lib.hid (owns_later Ft_5.out b)
      have Fe_6 := Lib.hid (Fe_5.out.below b)
      have Fx_6 := Lib.hid (owns_later Fx_5.out b)
      clear b
      clear c0 c1 c2
      have b := (Below.refl w6.heap.size w6).alloc (Nat.le_refl _) (.cells #[.int .i64 0, .int .i64 0] 35)
      have HB7 := Lib.hid (HB6.out.trans (b.mono HB6.out.size))
      have Ft_7 := Lib.hid (owns_later Ft_6.out b)
      have Fe_7 := Lib.hid (Fe_6.out.below b)
      have Fx_7 := Lib.hid (owns_later Fx_6.out b)
      have Fp_7 := Lib.hid (At.new w6 0 0 35)
      have hxp : w6.heap.size < (w6.alloc (.cells #[.int .i64 0, .int .i64 0] 35)).heap.size := by simp
      obtain ⟨c0, c1, c2⟩ := id Fe_7.out
      clear b
      go_wp2_with fail
      generalize w6.alloc (.cells #[.int .i64 0, .int .i64 0] 35) = w7 at *
      clear c0 c1 c2
      refine (rhalf_no true hh _).mono ?_
      rintro e w8 ⟨rfl, b⟩
      have HB8 := Lib.hid (HB7.out.trans (b.mono HB7.out.size))
      have Ft_8 := Lib.hid (owns_later Ft_7.out b)
      have Fe_8 := Lib.hid (Fe_7.out.below b)
      have Fx_8 := Lib.hid (owns_later Fx_7.out b)
      have Fp_8 := Lib.hid (Fp_7.out.below b)
      clear b
      obtain ⟨c0, c1, c2⟩ := Fe_8.out.alloc (.cells #[.int .i64 0, .int .i64 0] 35)
      have B9 := (HB8.out.alloc HB8.out.size (.cells #[.int .i64 0, .int .i64 0] 35))
      have HB9 := Lib.hid B9
      clear B9
      go_wp2_with fail
      go_ret
      exact ⟨rfl, HB9.out⟩

end Go.Proofs.Ytmbcfdlemapppaa
