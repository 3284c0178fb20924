/-
  FnPutOrder: the walk.
-/
import Derived.Test.YtmbcfdlemapppaaLawTa
namespace Go.Proofs.Ytmbcfdlemapppaa
open Go.RowKit
set_option linter.unusedSimpArgs false
set_option linter.unusedVariables false

set_option maxRecDepth 100000 in
set_option maxHeartbeats 8000000 in
theorem lawPutOrder (a : Option Addr) (len cap : Nat) (zs : List Int) (a' : Option Addr) (len' cap' : Nat) (zs' : List Int) (w : World) (h : IsRow w a len cap zs) (h' : IsRow w a' len' cap' zs') :
    Calls Try.prog 11 #[.slice a len cap, .slice a' len' cap'] w fun e w' => e = .returned (.bool true) ∧ Below w.heap.size w w' := by
  have H := Lib.hid h
  have hm := isRow_len h
  have hm' := isRow_len h'
  clear h h'
  by_cases hl : 1048576 < len
  · go_enter Try.func11, Try.ntmps11
    go_wp2_with fail
    go_ret
    exact ⟨rfl, Below.refl _ _⟩
  by_cases hl' : 1048576 < len'
  · go_enter Try.func11, Try.ntmps11
    go_wp2_with fail
    go_ret
    exact ⟨rfl, Below.refl _ _⟩
  have HB0 := Lib.hid (Below.refl w.heap.size w)
  go_enter Try.func11, Try.ntmps11
  go_wp2_with fail
  refine (dTabPut_any a len cap zs _ H.out).mono ?_
  rintro e w1 ⟨v, T, f, c, u, hT, rfl, o, b⟩
  have HB1 := Lib.hid (HB0.out.trans (b.mono HB0.out.size))
  obtain ⟨qt, pt, rfl, tt, nt⟩ := Owns.tabN o
  have Nt := Lib.hid nt
  have Ft_1 := Lib.hid o
  clear tt nt o
  clear b
  have b := (Below.refl w1.heap.size w1).alloc (Nat.le_refl _) (.cells #[.int .i64 f, .int .i64 c, .int .i64 u] 37)
  have HB2 := Lib.hid (HB1.out.trans (b.mono HB1.out.size))
  have Ft_2 := Lib.hid (owns_later Ft_1.out b)
  have Fe_2 := Lib.hid (At3.new w1 f c u 37)
  have hxe : w1.heap.size < (w1.alloc (.cells #[.int .i64 f, .int .i64 c, .int .i64 u] 37)).heap.size := by simp
  clear b
  go_wp2_with fail
  generalize w1.alloc (.cells #[.int .i64 f, .int .i64 c, .int .i64 u] 37) = w2 at *
  refine (sput_any qt pt T f c u _ (owns_tabA Ft_2.out) (by omega)).mono ?_
  rintro e w3 ⟨v, rfl, o, b⟩
  have HB3 := Lib.hid (HB2.out.trans (b.mono HB2.out.size))
  have Ft_3 := Lib.hid (owns_later Ft_2.out b)
  have Fe_3 := Lib.hid (Fe_2.out.below b)
  obtain ⟨qs, ps, rfl, ts, ns⟩ := Owns.tabN o
  have Ns := Lib.hid ns
  have Fs_3 := Lib.hid o
  clear ts ns o
  clear b
  obtain ⟨c0, c1, c2⟩ := Fe_3.out
  go_wp2_with fail
  refine (tput_any qt pt T f c u _ (owns_tabA Ft_3.out) (by omega)).mono ?_
  rintro e w4 ⟨v, rfl, o, b⟩
  have HB4 := Lib.hid (HB3.out.trans (b.mono HB3.out.size))
  have Ft_4 := Lib.hid (owns_later Ft_3.out b)
  have Fe_4 := Lib.hid (Fe_3.out.below b)
  have Fs_4 := Lib.hid (owns_later Fs_3.out b)
  obtain ⟨qx, px, rfl, tx, nx⟩ := Owns.tabN o
  have Nx := Lib.hid nx
  have Fx_4 := Lib.hid o
  clear tx nx o
  clear b
  clear c0 c1 c2
  have hUl := tput_len T (f, c, u)
  have HOK := Lib.hid (tput_ok (T := T) (e := (f, c, u)))
  have HM := Lib.hid (show tputM T (f, c, u) = ((tputM T (f, c, u)).1, (tputM T (f, c, u)).2) from rfl)
  generalize (tputM T (f, c, u)).1 = U at *
  generalize (tputM T (f, c, u)).2 = ok at *
  cases ok with
  | false =>
    go_wp2_with fail
    refine (ly_same qx qs px ps U _ (owns_tabA Fx_4.out) (owns_tabA Fs_4.out) (by omega)).mono ?_
    rintro e w5 ⟨rfl, b⟩
    have HB5 := Lib.hid (HB4.out.trans (b.mono HB4.out.size))
    have Ft_5 := Lib.hid (owns_later Ft_4.out b)
    have Fe_5 := Lib.hid (Fe_4.out.below b)
    have Fs_5 := Lib.hid (owns_later Fs_4.out b)
    have Fx_5 := Lib.hid (owns_later Fx_4.out b)
    clear b
    go_wp2_with fail
    refine (ly_same qx qs px ps U _ (owns_tabA Fx_5.out) (owns_tabA Fs_5.out) (by omega)).mono ?_
    rintro e w6 ⟨rfl, b⟩
    have HB6 := Lib.hid (HB5.out.trans (b.mono HB5.out.size))
    have Ft_6 := Lib.hid (owns_later Ft_5.out b)
    have Fe_6 := Lib.hid (Fe_5.out.below b)
    have Fs_6 := Lib.hid (owns_later Fs_5.out b)
    have Fx_6 := Lib.hid (owns_later Fx_5.out b)
    clear b
    go_wp2_with fail
    go_ret
    exact ⟨rfl, HB6.out⟩
  | true =>
    have HU := Lib.hid (HOK.out rfl)
    clear HOK
    go_wp2_with fail
    refine (ly_same qx qs px ps U _ (owns_tabA Fx_4.out) (owns_tabA Fs_4.out) (by omega)).mono ?_
    rintro e w5 ⟨rfl, b⟩
    have HB5 := Lib.hid (HB4.out.trans (b.mono HB4.out.size))
    have Ft_5 := Lib.hid (owns_later Ft_4.out b)
    have Fe_5 := Lib.hid (Fe_4.out.below b)
    have Fs_5 := Lib.hid (owns_later Fs_4.out b)
    have Fx_5 := Lib.hid (owns_later Fx_4.out b)
    clear b
    have HG := Lib.hid ((tab_good HU.out.1).1)
    go_wp2_with fail
    refine (lyR_any len' _ (by omega)).mono ?_
    rintro e w6 ⟨g, d, hgd, rfl, b⟩
    have HB6 := Lib.hid (HB5.out.trans (b.mono HB5.out.size))
    have Ft_6 := Lib.hid (owns_later Ft_5.out b)
    have Fe_6 := Lib.hid (Fe_5.out.below b)
    have Fx_6 := Lib.hid (owns_later Fx_5.out b)
    clear b
    have hz0 : 0 ≤ (len' : Int) % 9 ∧ (len' : Int) % 9 < 9 := ⟨by omega, by omega⟩
    have b := (Below.refl w6.heap.size w6).alloc (Nat.le_refl _) (.cells #[.int .i64 g, .int .i64 d, .int .i64 (1 + (len' : Int) % 9)] 37)
    have HB7 := Lib.hid (HB6.out.trans (b.mono HB6.out.size))
    have Ft_7 := Lib.hid (owns_later Ft_6.out b)
    have Fe_7 := Lib.hid (Fe_6.out.below b)
    have Fx_7 := Lib.hid (owns_later Fx_6.out b)
    have Ff_7 := Lib.hid (At3.new w6 g d (1 + (len' : Int) % 9) 37)
    have hxf : w6.heap.size < (w6.alloc (.cells #[.int .i64 g, .int .i64 d, .int .i64 (1 + (len' : Int) % 9)] 37)).heap.size := by simp
    clear b
    go_wp2_with fail
    generalize w6.alloc (.cells #[.int .i64 g, .int .i64 d, .int .i64 (1 + (len' : Int) % 9)] 37) = w7 at *
    have hF : entOk (g, d, (1 + (len' : Int) % 9)) = true := (entOk_iff _).2 ⟨hgd, by show 1 ≤ (1 + (len' : Int) % 9); omega, by show (1 + (len' : Int) % 9) ≤ 9; omega⟩
    have HF := Lib.hid hF
    clear hF hgd
    refine (tput_any qx px U g d (1 + (len' : Int) % 9) _ (owns_tabA Fx_7.out) (by omega)).mono ?_
    rintro e w8 ⟨v, rfl, o, b⟩
    have HB8 := Lib.hid (HB7.out.trans (b.mono HB7.out.size))
    have Ft_8 := Lib.hid (owns_later Ft_7.out b)
    have Fe_8 := Lib.hid (Fe_7.out.below b)
    have Fx_8 := Lib.hid (owns_later Fx_7.out b)
    have Ff_8 := Lib.hid (Ff_7.out.below b)
    obtain ⟨qy, py, rfl, ty, ny⟩ := Owns.tabN o
    have Ny := Lib.hid ny
    have Fy_8 := Lib.hid o
    clear ty ny o
    clear b
    have hly := tput_len U (g, d, (1 + (len' : Int) % 9))
    have Ky := Lib.hid (tput_ok (T := U) (e := (g, d, (1 + (len' : Int) % 9))))
    have My := Lib.hid (show tputM U (g, d, (1 + (len' : Int) % 9)) = ((tputM U (g, d, (1 + (len' : Int) % 9))).1, (tputM U (g, d, (1 + (len' : Int) % 9))).2) from rfl)
    generalize (tputM U (g, d, (1 + (len' : Int) % 9))).1 = Ly at *
    generalize (tputM U (g, d, (1 + (len' : Int) % 9))).2 = oky at *
    obtain ⟨c0, c1, c2⟩ := Ff_8.out
    go_wp2_with fail
    refine (tput_any qt pt T g d (1 + (len' : Int) % 9) _ (owns_tabA Ft_8.out) (by omega)).mono ?_
    rintro e w9 ⟨v, rfl, o, b⟩
    have HB9 := Lib.hid (HB8.out.trans (b.mono HB8.out.size))
    have Ft_9 := Lib.hid (owns_later Ft_8.out b)
    have Fe_9 := Lib.hid (Fe_8.out.below b)
    have Fx_9 := Lib.hid (owns_later Fx_8.out b)
    have Ff_9 := Lib.hid (Ff_8.out.below b)
    have Fy_9 := Lib.hid (owns_later Fy_8.out b)
    obtain ⟨qu, pu, rfl, tu, nu⟩ := Owns.tabN o
    have Nu := Lib.hid nu
    have Fu_9 := Lib.hid o
    clear tu nu o
    clear b
    have hlu := tput_len T (g, d, (1 + (len' : Int) % 9))
    have Ku := Lib.hid (tput_ok (T := T) (e := (g, d, (1 + (len' : Int) % 9))))
    have Mu := Lib.hid (show tputM T (g, d, (1 + (len' : Int) % 9)) = ((tputM T (g, d, (1 + (len' : Int) % 9))).1, (tputM T (g, d, (1 + (len' : Int) % 9))).2) from rfl)
    generalize (tputM T (g, d, (1 + (len' : Int) % 9))).1 = Lu at *
    generalize (tputM T (g, d, (1 + (len' : Int) % 9))).2 = oku at *
    clear c0 c1 c2
    obtain ⟨c0, c1, c2⟩ := Fe_9.out
    go_wp2_with fail
    refine (tput_any qu pu Lu f c u _ (owns_tabA Fu_9.out) (by omega)).mono ?_
    rintro e w10 ⟨v, rfl, o, b⟩
    have HB10 := Lib.hid (HB9.out.trans (b.mono HB9.out.size))
    have Ft_10 := Lib.hid (owns_later Ft_9.out b)
    have Fe_10 := Lib.hid (Fe_9.out.below b)
    have Fx_10 := Lib.hid (owns_later Fx_9.out b)
    have Ff_10 := Lib.hid (Ff_9.out.below b)
    have Fy_10 := Lib.hid (owns_later Fy_9.out b)
    have Fu_10 := Lib.hid (owns_later Fu_9.out b)
    obtain ⟨qv, pv, rfl, tv, nv⟩ := Owns.tabN o
    have Nv := Lib.hid nv
    have Fv_10 := Lib.hid o
    clear tv nv o
    clear b
    have hlv := tput_len Lu (f, c, u)
    have Kv := Lib.hid (tput_ok (T := Lu) (e := (f, c, u)))
    have Mv := Lib.hid (show tputM Lu (f, c, u) = ((tputM Lu (f, c, u)).1, (tputM Lu (f, c, u)).2) from rfl)
    generalize (tputM Lu (f, c, u)).1 = Lv at *
    generalize (tputM Lu (f, c, u)).2 = okv at *
    clear c0 c1 c2
    cases oky with
    | false =>
      go_wp2_with fail
      go_ret
      exact ⟨rfl, HB10.out⟩
    | true =>
      cases oku with
      | false =>
        go_wp2_with fail
        go_ret
        exact ⟨rfl, HB10.out⟩
      | true =>
        cases okv with
        | false =>
          go_wp2_with fail
          go_ret
          exact ⟨rfl, HB10.out⟩
        | true =>
          have Y := Ky.out rfl
          have Z := Ku.out rfl
          have V := Kv.out rfl
          have HE1 : Hid ((g = f ∧ d = c) → Ly = Lu) := Lib.hid (fun h => by rw [Y.2.2.1, Z.2.2.1, HU.out.2.2.1]; exact put_put_same HG.out HU.out.2.1 HF.out h)
          have HE2 : Hid (¬ (g = f ∧ d = c) → Ly = Lv) := Lib.hid (fun h => by rw [Y.2.2.1, V.2.2.1, Z.2.2.1, HU.out.2.2.1]; exact put_put_swap HG.out HU.out.2.1 HF.out h)
          clear Y Z V Ky Ku Kv My Mu Mv
          have hq : ∀ W, (binOp .eql 35 (.agg #[.int .i64 g, .int .i64 d]) (.agg #[.int .i64 f, .int .i64 c])).run Try.prog W = .ok (.bool (decide (g = f ∧ d = c))) W := fun W => eqlR g d f c W
          obtain ⟨c0, c1, c2⟩ := Fe_10.out
          obtain ⟨d0, d1, d2⟩ := Ff_10.out
          by_cases hs : g = f ∧ d = c
          · obtain rfl := HE1.out hs
            have hd : decide (g = f ∧ d = c) = true := by simp [hs]
            have hq2 : ∀ W, (binOp .eql 35 (.agg #[.int .i64 g, .int .i64 d]) (.agg #[.int .i64 f, .int .i64 c])).run Try.prog W = .ok (.bool true) W := fun W => by rw [hq, hd]
            clear hq hd hs
            go_wp2_with fail
            refine (ly_same qy qu py pu Ly _ (owns_tabA Fy_10.out) (owns_tabA Fu_10.out) (by omega)).mono ?_
            rintro e w11 ⟨rfl, b⟩
            have HB11 := Lib.hid (HB10.out.trans (b.mono HB10.out.size))
            have Ft_11 := Lib.hid (owns_later Ft_10.out b)
            have Fe_11 := Lib.hid (Fe_10.out.below b)
            have Fx_11 := Lib.hid (owns_later Fx_10.out b)
            have Ff_11 := Lib.hid (Ff_10.out.below b)
            have Fy_11 := Lib.hid (owns_later Fy_10.out b)
            have Fu_11 := Lib.hid (owns_later Fu_10.out b)
            have Fv_11 := Lib.hid (owns_later Fv_10.out b)
            clear b
            go_wp2_with fail
            go_ret
            exact ⟨rfl, HB11.out⟩
          · obtain rfl := HE2.out hs
            have hd : decide (g = f ∧ d = c) = false := by simp [hs]
            have hq2 : ∀ W, (binOp .eql 35 (.agg #[.int .i64 g, .int .i64 d]) (.agg #[.int .i64 f, .int .i64 c])).run Try.prog W = .ok (.bool false) W := fun W => by rw [hq, hd]
            clear hq hd hs
            go_wp2_with fail
            refine (ly_same qy qv py pv Ly _ (owns_tabA Fy_10.out) (owns_tabA Fv_10.out) (by omega)).mono ?_
            rintro e w11 ⟨rfl, b⟩
            have HB11 := Lib.hid (HB10.out.trans (b.mono HB10.out.size))
            have Ft_11 := Lib.hid (owns_later Ft_10.out b)
            have Fe_11 := Lib.hid (Fe_10.out.below b)
            have Fx_11 := Lib.hid (owns_later Fx_10.out b)
            have Ff_11 := Lib.hid (Ff_10.out.below b)
            have Fy_11 := Lib.hid (owns_later Fy_10.out b)
            have Fu_11 := Lib.hid (owns_later Fu_10.out b)
            have Fv_11 := Lib.hid (owns_later Fv_10.out b)
            clear b
            go_wp2_with fail
            go_ret
            exact ⟨rfl, HB11.out⟩

end Go.Proofs.Ytmbcfdlemapppaa
