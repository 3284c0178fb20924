/-
  FnPutSame: the walk.
-/
import Derived.Test.YtmbcfdlemapppaaLawTa
namespace Go.Proofs.Ytmbcfdlemapppaa
open Go.RowKit
set_option linter.unusedSimpArgs false
set_option linter.unusedVariables false

set_option maxRecDepth 100000 in
set_option maxHeartbeats 8000000 in
theorem lawPutSame (a : Option Addr) (len cap : Nat) (zs : List Int) (w : World) (h : IsRow w a len cap zs) :
    Calls Try.prog 17 #[.slice a len cap] w fun e w' => e = .returned (.bool true) ∧ Below w.heap.size w w' := by
  have H := Lib.hid h
  have hm := isRow_len h
  clear h
  by_cases hl : 1048576 < len
  · go_enter Try.func17, Try.ntmps17
    go_wp2_with fail
    go_ret
    exact ⟨rfl, Below.refl _ _⟩
  have HB0 := Lib.hid (Below.refl w.heap.size w)
  go_enter Try.func17, Try.ntmps17
  go_wp2_with fail
  refine (dTabPut_any a len cap zs _ H.out).mono ?_
  rintro e w1 ⟨v, T, f, c, u, hT, rfl, o, b⟩
  have HB1 := Lib.hid (HB0.out.trans (b.mono HB0.out.size))
  obtain ⟨qt, pt, rfl, tt, nt⟩ := Owns.tabN o
  have Nt := Lib.hid nt
  have Ft_1 := Lib.hid o
  clear tt nt o
  clear b
  have b := (Below.refl w1.heap.size w1).alloc (Nat.le_refl _) (.cells #[.int .i64 f, .int .i64 c, .int .i64 u] 37)
  have HB2 := Lib.hid (HB1.out.trans (b.mono HB1.out.size))
  have Ft_2 := Lib.hid (owns_later Ft_1.out b)
  have Fe_2 := Lib.hid (At3.new w1 f c u 37)
  have hxe : w1.heap.size < (w1.alloc (.cells #[.int .i64 f, .int .i64 c, .int .i64 u] 37)).heap.size := by simp
  clear b
  go_wp2_with fail
  generalize w1.alloc (.cells #[.int .i64 f, .int .i64 c, .int .i64 u] 37) = w2 at *
  refine (sput_any qt pt T f c u _ (owns_tabA Ft_2.out) (by omega)).mono ?_
  rintro e w3 ⟨v, rfl, o, b⟩
  have HB3 := Lib.hid (HB2.out.trans (b.mono HB2.out.size))
  have Ft_3 := Lib.hid (owns_later Ft_2.out b)
  have Fe_3 := Lib.hid (Fe_2.out.below b)
  obtain ⟨qs, ps, rfl, ts, ns⟩ := Owns.tabN o
  have Ns := Lib.hid ns
  have Fs_3 := Lib.hid o
  clear ts ns o
  clear b
  obtain ⟨c0, c1, c2⟩ := Fe_3.out
  go_wp2_with fail
  refine (tput_any qt pt T f c u _ (owns_tabA Ft_3.out) (by omega)).mono ?_
  rintro e w4 ⟨v, rfl, o, b⟩
  have HB4 := Lib.hid (HB3.out.trans (b.mono HB3.out.size))
  have Ft_4 := Lib.hid (owns_later Ft_3.out b)
  have Fe_4 := Lib.hid (Fe_3.out.below b)
  have Fs_4 := Lib.hid (owns_later Fs_3.out b)
  obtain ⟨qx, px, rfl, tx, nx⟩ := Owns.tabN o
  have Nx := Lib.hid nx
  have Fx_4 := Lib.hid o
  clear tx nx o
  clear b
  clear c0 c1 c2
  have hUl := tput_len T (f, c, u)
  have HOK := Lib.hid (tput_ok (T := T) (e := (f, c, u)))
  have HM := Lib.hid (show tputM T (f, c, u) = ((tputM T (f, c, u)).1, (tputM T (f, c, u)).2) from rfl)
  generalize (tputM T (f, c, u)).1 = U at *
  generalize (tputM T (f, c, u)).2 = ok at *
  cases ok with
  | false =>
    go_wp2_with fail
    refine (ly_same qx qs px ps U _ (owns_tabA Fx_4.out) (owns_tabA Fs_4.out) (by omega)).mono ?_
    rintro e w5 ⟨rfl, b⟩
    have HB5 := Lib.hid (HB4.out.trans (b.mono HB4.out.size))
    have Ft_5 := Lib.hid (owns_later Ft_4.out b)
    have Fe_5 := Lib.hid (Fe_4.out.below b)
    have Fs_5 := Lib.hid (owns_later Fs_4.out b)
    have Fx_5 := Lib.hid (owns_later Fx_4.out b)
    clear b
    go_wp2_with fail
    refine (ly_same qx qs px ps U _ (owns_tabA Fx_5.out) (owns_tabA Fs_5.out) (by omega)).mono ?_
    rintro e w6 ⟨rfl, b⟩
    have HB6 := Lib.hid (HB5.out.trans (b.mono HB5.out.size))
    have Ft_6 := Lib.hid (owns_later Ft_5.out b)
    have Fe_6 := Lib.hid (Fe_5.out.below b)
    have Fs_6 := Lib.hid (owns_later Fs_5.out b)
    have Fx_6 := Lib.hid (owns_later Fx_5.out b)
    clear b
    go_wp2_with fail
    go_ret
    exact ⟨rfl, HB6.out⟩
  | true =>
    have HU := Lib.hid (HOK.out rfl)
    clear HOK
    go_wp2_with fail
    refine (ly_same qx qs px ps U _ (owns_tabA Fx_4.out) (owns_tabA Fs_4.out) (by omega)).mono ?_
    rintro e w5 ⟨rfl, b⟩
    have HB5 := Lib.hid (HB4.out.trans (b.mono HB4.out.size))
    have Ft_5 := Lib.hid (owns_later Ft_4.out b)
    have Fe_5 := Lib.hid (Fe_4.out.below b)
    have Fs_5 := Lib.hid (owns_later Fs_4.out b)
    have Fx_5 := Lib.hid (owns_later Fx_4.out b)
    clear b
    have HG := Lib.hid ((tab_good HU.out.1).1)
    have HP : Hid (tputM U (f, c, u) = (U, true)) := Lib.hid (by have h := HU.out.2.2.2; rw [HU.out.2.2.1] at h ⊢; exact tput_again HG.out HU.out.2.1 h)
    obtain ⟨c0, c1, c2⟩ := Fe_5.out
    go_wp2_with fail
    refine (tput_is HP.out qx px _ (owns_tabA Fx_5.out) (by omega)).mono ?_
    rintro e w6 ⟨v, rfl, o, b⟩
    have HB6 := Lib.hid (HB5.out.trans (b.mono HB5.out.size))
    have Ft_6 := Lib.hid (owns_later Ft_5.out b)
    have Fe_6 := Lib.hid (Fe_5.out.below b)
    have Fx_6 := Lib.hid (owns_later Fx_5.out b)
    obtain ⟨qy, py, rfl, ty, ny⟩ := Owns.tabN o
    have Ny := Lib.hid ny
    have Fy_6 := Lib.hid o
    clear ty ny o
    clear b
    clear c0 c1 c2
    go_wp2_with fail
    go_loopw [11, 12] (fun v i wr => ∃ (k : Nat) (z : Bool), k ≤ U.length ∧ i = .int .i64 k ∧ v = .bool z ∧ (z = true ↔ ∃ j, j < k ∧ U[j]? = some (f, c, u)) ∧ Below w6.heap.size w6 wr) (fun _ i _ => U.length - (intOf i).toNat)
    case atStart => exact ⟨0, false, Nat.zero_le _, rfl, rfl, by simp, Below.refl _ _⟩
    case round =>
      obtain ⟨k, z, hk, rfl, rfl, hz, hb⟩ := hrel
      have b := hb
      have BB := Lib.hid hb
      have HB7 := Lib.hid (HB6.out.trans (b.mono HB6.out.size))
      have Ft_7 := Lib.hid (owns_later Ft_6.out b)
      have Fe_7 := Lib.hid (Fe_6.out.below b)
      have Fx_7 := Lib.hid (owns_later Fx_6.out b)
      have Fy_7 := Lib.hid (owns_later Fy_6.out b)
      clear b hb
      by_cases hlt : k < U.length
      · obtain ⟨bb, off, g1, c1, u1, rfl, hUk, y0, y1, y2⟩ := (owns_tabA Fx_7.out).at hlt
        obtain ⟨x0, x1, x2⟩ := Fe_7.out
        have j0 : (0 : Int) ≤ (k : Int) := by omega
        have j1 : (k : Int) < (U.length : Int) := by omega
        have hq : ∀ W, (binOp .eql 37 (.agg #[.int .i64 g1, .int .i64 c1, .int .i64 u1]) (.agg #[.int .i64 f, .int .i64 c, .int .i64 u])).run Try.prog W = .ok (.bool (decide ((g1, c1, u1) = (f, c, u)))) W := fun W => eqlE (g1, c1, u1) (f, c, u) W
        have HZ := Lib.hid (in_step hz hUk)
        generalize decide ((g1, c1, u1) = (f, c, u)) = d at *
        clear hz hUk
        cases z with
        | true =>
          go_wp2_with fail
          go_quiet (fail)
          go_wp2_with fail
          go_roundw
          case rel => exact ⟨k + 1, true, by omega, by go_num, rfl, HZ.out, below_drewN BB.out _⟩
          case measure => simp [intOf]; omega
        | false =>
          go_wp2_with fail
          go_quiet (fail)
          go_wp2_with fail
          go_roundw
          case rel => exact ⟨k + 1, d, by omega, by go_num, rfl, by simpa using HZ.out, below_drewN BB.out _⟩
          case measure => simp [intOf]; omega
      · obtain rfl : k = U.length := by omega
        have hzt : z = true := hz.2 (by obtain ⟨j, hj⟩ := List.mem_iff_getElem?.1 (show (f, c, u) ∈ U by rw [HU.out.2.2.1]; exact (mem_put HG.out.2 _ _).2 (.inl rfl)); exact ⟨j, (List.getElem?_eq_some_iff.1 hj).1, hj⟩)
        subst hzt
        clear hz
        go_wp2_with fail
        refine (ly_same qy qx py px U _ (owns_tabA Fy_7.out) (owns_tabA Fx_7.out) (by omega)).mono ?_
        rintro e w8 ⟨rfl, b⟩
        have HB8 := Lib.hid (HB7.out.trans (b.mono HB7.out.size))
        have Ft_8 := Lib.hid (owns_later Ft_7.out b)
        have Fe_8 := Lib.hid (Fe_7.out.below b)
        have Fx_8 := Lib.hid (owns_later Fx_7.out b)
        have Fy_8 := Lib.hid (owns_later Fy_7.out b)
        clear b
        go_wp2_with fail
        go_ret
        exact ⟨rfl, HB8.out⟩

end Go.Proofs.Ytmbcfdlemapppaa
