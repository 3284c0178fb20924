/-
  FnTableLess: the walk.
-/
import Derived.Test.YtmbcfdlemapppaaLawTg
namespace Go.Proofs.Ytmbcfdlemapppaa
open Go.RowKit
set_option linter.unusedSimpArgs false
set_option linter.unusedVariables false

theorem sless_is {T L : List E} (h : tlessM T = L) (a : Option Addr) (cap : Nat) (w : World) (hT : TabA w a T) (hc : a = none → cap = 0) (hl : T.length ≤ 2000000) :
    Calls Try.prog 38 #[.slice a T.length cap] w (Own1 w L) := by
  rw [← h]; exact sless_any a cap T w hT hc hl
theorem tless_len (T : List E) : (tlessM T).length ≤ T.length := by
  unfold tlessM
  split
  · exact less_len' T
  · simp
theorem less_facts {T X : List E} (ho : tabOk T = true) (hX : tlessM T = X) :
    tsameM X T = true ∧ tlessM X = X ∧ tabOk X = true ∧ ∀ e ∈ X, tdropM X e.1 e.2.1 = (dropM X e.1 e.2.1, true) ∧ tsameM (dropM X e.1 e.2.1) T = false ∧ e ∈ T := by
  obtain ⟨hg, hl⟩ := tab_good ho
  obtain rfl : lessM T = X := by rw [← hX]; simp [tlessM, ho]
  have hXo : tabOk (lessM T) = true := (tabOk_iff _).2 ⟨less_good hg, Nat.le_trans (less_len' T) hl⟩
  refine ⟨by simp [tsameM, hXo, ho, less_same], by simp [tlessM, hXo, less_twice hg], hXo, fun e he => ⟨drop_in (u := e.2.2) hXo he, ?_, less_sub he⟩⟩
  simp [tsameM, ho, tab_drop hXo, less_least hg he]
set_option maxRecDepth 100000 in
set_option maxHeartbeats 8000000 in
theorem lawTableLess (a : Option Addr) (len cap : Nat) (zs : List Int) (w : World) (h : IsRow w a len cap zs) :
    Calls Try.prog 14 #[.slice a len cap] w fun e w' => e = .returned (.bool true) ∧ Below w.heap.size w w' := by
  have H := Lib.hid h
  have hm := isRow_len h
  clear h
  by_cases hl : 1048576 < len
  · go_enter Try.func14, Try.ntmps14
    go_wp2_with fail
    go_ret
    exact ⟨rfl, Below.refl _ _⟩
  have HB0 := Lib.hid (Below.refl w.heap.size w)
  go_enter Try.func14, Try.ntmps14
  go_wp2_with fail
  refine (dTabLess_any a len cap zs _ H.out).mono ?_
  rintro e w1 ⟨v, T, hT, rfl, o, b⟩
  have HB1 := Lib.hid (HB0.out.trans (b.mono HB0.out.size))
  obtain ⟨qt, pt, rfl, tt, nt⟩ := Owns.tabN o
  have Nt := Lib.hid nt
  have Ft_1 := Lib.hid o
  clear tt nt o
  clear b
  obtain ⟨X, hX⟩ : ∃ X, tlessM T = X := ⟨_, rfl⟩
  have hXl : X.length ≤ 14 := by rw [← hX]; exact Nat.le_trans (tless_len T) hT
  have HX := Lib.hid hX
  clear hX
  go_wp2_with fail
  refine (tless_is HX.out qt pt _ (owns_tabA Ft_1.out) (by omega)).mono ?_
  rintro e w2 ⟨v, rfl, o, b⟩
  have HB2 := Lib.hid (HB1.out.trans (b.mono HB1.out.size))
  have Ft_2 := Lib.hid (owns_later Ft_1.out b)
  obtain ⟨qx, px, rfl, tx, nx⟩ := Owns.tabN o
  have Nx := Lib.hid nx
  have Fx_2 := Lib.hid o
  clear tx nx o
  clear b
  go_wp2_with fail
  refine (sless_is HX.out qt pt _ (owns_tabA Ft_2.out) Nt.out (by omega)).mono ?_
  rintro e w3 ⟨v, rfl, o, b⟩
  have HB3 := Lib.hid (HB2.out.trans (b.mono HB2.out.size))
  have Ft_3 := Lib.hid (owns_later Ft_2.out b)
  have Fx_3 := Lib.hid (owns_later Fx_2.out b)
  obtain ⟨qs, ps, rfl, ts, ns⟩ := Owns.tabN o
  have Ns := Lib.hid ns
  have Fs_3 := Lib.hid o
  clear ts ns o
  clear b
  go_wp2_with fail
  refine (ly_same qx qs px ps X _ (owns_tabA Fx_3.out) (owns_tabA Fs_3.out) (by omega)).mono ?_
  rintro e w4 ⟨rfl, b⟩
  have HB4 := Lib.hid (HB3.out.trans (b.mono HB3.out.size))
  have Ft_4 := Lib.hid (owns_later Ft_3.out b)
  have Fx_4 := Lib.hid (owns_later Fx_3.out b)
  have Fs_4 := Lib.hid (owns_later Fs_3.out b)
  clear b
  cases ho : tabOk T with
  | false =>
    go_wp2_with fail
    refine (stok_is ho _ (owns_tabA Ft_4.out) (by omega)).mono ?_
    rintro e w5 ⟨rfl, b⟩
    have HB5 := Lib.hid (HB4.out.trans (b.mono HB4.out.size))
    have Ft_5 := Lib.hid (owns_later Ft_4.out b)
    have Fx_5 := Lib.hid (owns_later Fx_4.out b)
    clear b
    go_wp2_with fail
    refine (sless_is HX.out qt pt _ (owns_tabA Ft_5.out) Nt.out (by omega)).mono ?_
    rintro e w6 ⟨v, rfl, o, b⟩
    have HB6 := Lib.hid (HB5.out.trans (b.mono HB5.out.size))
    have Ft_6 := Lib.hid (owns_later Ft_5.out b)
    have Fx_6 := Lib.hid (owns_later Fx_5.out b)
    obtain ⟨qz, pz, rfl, tz, nz⟩ := Owns.tabN o
    have Nz := Lib.hid nz
    have Fz_6 := Lib.hid o
    clear tz nz o
    clear b
    go_wp2_with fail
    refine (ly_same qx qz px pz X _ (owns_tabA Fx_6.out) (owns_tabA Fz_6.out) (by omega)).mono ?_
    rintro e w7 ⟨rfl, b⟩
    have HB7 := Lib.hid (HB6.out.trans (b.mono HB6.out.size))
    have Ft_7 := Lib.hid (owns_later Ft_6.out b)
    have Fx_7 := Lib.hid (owns_later Fx_6.out b)
    have Fz_7 := Lib.hid (owns_later Fz_6.out b)
    clear b
    go_wp2_with fail
    go_ret
    exact ⟨rfl, HB7.out⟩
  | true =>
    go_wp2_with fail
    refine (stok_is ho _ (owns_tabA Ft_4.out) (by omega)).mono ?_
    rintro e w5 ⟨rfl, b⟩
    have HB5 := Lib.hid (HB4.out.trans (b.mono HB4.out.size))
    have Ft_5 := Lib.hid (owns_later Ft_4.out b)
    have Fx_5 := Lib.hid (owns_later Fx_4.out b)
    clear b
    have HE := Lib.hid (less_facts ho HX.out)
    clear ho
    go_wp2_with fail
    go_loopw [5] (fun i wr => ∃ k : Nat, k ≤ X.length ∧ i = .int .i64 k ∧ Below w5.heap.size w5 wr) (fun i _ => X.length - (intOf i).toNat)
    case atStart => exact ⟨0, Nat.zero_le _, rfl, Below.refl _ _⟩
    case round =>
      obtain ⟨k, hk, rfl, hb⟩ := hrel
      have b := hb
      have HB6 := Lib.hid (HB5.out.trans (b.mono HB5.out.size))
      have Ft_6 := Lib.hid (owns_later Ft_5.out b)
      have Fx_6 := Lib.hid (owns_later Fx_5.out b)
      have FL_6 := Lib.hid b
      clear b hb
      by_cases hlt : k < X.length
      · obtain ⟨bb, off, g1, c1, u1, hqx, hXk, y0, y1, y2⟩ := (owns_tabA Fx_6.out).at hlt
        subst hqx
        have HK := Lib.hid hXk
        have HM := Lib.hid (HE.out.2.2.2 _ (mem_at hXk))
        have j0 : (0 : Int) ≤ (k : Int) := by omega
        have j1 : (k : Int) < (X.length : Int) := by omega
        have hdl := drop_len X g1 c1
        clear hXk
        go_wp2_with fail
        refine (tdrop_is HM.out.1 _ px _ (owns_tabA Fx_6.out) (by omega)).mono ?_
        rintro e w7 ⟨v, rfl, o, b⟩
        have HB7 := Lib.hid (HB6.out.trans (b.mono HB6.out.size))
        have Ft_7 := Lib.hid (owns_later Ft_6.out b)
        have Fx_7 := Lib.hid (owns_later Fx_6.out b)
        have FL_7 := Lib.hid (FL_6.out.trans (b.mono FL_6.out.size))
        obtain ⟨qy, py, rfl, ty, ny⟩ := Owns.tabN o
        have Ny := Lib.hid ny
        have Fy_7 := Lib.hid o
        clear ty ny o
        clear b
        clear y0 y1 y2
        go_wp2_with fail
        refine (tsame_is HM.out.2.1 qy qt py pt _ (owns_tabA Fy_7.out) (owns_tabA Ft_7.out) (by omega) (by omega)).mono ?_
        rintro e w8 ⟨rfl, b⟩
        have HB8 := Lib.hid (HB7.out.trans (b.mono HB7.out.size))
        have Ft_8 := Lib.hid (owns_later Ft_7.out b)
        have Fx_8 := Lib.hid (owns_later Fx_7.out b)
        have FL_8 := Lib.hid (FL_7.out.trans (b.mono FL_7.out.size))
        have Fy_8 := Lib.hid (owns_later Fy_7.out b)
        clear b
        have FM_8 := FL_8
        clear FL_8
        have HIN := Lib.hid HM.out.2.2
        clear HM
        go_wp2_with fail
        go_loopw [8, 9] (fun v i wr => ∃ (j : Nat) (z : Bool), j ≤ T.length ∧ i = .int .i64 j ∧ v = .bool z ∧ Hid (z = true ↔ ∃ q, q < j ∧ T[q]? = some (g1, c1, u1)) ∧ Below w8.heap.size w8 wr) (fun v i _ => T.length - (intOf i).toNat)
        case atStart => exact ⟨0, false, Nat.zero_le _, rfl, rfl, Lib.hid (by simp), Below.refl _ _⟩
        case round =>
          obtain ⟨j, z, hj, rfl, rfl, hz, hb⟩ := hrel
          have b := hb
          have HB9 := Lib.hid (HB8.out.trans (b.mono HB8.out.size))
          have Ft_9 := Lib.hid (owns_later Ft_8.out b)
          have Fx_9 := Lib.hid (owns_later Fx_8.out b)
          have FM_9 := Lib.hid (FM_8.out.trans (b.mono FM_8.out.size))
          have FL_9 := Lib.hid b
          clear b hb
          by_cases hjt : j < T.length
          · obtain ⟨bt, ot, g2, c2, u2, hqt, hTj, z0, z1, z2⟩ := (owns_tabA Ft_9.out).at hjt
            subst hqt
            obtain ⟨x0, x1, x2⟩ := tabA_get (owns_tabA Fx_9.out) HK.out
            have i0 : (0 : Int) ≤ (j : Int) := by omega
            have i1 : (j : Int) < (T.length : Int) := by omega
            have hq : ∀ W, (binOp .eql 37 (.agg #[.int .i64 g2, .int .i64 c2, .int .i64 u2]) (.agg #[.int .i64 g1, .int .i64 c1, .int .i64 u1])).run Try.prog W = .ok (.bool (decide ((g2, c2, u2) = (g1, c1, u1)))) W := fun W => eqlE (g2, c2, u2) (g1, c1, u1) W
            have HZ := Lib.hid (in_step hz.out hTj)
            generalize decide ((g2, c2, u2) = (g1, c1, u1)) = d at *
            clear hz hTj
            cases z with
            | true =>
              go_wp2_with fail
              go_quiet (fail)
              go_wp2_with fail
              go_roundw
              case rel => exact ⟨j + 1, true, by omega, by go_num, rfl, Lib.hid (by simpa using HZ.out), below_drewN FL_9.out _⟩
              case measure => simp [intOf]; omega
            | false =>
              go_wp2_with fail
              go_quiet (fail)
              go_wp2_with fail
              go_roundw
              case rel => exact ⟨j + 1, d, by omega, by go_num, rfl, Lib.hid (by simpa using HZ.out), below_drewN FL_9.out _⟩
              case measure => simp [intOf]; omega
          · obtain rfl : j = T.length := by omega
            have hzt : z = true := hz.out.2 (by obtain ⟨q, hq⟩ := List.mem_iff_getElem?.1 HIN.out; exact ⟨q, (List.getElem?_eq_some_iff.1 hq).1, hq⟩)
            subst hzt
            clear hz
            go_wp2_with fail
            go_roundw
            case rel => exact ⟨k + 1, by omega, by go_num, FM_9.out⟩
            case measure => simp [intOf]; omega
      · obtain rfl : k = X.length := by omega
        go_wp2_with fail
        refine (tsame_is HE.out.1 qx qt px pt _ (owns_tabA Fx_6.out) (owns_tabA Ft_6.out) (by omega) (by omega)).mono ?_
        rintro e w7 ⟨rfl, b⟩
        have HB7 := Lib.hid (HB6.out.trans (b.mono HB6.out.size))
        have Ft_7 := Lib.hid (owns_later Ft_6.out b)
        have Fx_7 := Lib.hid (owns_later Fx_6.out b)
        have FL_7 := Lib.hid (FL_6.out.trans (b.mono FL_6.out.size))
        clear b
        go_wp2_with fail
        refine (tless_is HE.out.2.1 qx px _ (owns_tabA Fx_7.out) (by omega)).mono ?_
        rintro e w8 ⟨v, rfl, o, b⟩
        have HB8 := Lib.hid (HB7.out.trans (b.mono HB7.out.size))
        have Ft_8 := Lib.hid (owns_later Ft_7.out b)
        have Fx_8 := Lib.hid (owns_later Fx_7.out b)
        have FL_8 := Lib.hid (FL_7.out.trans (b.mono FL_7.out.size))
        obtain ⟨ql, pl, rfl, tl, nl⟩ := Owns.tabN o
        have Nl := Lib.hid nl
        have Fl_8 := Lib.hid o
        clear tl nl o
        clear b
        go_wp2_with fail
        refine (ly_same ql qx pl px X _ (owns_tabA Fl_8.out) (owns_tabA Fx_8.out) (by omega)).mono ?_
        rintro e w9 ⟨rfl, b⟩
        have HB9 := Lib.hid (HB8.out.trans (b.mono HB8.out.size))
        have Ft_9 := Lib.hid (owns_later Ft_8.out b)
        have Fx_9 := Lib.hid (owns_later Fx_8.out b)
        have FL_9 := Lib.hid (FL_8.out.trans (b.mono FL_8.out.size))
        have Fl_9 := Lib.hid (owns_later Fl_8.out b)
        clear b
        go_wp2_with fail
        refine (tok_is HE.out.2.2.1 _ (owns_tabA Fx_9.out) (by omega)).mono ?_
        rintro e w10 ⟨rfl, b⟩
        have HB10 := Lib.hid (HB9.out.trans (b.mono HB9.out.size))
        have Ft_10 := Lib.hid (owns_later Ft_9.out b)
        have Fx_10 := Lib.hid (owns_later Fx_9.out b)
        have FL_10 := Lib.hid (FL_9.out.trans (b.mono FL_9.out.size))
        have Fl_10 := Lib.hid (owns_later Fl_9.out b)
        clear b
        go_wp2_with fail
        go_ret
        exact ⟨rfl, HB10.out⟩

end Go.Proofs.Ytmbcfdlemapppaa
