/-
  FnFindAll: the walk.
-/
import Derived.Test.YtmbcfdlemapppaaLawTf
namespace Go.Proofs.Ytmbcfdlemapppaa
open Go.RowKit
set_option linter.unusedSimpArgs false
set_option linter.unusedVariables false

theorem all9 : entOk (0, 0, 9) = true := by rw [entOk_iff]; exact ⟨ok_all, (by decide : (1 : Int) ≤ 9), (by decide : (9 : Int) ≤ 9)⟩
theorem find_nn {T : List E} (hT : Good T) (a : Int) : 0 ≤ findM T a := by
  rcases find_is T a with ⟨z1, z2⟩ | ⟨y, y1, y2, y3, y4⟩
  · omega
  · have := hT.via y1; omega
theorem sfind_is {T : List E} {x z : Int} (h : tfindM T x = z) (a : Option Addr) (cap : Nat) (w : World) (hT : TabA w a T) (hl : T.length ≤ 2000000) :
    Calls Try.prog 34 #[.slice a T.length cap, .int .i64 x] w fun e w' => e = .returned (.int .i64 z) ∧ Below w.heap.size w w' := by
  rw [← h]; exact sfind_any a cap T x w hT hl
theorem put_no {T : List E} {e : E} (h1 : tabOk T = true) (h2 : entOk e = true) (h3 : (tputM T e).2 = false) : T.length = 12 := by
  unfold tputM at h3
  rw [if_pos ⟨h1, h2⟩] at h3
  by_cases h : (putM T e).length ≤ 12
  · rw [if_pos h] at h3; cases h3
  · exact put_full (tab_good h1).1 (tab_good h1).2 h
theorem find_all' {T X Y : List E} (hT : Good T) (hY : Y = dropM T 0 0) (hX : tabOk T = true ∧ entOk (0, 0, 9) = true ∧ X = putM T (0, 0, 9) ∧ tabOk X = true) {k : Nat} (hk : k < 256) :
    ∃ p r : Int, tfindM Y k = p ∧ tfindM X k = r ∧ (p = 0 ∧ r = 9 ∨ 0 < p ∧ r = p) := by
  have hp := find_all hT (a := (k : Int)) (by omega) (by omega)
  have h0 : 0 ≤ findM (dropM T 0 0) k := find_nn (good_drop hT 0 0) k
  refine ⟨_, _, rfl, rfl, ?_⟩
  rw [find_tab hX.2.2.2 (by omega) (by omega), hX.2.2.1, find_tab (by rw [hY]; exact tab_drop hX.1 0 0) (by omega) (by omega), hY]
  by_cases e : findM (dropM T 0 0) k = 0
  · exact .inl ⟨e, hp.1 e⟩
  · exact .inr ⟨by omega, hp.2 (by omega)⟩
set_option maxRecDepth 100000 in
set_option maxHeartbeats 8000000 in
theorem lawFindAll (a : Option Addr) (len cap : Nat) (zs : List Int) (w : World) (h : IsRow w a len cap zs) :
    Calls Try.prog 16 #[.slice a len cap] w fun e w' => e = .returned (.bool true) ∧ Below w.heap.size w w' := by
  have H := Lib.hid h
  have hm := isRow_len h
  clear h
  by_cases hl : 1048576 < len
  · go_enter Try.func16, Try.ntmps16
    go_wp2_with fail
    go_ret
    exact ⟨rfl, Below.refl _ _⟩
  have HB0 := Lib.hid (Below.refl w.heap.size w)
  go_enter Try.func16, Try.ntmps16
  go_wp2_with fail
  refine (dTabFind_any a len cap zs _ H.out).mono ?_
  rintro e w1 ⟨v, T, x, hT, hx, rfl, o, b⟩
  have HB1 := Lib.hid (HB0.out.trans (b.mono HB0.out.size))
  obtain ⟨qt, pt, rfl, tt, nt⟩ := Owns.tabN o
  have Nt := Lib.hid nt
  have Ft_1 := Lib.hid o
  clear tt nt o
  clear b
  obtain ⟨z, hz⟩ : ∃ z, tfindM T x = z := ⟨_, rfl⟩
  go_wp2_with fail
  refine (tfind_is hz qt pt _ (owns_tabA Ft_1.out) (by omega)).mono ?_
  rintro e w2 ⟨rfl, b⟩
  have HB2 := Lib.hid (HB1.out.trans (b.mono HB1.out.size))
  have Ft_2 := Lib.hid (owns_later Ft_1.out b)
  clear b
  go_wp2_with fail
  refine (sfind_is hz qt pt _ (owns_tabA Ft_2.out) (by omega)).mono ?_
  rintro e w3 ⟨rfl, b⟩
  have HB3 := Lib.hid (HB2.out.trans (b.mono HB2.out.size))
  have Ft_3 := Lib.hid (owns_later Ft_2.out b)
  clear b
  cases ho : tabOk T with
  | false =>
    go_wp2_with fail
    refine (stok_is ho _ (owns_tabA Ft_3.out) (by omega)).mono ?_
    rintro e w4 ⟨rfl, b⟩
    have HB4 := Lib.hid (HB3.out.trans (b.mono HB3.out.size))
    have Ft_4 := Lib.hid (owns_later Ft_3.out b)
    clear b
    go_wp2_with fail
    refine (sfind_is hz qt pt _ (owns_tabA Ft_4.out) (by omega)).mono ?_
    rintro e w5 ⟨rfl, b⟩
    have HB5 := Lib.hid (HB4.out.trans (b.mono HB4.out.size))
    have Ft_5 := Lib.hid (owns_later Ft_4.out b)
    clear b
    go_wp2_with fail
    go_ret
    exact ⟨rfl, HB5.out⟩
  | true =>
    go_wp2_with fail
    refine (stok_is ho _ (owns_tabA Ft_3.out) (by omega)).mono ?_
    rintro e w4 ⟨rfl, b⟩
    have HB4 := Lib.hid (HB3.out.trans (b.mono HB3.out.size))
    have Ft_4 := Lib.hid (owns_later Ft_3.out b)
    clear b
    have HG := Lib.hid (tab_good ho)
    have HZ := Lib.hid hz
    have HO := Lib.hid ho
    clear hz ho
    go_wp2_with fail
    refine (tput_any qt pt T 0 0 9 _ (owns_tabA Ft_4.out) (by omega)).mono ?_
    rintro e w5 ⟨v, rfl, o, b⟩
    have HB5 := Lib.hid (HB4.out.trans (b.mono HB4.out.size))
    have Ft_5 := Lib.hid (owns_later Ft_4.out b)
    obtain ⟨qx, px, rfl, tx, nx⟩ := Owns.tabN o
    have Nx := Lib.hid nx
    have Fx_5 := Lib.hid o
    clear tx nx o
    clear b
    have hlx := tput_len T (0, 0, 9)
    have Kx := Lib.hid (tput_ok (T := T) (e := (0, 0, 9)))
    have Mx := Lib.hid (show tputM T (0, 0, 9) = ((tputM T (0, 0, 9)).1, (tputM T (0, 0, 9)).2) from rfl)
    generalize (tputM T (0, 0, 9)).1 = Lx at *
    generalize (tputM T (0, 0, 9)).2 = okx at *
    cases okx with
    | false =>
      have hl12 : T.length = 12 := put_no HO.out all9 (by rw [Mx.out])
      have hi12 : ((T.length : Nat) : Int) = 12 := by omega
      go_wp2_with fail
      go_ret
      exact ⟨rfl, HB5.out⟩
    | true =>
      have HX := Lib.hid (Kx.out rfl)
      clear Kx Mx
      go_wp2_with fail
      refine (tdrop_any qt pt T 0 0 _ (owns_tabA Ft_5.out) (by omega)).mono ?_
      rintro e w6 ⟨v, rfl, o, b⟩
      have HB6 := Lib.hid (HB5.out.trans (b.mono HB5.out.size))
      have Ft_6 := Lib.hid (owns_later Ft_5.out b)
      have Fx_6 := Lib.hid (owns_later Fx_5.out b)
      obtain ⟨qy, py, rfl, ty, ny⟩ := Owns.tabN o
      have Ny := Lib.hid ny
      have Fy_6 := Lib.hid o
      clear ty ny o
      clear b
      have hYl := tdrop_len T 0 0
      have HY : Hid ((tdropM T 0 0).1 = dropM T 0 0) := Lib.hid (by unfold tdropM; rw [if_pos ⟨HO.out, ok_all⟩])
      generalize (tdropM T 0 0).1 = Y at *
      generalize (tdropM T 0 0).2 = oky at *
      have HF : Hid (∀ k : Nat, k < 256 → ∃ p r : Int, tfindM Y k = p ∧ tfindM Lx k = r ∧ (p = 0 ∧ r = 9 ∨ 0 < p ∧ r = p)) := Lib.hid (fun k hk => find_all' HG.out.1 HY.out HX.out hk)
      go_wp2_with fail
      go_loopw [10] (fun i wr => ∃ k : Nat, k ≤ 256 ∧ i = .int .i64 k ∧ Below w6.heap.size w6 wr) (fun i _ => 256 - (intOf i).toNat)
      case atStart => exact ⟨0, by omega, rfl, Below.refl _ _⟩
      case round =>
        obtain ⟨k, hk, rfl, hb⟩ := hrel
        have b := hb
        have HB7 := Lib.hid (HB6.out.trans (b.mono HB6.out.size))
        have Ft_7 := Lib.hid (owns_later Ft_6.out b)
        have Fx_7 := Lib.hid (owns_later Fx_6.out b)
        have Fy_7 := Lib.hid (owns_later Fy_6.out b)
        have FL_7 := Lib.hid b
        clear b hb
        by_cases hlt : k < 256
        · obtain ⟨p, r, e1, e2, e3⟩ := HF.out k hlt
          go_wp2_with fail
          refine (tfind_is e1 qy py _ (owns_tabA Fy_7.out) (by omega)).mono ?_
          rintro e w8 ⟨rfl, b⟩
          have HB8 := Lib.hid (HB7.out.trans (b.mono HB7.out.size))
          have Ft_8 := Lib.hid (owns_later Ft_7.out b)
          have Fx_8 := Lib.hid (owns_later Fx_7.out b)
          have Fy_8 := Lib.hid (owns_later Fy_7.out b)
          have FL_8 := Lib.hid (FL_7.out.trans (b.mono FL_7.out.size))
          clear b
          rcases e3 with ⟨rfl, rfl⟩ | ⟨e3, rfl⟩
          · go_wp2_with fail
            refine (tfind_is e2 qx px _ (owns_tabA Fx_8.out) (by omega)).mono ?_
            rintro e w9 ⟨rfl, b⟩
            have HB9 := Lib.hid (HB8.out.trans (b.mono HB8.out.size))
            have Ft_9 := Lib.hid (owns_later Ft_8.out b)
            have Fx_9 := Lib.hid (owns_later Fx_8.out b)
            have Fy_9 := Lib.hid (owns_later Fy_8.out b)
            have FL_9 := Lib.hid (FL_8.out.trans (b.mono FL_8.out.size))
            clear b
            go_wp2_with fail
            go_roundw
            case rel => exact ⟨k + 1, by omega, by go_num, FL_9.out⟩
            case measure => simp [intOf]; omega
          · go_wp2_with fail
            refine (tfind_is e2 qx px _ (owns_tabA Fx_8.out) (by omega)).mono ?_
            rintro e w9 ⟨rfl, b⟩
            have HB9 := Lib.hid (HB8.out.trans (b.mono HB8.out.size))
            have Ft_9 := Lib.hid (owns_later Ft_8.out b)
            have Fx_9 := Lib.hid (owns_later Fx_8.out b)
            have Fy_9 := Lib.hid (owns_later Fy_8.out b)
            have FL_9 := Lib.hid (FL_8.out.trans (b.mono FL_8.out.size))
            clear b
            go_wp2_with fail
            go_roundw
            case rel => exact ⟨k + 1, by omega, by go_num, FL_9.out⟩
            case measure => simp [intOf]; omega
        · obtain rfl : k = 256 := by omega
          go_wp2_with fail
          go_ret
          exact ⟨rfl, HB7.out⟩

end Go.Proofs.Ytmbcfdlemapppaa
