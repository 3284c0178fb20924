/-
  FnTableDrop: the walk.
-/
import Derived.Test.YtmbcfdlemapppaaLawTa
namespace Go.Proofs.Ytmbcfdlemapppaa
open Go.RowKit
set_option linter.unusedSimpArgs false
set_option linter.unusedVariables false

set_option maxRecDepth 100000 in
set_option maxHeartbeats 8000000 in
theorem lawTableDrop (a : Option Addr) (len cap : Nat) (zs : List Int) (w : World) (h : IsRow w a len cap zs) :
    Calls Try.prog 12 #[.slice a len cap] w fun e w' => e = .returned (.bool true) ∧ Below w.heap.size w w' := by
  have H := Lib.hid h
  have hm := isRow_len h
  clear h
  by_cases hl : 1048576 < len
  · go_enter Try.func12, Try.ntmps12
    go_wp2_with fail
    go_ret
    exact ⟨rfl, Below.refl _ _⟩
  have HB0 := Lib.hid (Below.refl w.heap.size w)
  go_enter Try.func12, Try.ntmps12
  go_wp2_with fail
  refine (dTabDrop_any a len cap zs _ H.out).mono ?_
  rintro e w1 ⟨v, T, f, c, hT, rfl, o, b⟩
  have HB1 := Lib.hid (HB0.out.trans (b.mono HB0.out.size))
  obtain ⟨qt, pt, rfl, tt, nt⟩ := Owns.tabN o
  have Nt := Lib.hid nt
  have Ft_1 := Lib.hid o
  clear tt nt o
  clear b
  have b := (Below.refl w1.heap.size w1).alloc (Nat.le_refl _) (.cells #[.int .i64 f, .int .i64 c] 35)
  have HB2 := Lib.hid (HB1.out.trans (b.mono HB1.out.size))
  have Ft_2 := Lib.hid (owns_later Ft_1.out b)
  have Fr_2 := Lib.hid (At.new w1 f c 35)
  have hxr : w1.heap.size < (w1.alloc (.cells #[.int .i64 f, .int .i64 c] 35)).heap.size := by simp
  clear b
  go_wp2_with fail
  generalize w1.alloc (.cells #[.int .i64 f, .int .i64 c] 35) = w2 at *
  refine (sdrop_any qt pt T f c _ (owns_tabA Ft_2.out) (by omega)).mono ?_
  rintro e w3 ⟨v, rfl, o, b⟩
  have HB3 := Lib.hid (HB2.out.trans (b.mono HB2.out.size))
  have Ft_3 := Lib.hid (owns_later Ft_2.out b)
  have Fr_3 := Lib.hid (Fr_2.out.below b)
  obtain ⟨qs, ps, rfl, ts, ns⟩ := Owns.tabN o
  have Ns := Lib.hid ns
  have Fs_3 := Lib.hid o
  clear ts ns o
  clear b
  obtain ⟨c0, c1, _, _⟩ := id Fr_3.out
  go_wp2_with fail
  refine (tdrop_any qt pt T f c _ (owns_tabA Ft_3.out) (by omega)).mono ?_
  rintro e w4 ⟨v, rfl, o, b⟩
  have HB4 := Lib.hid (HB3.out.trans (b.mono HB3.out.size))
  have Ft_4 := Lib.hid (owns_later Ft_3.out b)
  have Fr_4 := Lib.hid (Fr_3.out.below b)
  have Fs_4 := Lib.hid (owns_later Fs_3.out b)
  obtain ⟨qx, px, rfl, tx, nx⟩ := Owns.tabN o
  have Nx := Lib.hid nx
  have Fx_4 := Lib.hid o
  clear tx nx o
  clear b
  clear c0 c1
  have hUl := tdrop_len T f c
  have HM : Hid (tabOk T = true → okB f c = true → (tdropM T f c).1 = dropM T f c ∧ (tdropM T f c).2 = decide ((dropM T f c).length < T.length)) := Lib.hid (fun h1 h2 => by unfold tdropM; rw [if_pos ⟨h1, h2⟩]; exact ⟨rfl, rfl⟩)
  generalize (tdropM T f c).1 = U at *
  generalize (tdropM T f c).2 = ok at *
  go_wp2_with fail
  refine (ly_same qx qs px ps U _ (owns_tabA Fx_4.out) (owns_tabA Fs_4.out) (by omega)).mono ?_
  rintro e w5 ⟨rfl, b⟩
  have HB5 := Lib.hid (HB4.out.trans (b.mono HB4.out.size))
  have Ft_5 := Lib.hid (owns_later Ft_4.out b)
  have Fr_5 := Lib.hid (Fr_4.out.below b)
  have Fs_5 := Lib.hid (owns_later Fs_4.out b)
  have Fx_5 := Lib.hid (owns_later Fx_4.out b)
  clear b
  cases ho : tabOk T with
  | false =>
    go_wp2_with fail
    refine (stok_is ho _ (owns_tabA Ft_5.out) (by omega)).mono ?_
    rintro e w6 ⟨rfl, b⟩
    have HB6 := Lib.hid (HB5.out.trans (b.mono HB5.out.size))
    have Ft_6 := Lib.hid (owns_later Ft_5.out b)
    have Fr_6 := Lib.hid (Fr_5.out.below b)
    have Fs_6 := Lib.hid (owns_later Fs_5.out b)
    have Fx_6 := Lib.hid (owns_later Fx_5.out b)
    clear b
    go_wp2_with fail
    refine (ly_same qx qs px ps U _ (owns_tabA Fx_6.out) (owns_tabA Fs_6.out) (by omega)).mono ?_
    rintro e w7 ⟨rfl, b⟩
    have HB7 := Lib.hid (HB6.out.trans (b.mono HB6.out.size))
    have Ft_7 := Lib.hid (owns_later Ft_6.out b)
    have Fr_7 := Lib.hid (Fr_6.out.below b)
    have Fs_7 := Lib.hid (owns_later Fs_6.out b)
    have Fx_7 := Lib.hid (owns_later Fx_6.out b)
    clear b
    go_wp2_with fail
    go_ret
    exact ⟨rfl, HB7.out⟩
  | true =>
    go_wp2_with fail
    refine (stok_is ho _ (owns_tabA Ft_5.out) (by omega)).mono ?_
    rintro e w6 ⟨rfl, b⟩
    have HB6 := Lib.hid (HB5.out.trans (b.mono HB5.out.size))
    have Ft_6 := Lib.hid (owns_later Ft_5.out b)
    have Fr_6 := Lib.hid (Fr_5.out.below b)
    have Fs_6 := Lib.hid (owns_later Fs_5.out b)
    have Fx_6 := Lib.hid (owns_later Fx_5.out b)
    clear b
    obtain ⟨c0, c1, _, _⟩ := id Fr_6.out
    cases hr : okB f c with
    | false =>
      go_wp2_with fail
      refine (sok_is hr _).mono ?_
      rintro e w7 ⟨rfl, b⟩
      have HB7 := Lib.hid (HB6.out.trans (b.mono HB6.out.size))
      have Ft_7 := Lib.hid (owns_later Ft_6.out b)
      have Fr_7 := Lib.hid (Fr_6.out.below b)
      have Fs_7 := Lib.hid (owns_later Fs_6.out b)
      have Fx_7 := Lib.hid (owns_later Fx_6.out b)
      clear b
      clear c0 c1
      go_wp2_with fail
      refine (ly_same qx qs px ps U _ (owns_tabA Fx_7.out) (owns_tabA Fs_7.out) (by omega)).mono ?_
      rintro e w8 ⟨rfl, b⟩
      have HB8 := Lib.hid (HB7.out.trans (b.mono HB7.out.size))
      have Ft_8 := Lib.hid (owns_later Ft_7.out b)
      have Fr_8 := Lib.hid (Fr_7.out.below b)
      have Fs_8 := Lib.hid (owns_later Fs_7.out b)
      have Fx_8 := Lib.hid (owns_later Fx_7.out b)
      clear b
      go_wp2_with fail
      go_ret
      exact ⟨rfl, HB8.out⟩
    | true =>
      go_wp2_with fail
      refine (sok_is hr _).mono ?_
      rintro e w7 ⟨rfl, b⟩
      have HB7 := Lib.hid (HB6.out.trans (b.mono HB6.out.size))
      have Ft_7 := Lib.hid (owns_later Ft_6.out b)
      have Fr_7 := Lib.hid (Fr_6.out.below b)
      have Fs_7 := Lib.hid (owns_later Fs_6.out b)
      have Fx_7 := Lib.hid (owns_later Fx_6.out b)
      clear b
      clear c0 c1
      obtain ⟨hU1, hU2⟩ := HM.out ho hr
      have HUV := Lib.hid (And.intro hU1 hU2)
      have HG := Lib.hid (tab_good ho)
      clear hU1 hU2 HM
      go_wp2_with fail
      go_loopw [9] (fun i wr => ∃ k : Nat, k ≤ T.length ∧ i = .int .i64 k ∧ Hid (∀ j x, j < k → T[j]? = some x → ¬ (x.1 = f ∧ x.2.1 = c)) ∧ Below w7.heap.size w7 wr) (fun i _ => T.length - (intOf i).toNat)
      case atStart => exact ⟨0, Nat.zero_le _, rfl, Lib.hid (fun _ _ h => by omega), Below.refl _ _⟩
      case round =>
        obtain ⟨k, hk, rfl, hz, hb⟩ := hrel
        have b := hb
        have BB := Lib.hid hb
        have HB8 := Lib.hid (HB7.out.trans (b.mono HB7.out.size))
        have Ft_8 := Lib.hid (owns_later Ft_7.out b)
        have Fr_8 := Lib.hid (Fr_7.out.below b)
        have Fx_8 := Lib.hid (owns_later Fx_7.out b)
        clear b hb
        by_cases hlt : k < T.length
        · obtain ⟨bb, off, g1, c1, u1, rfl, hTk, y0, y1, y2⟩ := (owns_tabA Ft_8.out).at hlt
          obtain ⟨x0, x1, _, _⟩ := id Fr_8.out
          have j0 : (0 : Int) ≤ (k : Int) := by omega
          have j1 : (k : Int) < (T.length : Int) := by omega
          have hq : ∀ W, (binOp .eql 35 (.agg #[.int .i64 g1, .int .i64 c1]) (.agg #[.int .i64 f, .int .i64 c])).run Try.prog W = .ok (.bool (decide (g1 = f ∧ c1 = c))) W := fun W => eqlR g1 c1 f c W
          by_cases hs : g1 = f ∧ c1 = c
          · obtain ⟨rfl, rfl⟩ := hs
            have HE := Lib.hid (drop_back HG.out hTk ⟨rfl, rfl⟩)
            have hok := HUV.out.2.trans HE.out.2.2.2
            rw [← HUV.out.1] at HE
            have HTK := Lib.hid hTk
            clear hq hTk
            subst hok
            have hln := HE.out.2.2.1
            go_wp2_with fail
            go_quiet (fail)
            have b := below_drewN (Below.refl wr.heap.size wr) nq
            have HB9 := Lib.hid (HB8.out.trans (b.mono HB8.out.size))
            have Ft_9 := Lib.hid (owns_later Ft_8.out b)
            have Fr_9 := Lib.hid (Fr_8.out.below b)
            have Fx_9 := Lib.hid (owns_later Fx_8.out b)
            clear b x0 x1 y0 y1 y2
            obtain ⟨y0, y1, y2⟩ := tabA_get (owns_tabA Ft_9.out) HTK.out
            generalize wr.drewN nq = w9 at *
            go_wp2_with fail
            refine (tput_is HE.out.1 qx px _ (owns_tabA Fx_9.out) (by omega)).mono ?_
            rintro e w10 ⟨v, rfl, o, b⟩
            have HB10 := Lib.hid (HB9.out.trans (b.mono HB9.out.size))
            have Ft_10 := Lib.hid (owns_later Ft_9.out b)
            have Fr_10 := Lib.hid (Fr_9.out.below b)
            have Fx_10 := Lib.hid (owns_later Fx_9.out b)
            obtain ⟨qy, py, rfl, ty, ny⟩ := Owns.tabN o
            have Ny := Lib.hid ny
            have Fy_10 := Lib.hid o
            clear ty ny o
            clear b
            clear y0 y1 y2
            go_wp2_with fail
            refine (ly_same qy (some ⟨bb, off, none⟩) py pt T _ (owns_tabA Fy_10.out) (owns_tabA Ft_10.out) (by omega)).mono ?_
            rintro e w11 ⟨rfl, b⟩
            have HB11 := Lib.hid (HB10.out.trans (b.mono HB10.out.size))
            have Ft_11 := Lib.hid (owns_later Ft_10.out b)
            have Fr_11 := Lib.hid (Fr_10.out.below b)
            have Fx_11 := Lib.hid (owns_later Fx_10.out b)
            have Fy_11 := Lib.hid (owns_later Fy_10.out b)
            clear b
            go_wp2_with fail
            refine (tok_is HE.out.2.1 _ (owns_tabA Fx_11.out) (by omega)).mono ?_
            rintro e w12 ⟨rfl, b⟩
            have HB12 := Lib.hid (HB11.out.trans (b.mono HB11.out.size))
            have Ft_12 := Lib.hid (owns_later Ft_11.out b)
            have Fr_12 := Lib.hid (Fr_11.out.below b)
            have Fx_12 := Lib.hid (owns_later Fx_11.out b)
            have Fy_12 := Lib.hid (owns_later Fy_11.out b)
            clear b
            go_wp2_with fail
            go_ret
            exact ⟨rfl, HB12.out⟩
          · have HZ := Lib.hid (none_step hz.out hTk hs)
            have hd : decide (g1 = f ∧ c1 = c) = false := by simp [hs]
            have hq2 : ∀ W, (binOp .eql 35 (.agg #[.int .i64 g1, .int .i64 c1]) (.agg #[.int .i64 f, .int .i64 c])).run Try.prog W = .ok (.bool false) W := fun W => by rw [hq, hd]
            clear hq hd hTk hz
            go_wp2_with fail
            go_quiet (fail)
            go_wp2_with fail
            go_roundw
            case rel => exact ⟨k + 1, by omega, by go_num, Lib.hid HZ.out, below_drewN BB.out _⟩
            case measure => simp [intOf]; omega
        · obtain rfl : k = T.length := by omega
          have hnone : dropM T f c = T := drop_none (fun x hx => by obtain ⟨j, hj⟩ := List.mem_iff_getElem?.1 hx; exact hz.out j x (List.getElem?_eq_some_iff.1 hj).1 hj)
          have hUT := HUV.out.1.trans hnone
          have hok : ok = false := by rw [HUV.out.2, hnone]; simp
          subst hok
          subst hUT
          clear hz hnone HUV
          go_wp2_with fail
          refine (ly_same qx qt px pt _ _ (owns_tabA Fx_8.out) (owns_tabA Ft_8.out) (by omega)).mono ?_
          rintro e w9 ⟨rfl, b⟩
          have HB9 := Lib.hid (HB8.out.trans (b.mono HB8.out.size))
          have Ft_9 := Lib.hid (owns_later Ft_8.out b)
          have Fr_9 := Lib.hid (Fr_8.out.below b)
          have Fx_9 := Lib.hid (owns_later Fx_8.out b)
          clear b
          go_wp2_with fail
          go_ret
          exact ⟨rfl, HB9.out⟩

end Go.Proofs.Ytmbcfdlemapppaa
