/-
  FnTableSame: the walk.
-/
import Derived.Test.YtmbcfdlemapppaaLawTa
namespace Go.Proofs.Ytmbcfdlemapppaa
open Go.RowKit
set_option linter.unusedSimpArgs false
set_option linter.unusedVariables false

theorem find_tab {T : List E} {x : Int} (h : tabOk T = true) (h0 : 0 ≤ x) (h1 : x ≤ 255) : tfindM T x = findM T x := by simp [tfindM, h, h0, h1]
theorem same_step {T U : List E} {k : Nat} {y : Bool} (h : y = true ↔ ∀ n : Nat, n < k → findM T n = findM U n) : (y && (findM T k == findM U k)) = true ↔ ∀ n : Nat, n < k + 1 → findM T n = findM U n := by
  rw [Bool.and_eq_true, h, beq_iff_eq]
  constructor
  · rintro ⟨h1, h2⟩ n hn
    by_cases e : n = k
    · rw [e]; exact h2
    · exact h1 n (by omega)
  · intro h1
    exact ⟨fun n hn => h1 n (by omega), h1 k (by omega)⟩
theorem same_all {T U : List E} {y z : Bool} (h : y = true ↔ ∀ n : Nat, n < 256 → findM T n = findM U n) (hz : sameM T U = z) : y = z := by
  rw [← hz, Bool.eq_iff_iff, h, sameM_iff]
  constructor
  · intro k a a0 a1
    have := k a.toNat (by omega)
    rwa [show ((a.toNat : Nat) : Int) = a by omega] at this
  · intro k n hn
    exact k n (by omega) (by omega)
set_option maxRecDepth 100000 in
set_option maxHeartbeats 8000000 in
theorem lawTableSame (a : Option Addr) (len cap : Nat) (zs : List Int) (w : World) (h : IsRow w a len cap zs) :
    Calls Try.prog 13 #[.slice a len cap] w fun e w' => e = .returned (.bool true) ∧ Below w.heap.size w w' := by
  have H := Lib.hid h
  have hm := isRow_len h
  clear h
  by_cases hl : 1048576 < len
  · go_enter Try.func13, Try.ntmps13
    go_wp2_with fail
    go_ret
    exact ⟨rfl, Below.refl _ _⟩
  have HB0 := Lib.hid (Below.refl w.heap.size w)
  go_enter Try.func13, Try.ntmps13
  go_wp2_with fail
  refine (dTabSame_any a len cap zs _ H.out).mono ?_
  rintro e w1 ⟨v, T, v2, U, hT, hU, rfl, o, o2, b⟩
  have HB1 := Lib.hid (HB0.out.trans (b.mono HB0.out.size))
  obtain ⟨qt, pt, rfl, tt, nt⟩ := Owns.tabN o
  have Nt := Lib.hid nt
  have Ft_1 := Lib.hid o
  clear tt nt o
  obtain ⟨qu, pu, rfl, tu, nu⟩ := Owns.tabN o2
  have Nu := Lib.hid nu
  have Fu_1 := Lib.hid o2
  clear tu nu o2
  clear b
  obtain ⟨z, hz⟩ : ∃ z, tsameM T U = z := ⟨_, rfl⟩
  go_wp2_with fail
  refine (tsame_is hz qt qu pt pu _ (owns_tabA Ft_1.out) (owns_tabA Fu_1.out) (by omega) (by omega)).mono ?_
  rintro e w2 ⟨rfl, b⟩
  have HB2 := Lib.hid (HB1.out.trans (b.mono HB1.out.size))
  have Ft_2 := Lib.hid (owns_later Ft_1.out b)
  have Fu_2 := Lib.hid (owns_later Fu_1.out b)
  clear b
  go_wp2_with fail
  refine (hz ▸ ssame_any qt qu pt pu T U _ (owns_tabA Ft_2.out) (owns_tabA Fu_2.out) (by omega) (by omega)).mono ?_
  rintro e w3 ⟨rfl, b⟩
  have HB3 := Lib.hid (HB2.out.trans (b.mono HB2.out.size))
  have Ft_3 := Lib.hid (owns_later Ft_2.out b)
  have Fu_3 := Lib.hid (owns_later Fu_2.out b)
  clear b
  cases ht : tabOk T with
  | false =>
    go_wp2_with fail
    refine (stok_is ht _ (owns_tabA Ft_3.out) (by omega)).mono ?_
    rintro e w4 ⟨rfl, b⟩
    have HB4 := Lib.hid (HB3.out.trans (b.mono HB3.out.size))
    have Ft_4 := Lib.hid (owns_later Ft_3.out b)
    have Fu_4 := Lib.hid (owns_later Fu_3.out b)
    clear b
    go_wp2_with fail
    refine (hz ▸ ssame_any qt qu pt pu T U _ (owns_tabA Ft_4.out) (owns_tabA Fu_4.out) (by omega) (by omega)).mono ?_
    rintro e w5 ⟨rfl, b⟩
    have HB5 := Lib.hid (HB4.out.trans (b.mono HB4.out.size))
    have Ft_5 := Lib.hid (owns_later Ft_4.out b)
    have Fu_5 := Lib.hid (owns_later Fu_4.out b)
    clear b
    go_wp2_with fail
    go_ret
    exact ⟨rfl, HB5.out⟩
  | true =>
    go_wp2_with fail
    refine (stok_is ht _ (owns_tabA Ft_3.out) (by omega)).mono ?_
    rintro e w4 ⟨rfl, b⟩
    have HB4 := Lib.hid (HB3.out.trans (b.mono HB3.out.size))
    have Ft_4 := Lib.hid (owns_later Ft_3.out b)
    have Fu_4 := Lib.hid (owns_later Fu_3.out b)
    clear b
    cases hu : tabOk U with
    | false =>
      go_wp2_with fail
      refine (stok_is hu _ (owns_tabA Fu_4.out) (by omega)).mono ?_
      rintro e w5 ⟨rfl, b⟩
      have HB5 := Lib.hid (HB4.out.trans (b.mono HB4.out.size))
      have Ft_5 := Lib.hid (owns_later Ft_4.out b)
      have Fu_5 := Lib.hid (owns_later Fu_4.out b)
      clear b
      go_wp2_with fail
      refine (hz ▸ ssame_any qt qu pt pu T U _ (owns_tabA Ft_5.out) (owns_tabA Fu_5.out) (by omega) (by omega)).mono ?_
      rintro e w6 ⟨rfl, b⟩
      have HB6 := Lib.hid (HB5.out.trans (b.mono HB5.out.size))
      have Ft_6 := Lib.hid (owns_later Ft_5.out b)
      have Fu_6 := Lib.hid (owns_later Fu_5.out b)
      clear b
      go_wp2_with fail
      go_ret
      exact ⟨rfl, HB6.out⟩
    | true =>
      go_wp2_with fail
      refine (stok_is hu _ (owns_tabA Fu_4.out) (by omega)).mono ?_
      rintro e w5 ⟨rfl, b⟩
      have HB5 := Lib.hid (HB4.out.trans (b.mono HB4.out.size))
      have Ft_5 := Lib.hid (owns_later Ft_4.out b)
      have Fu_5 := Lib.hid (owns_later Fu_4.out b)
      clear b
      have hzs : sameM T U = z := by rw [← hz]; simp [tsameM, ht, hu]
      have HZ := Lib.hid (And.intro hzs (And.intro ht hu))
      clear hz hzs ht hu
      go_wp2_with fail
      go_loopw [6, 7] (fun v i wr => ∃ (k : Nat) (y : Bool), k ≤ 256 ∧ i = .int .i64 k ∧ v = .bool y ∧ Hid (y = true ↔ ∀ n : Nat, n < k → findM T n = findM U n) ∧ Below w5.heap.size w5 wr) (fun _ i _ => 256 - (intOf i).toNat)
      case atStart => exact ⟨0, true, by omega, rfl, rfl, Lib.hid ⟨fun _ _ h => by omega, fun _ => rfl⟩, Below.refl _ _⟩
      case round =>
        obtain ⟨k, y, hk, rfl, rfl, hy, hb⟩ := hrel
        have b := hb
        have HB6 := Lib.hid (HB5.out.trans (b.mono HB5.out.size))
        have Ft_6 := Lib.hid (owns_later Ft_5.out b)
        have Fu_6 := Lib.hid (owns_later Fu_5.out b)
        have FL_6 := Lib.hid b
        clear b hb
        by_cases hlt : k < 256
        · have e1 : tfindM T k = findM T k := find_tab HZ.out.2.1 (by omega) (by omega)
          have e2 : tfindM U k = findM U k := find_tab HZ.out.2.2 (by omega) (by omega)
          have HY := Lib.hid (same_step hy.out)
          clear hy
          cases y with
          | true =>
            go_wp2_with fail
            refine (tfind_is e1 qt pt _ (owns_tabA Ft_6.out) (by omega)).mono ?_
            rintro e w7 ⟨rfl, b⟩
            have HB7 := Lib.hid (HB6.out.trans (b.mono HB6.out.size))
            have Ft_7 := Lib.hid (owns_later Ft_6.out b)
            have Fu_7 := Lib.hid (owns_later Fu_6.out b)
            have FL_7 := Lib.hid (FL_6.out.trans (b.mono FL_6.out.size))
            clear b
            go_wp2_with fail
            refine (tfind_is e2 qu pu _ (owns_tabA Fu_7.out) (by omega)).mono ?_
            rintro e w8 ⟨rfl, b⟩
            have HB8 := Lib.hid (HB7.out.trans (b.mono HB7.out.size))
            have Ft_8 := Lib.hid (owns_later Ft_7.out b)
            have Fu_8 := Lib.hid (owns_later Fu_7.out b)
            have FL_8 := Lib.hid (FL_7.out.trans (b.mono FL_7.out.size))
            clear b
            go_wp2_with fail
            go_roundw
            case rel => exact ⟨k + 1, _, by omega, by go_num, rfl, Lib.hid (by simpa using HY.out), FL_8.out⟩
            case measure => simp [intOf]; omega
          | false =>
            go_wp2_with fail
            go_roundw
            case rel => exact ⟨k + 1, false, by omega, by go_num, rfl, Lib.hid (by simpa using HY.out), FL_6.out⟩
            case measure => simp [intOf]; omega
        · obtain rfl : k = 256 := by omega
          have hyz : y = z := same_all hy.out HZ.out.1
          subst hyz
          have HR : Hid (tsameM T T = true ∧ tsameM U T = y) := Lib.hid ⟨by simp [tsameM, HZ.out.2.1, same_refl], by rw [← HZ.out.1, same_symm]; simp [tsameM, HZ.out.2.1, HZ.out.2.2]⟩
          clear hy
          go_wp2_with fail
          refine (tsame_is HR.out.1 qt qt pt pt _ (owns_tabA Ft_6.out) (owns_tabA Ft_6.out) (by omega) (by omega)).mono ?_
          rintro e w7 ⟨rfl, b⟩
          have HB7 := Lib.hid (HB6.out.trans (b.mono HB6.out.size))
          have Ft_7 := Lib.hid (owns_later Ft_6.out b)
          have Fu_7 := Lib.hid (owns_later Fu_6.out b)
          have FL_7 := Lib.hid (FL_6.out.trans (b.mono FL_6.out.size))
          clear b
          go_wp2_with fail
          refine (tsame_is HR.out.2 qu qt pu pt _ (owns_tabA Fu_7.out) (owns_tabA Ft_7.out) (by omega) (by omega)).mono ?_
          rintro e w8 ⟨rfl, b⟩
          have HB8 := Lib.hid (HB7.out.trans (b.mono HB7.out.size))
          have Ft_8 := Lib.hid (owns_later Ft_7.out b)
          have Fu_8 := Lib.hid (owns_later Fu_7.out b)
          have FL_8 := Lib.hid (FL_7.out.trans (b.mono FL_7.out.size))
          clear b
          go_wp2_with fail
          go_ret
          exact ⟨rfl, HB8.out⟩

end Go.Proofs.Ytmbcfdlemapppaa
