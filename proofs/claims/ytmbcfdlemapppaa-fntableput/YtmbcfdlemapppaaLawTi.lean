/-
  FnTablePut: the walk.
-/
import Derived.Test.YtmbcfdlemapppaaLawTg
namespace Go.Proofs.Ytmbcfdlemapppaa
open Go.RowKit
set_option linter.unusedSimpArgs false
set_option linter.unusedVariables false

def SM (T : List E) (f c a : Int) (j : Nat) (y : Bool) : Prop :=
  y = true ↔ ∃ (q : Nat) (t : E), q < j ∧ T[q]? = some t ∧ ¬ (t.1 = f ∧ t.2.1 = c) ∧ inB t.1 t.2.1 f c = true ∧ hasB t.1 t.2.1 a = true
theorem SM.zero (T : List E) (f c a : Int) : SM T f c a 0 false := ⟨fun h => (by cases h), fun ⟨_, _, h, _⟩ => (by omega)⟩
theorem SM.yes {T : List E} {f c a : Int} {j : Nat} {y : Bool} (h : SM T f c a j y) (e : y = true) : SM T f c a (j + 1) true :=
  ⟨fun _ => let ⟨q, t, h1, h2⟩ := h.1 e; ⟨q, t, by omega, h2⟩, fun _ => rfl⟩
theorem SM.no {T : List E} {f c a : Int} {j : Nat} {t : E} (h : SM T f c a j false) (hj : T[j]? = some t) (hn : ¬ (¬ (t.1 = f ∧ t.2.1 = c) ∧ inB t.1 t.2.1 f c = true ∧ hasB t.1 t.2.1 a = true)) : SM T f c a (j + 1) false := by
  refine ⟨fun h => (by cases h), fun ⟨q, s, h1, h2, h3⟩ => ?_⟩
  by_cases e : q = j
  · subst e; rw [hj] at h2; cases h2; exact absurd h3 hn
  · exact h.2 ⟨q, s, by omega, h2, h3⟩
theorem SM.add {T : List E} {f c a : Int} {j : Nat} {y : Bool} {t : E} (h : SM T f c a j y) (hj : T[j]? = some t) (hn : ¬ (t.1 = f ∧ t.2.1 = c) ∧ inB t.1 t.2.1 f c = true ∧ hasB t.1 t.2.1 a = true) : SM T f c a (j + 1) true :=
  ⟨fun _ => ⟨j, t, by omega, hj, hn⟩, fun _ => rfl⟩
theorem SM.all {T : List E} {f c u a : Int} {y : Bool} (h : SM T f c a T.length y) : smallB T (f, c, u) a = y := by
  rw [Bool.eq_iff_iff, small_iff]
  refine Iff.trans ?_ (Iff.symm h)
  constructor
  · rintro ⟨t, h1, h2⟩
    obtain ⟨q, hq⟩ := List.mem_iff_getElem?.1 h1
    exact ⟨q, t, (List.getElem?_eq_some_iff.1 hq).1, hq, h2⟩
  · rintro ⟨q, t, h0, h1, h2⟩
    exact ⟨t, mem_at h1, h2⟩
set_option maxRecDepth 100000 in
set_option maxHeartbeats 8000000 in
theorem lawTablePut (a : Option Addr) (len cap : Nat) (zs : List Int) (w : World) (h : IsRow w a len cap zs) :
    Calls Try.prog 10 #[.slice a len cap] w fun e w' => e = .returned (.bool true) ∧ Below w.heap.size w w' := by
  have H := Lib.hid h
  have hm := isRow_len h
  clear h
  by_cases hl : 1048576 < len
  · go_enter Try.func10, Try.ntmps10
    go_wp2_with fail
    go_ret
    exact ⟨rfl, Below.refl _ _⟩
  have HB0 := Lib.hid (Below.refl w.heap.size w)
  go_enter Try.func10, Try.ntmps10
  go_wp2_with fail
  refine (dTabPut_any a len cap zs _ H.out).mono ?_
  rintro e w1 ⟨v, T, f, c, u, hT, rfl, o, b⟩
  have HB1 := Lib.hid (HB0.out.trans (b.mono HB0.out.size))
  obtain ⟨qt, pt, rfl, tt, nt⟩ := Owns.tabN o
  have Nt := Lib.hid nt
  have Ft_1 := Lib.hid o
  clear tt nt o
  clear b
  have b := (Below.refl w1.heap.size w1).alloc (Nat.le_refl _) (.cells #[.int .i64 f, .int .i64 c, .int .i64 u] 37)
  have HB2 := Lib.hid (HB1.out.trans (b.mono HB1.out.size))
  have Ft_2 := Lib.hid (owns_later Ft_1.out b)
  have Fe_2 := Lib.hid (At3.new w1 f c u 37)
  have hxe : w1.heap.size < (w1.alloc (.cells #[.int .i64 f, .int .i64 c, .int .i64 u] 37)).heap.size := by simp
  clear b
  go_wp2_with fail
  generalize w1.alloc (.cells #[.int .i64 f, .int .i64 c, .int .i64 u] 37) = w2 at *
  refine (sput_any qt pt T f c u _ (owns_tabA Ft_2.out) (by omega)).mono ?_
  rintro e w3 ⟨v, rfl, o, b⟩
  have HB3 := Lib.hid (HB2.out.trans (b.mono HB2.out.size))
  have Ft_3 := Lib.hid (owns_later Ft_2.out b)
  have Fe_3 := Lib.hid (Fe_2.out.below b)
  obtain ⟨qs, ps, rfl, ts, ns⟩ := Owns.tabN o
  have Ns := Lib.hid ns
  have Fs_3 := Lib.hid o
  clear ts ns o
  clear b
  obtain ⟨c0, c1, c2⟩ := Fe_3.out
  go_wp2_with fail
  refine (tput_any qt pt T f c u _ (owns_tabA Ft_3.out) (by omega)).mono ?_
  rintro e w4 ⟨v, rfl, o, b⟩
  have HB4 := Lib.hid (HB3.out.trans (b.mono HB3.out.size))
  have Ft_4 := Lib.hid (owns_later Ft_3.out b)
  have Fe_4 := Lib.hid (Fe_3.out.below b)
  have Fs_4 := Lib.hid (owns_later Fs_3.out b)
  obtain ⟨qx, px, rfl, tx, nx⟩ := Owns.tabN o
  have Nx := Lib.hid nx
  have Fx_4 := Lib.hid o
  clear tx nx o
  clear b
  clear c0 c1 c2
  have hUl := tput_len T (f, c, u)
  have HOK := Lib.hid (tput_ok (T := T) (e := (f, c, u)))
  have HM := Lib.hid (show tputM T (f, c, u) = ((tputM T (f, c, u)).1, (tputM T (f, c, u)).2) from rfl)
  generalize (tputM T (f, c, u)).1 = U at *
  generalize (tputM T (f, c, u)).2 = ok at *
  cases ok with
  | false =>
    go_wp2_with fail
    refine (ly_same qx qs px ps U _ (owns_tabA Fx_4.out) (owns_tabA Fs_4.out) (by omega)).mono ?_
    rintro e w5 ⟨rfl, b⟩
    have HB5 := Lib.hid (HB4.out.trans (b.mono HB4.out.size))
    have Ft_5 := Lib.hid (owns_later Ft_4.out b)
    have Fe_5 := Lib.hid (Fe_4.out.below b)
    have Fs_5 := Lib.hid (owns_later Fs_4.out b)
    have Fx_5 := Lib.hid (owns_later Fx_4.out b)
    clear b
    go_wp2_with fail
    refine (ly_same qx qs px ps U _ (owns_tabA Fx_5.out) (owns_tabA Fs_5.out) (by omega)).mono ?_
    rintro e w6 ⟨rfl, b⟩
    have HB6 := Lib.hid (HB5.out.trans (b.mono HB5.out.size))
    have Ft_6 := Lib.hid (owns_later Ft_5.out b)
    have Fe_6 := Lib.hid (Fe_5.out.below b)
    have Fs_6 := Lib.hid (owns_later Fs_5.out b)
    have Fx_6 := Lib.hid (owns_later Fx_5.out b)
    clear b
    go_wp2_with fail
    go_ret
    exact ⟨rfl, HB6.out⟩
  | true =>
    have HU := Lib.hid (HOK.out rfl)
    clear HOK
    go_wp2_with fail
    refine (ly_same qx qs px ps U _ (owns_tabA Fx_4.out) (owns_tabA Fs_4.out) (by omega)).mono ?_
    rintro e w5 ⟨rfl, b⟩
    have HB5 := Lib.hid (HB4.out.trans (b.mono HB4.out.size))
    have Ft_5 := Lib.hid (owns_later Ft_4.out b)
    have Fe_5 := Lib.hid (Fe_4.out.below b)
    have Fs_5 := Lib.hid (owns_later Fs_4.out b)
    have Fx_5 := Lib.hid (owns_later Fx_4.out b)
    clear b
    have HG := Lib.hid ((tab_good HU.out.1).1)
    go_wp2_with fail
    go_loopw [9] (fun i wr => ∃ k : Nat, k ≤ 256 ∧ i = .int .i64 k ∧ Below w5.heap.size w5 wr) (fun i _ => 256 - (intOf i).toNat)
    case atStart => exact ⟨0, by omega, rfl, Below.refl _ _⟩
    case round =>
      obtain ⟨k, hk, rfl, hb⟩ := hrel
      have b := hb
      have HB6 := Lib.hid (HB5.out.trans (b.mono HB5.out.size))
      have Ft_6 := Lib.hid (owns_later Ft_5.out b)
      have Fe_6 := Lib.hid (Fe_5.out.below b)
      have Fx_6 := Lib.hid (owns_later Fx_5.out b)
      have FL_6 := Lib.hid b
      clear b hb
      by_cases hlt : k < 256
      · have hk5 : decide ((k : Int) ≤ 255) = true := by rw [decide_eq_true_eq]; omega
        obtain ⟨wA, hwA⟩ : ∃ y, y = wr := ⟨wr, rfl⟩
        subst hwA
        have FM_6 := FL_6
        clear FL_6
        go_wp2_with fail
        go_loopw [10, 11] (fun v i wr => ∃ (j : Nat) (y : Bool), j ≤ T.length ∧ i = .int .i64 j ∧ v = .bool y ∧ SM T f c k j y ∧ Below wA.heap.size wA wr) (fun v i _ => T.length - (intOf i).toNat)
        case atStart => exact ⟨0, false, Nat.zero_le _, rfl, rfl, SM.zero _ _ _ _, Below.refl _ _⟩
        case round =>
          obtain ⟨j, y, hj, rfl, rfl, hy, hb⟩ := hrel
          have b := hb
          have HB7 := Lib.hid (HB6.out.trans (b.mono HB6.out.size))
          have Ft_7 := Lib.hid (owns_later Ft_6.out b)
          have Fe_7 := Lib.hid (Fe_6.out.below b)
          have Fx_7 := Lib.hid (owns_later Fx_6.out b)
          have FM_7 := Lib.hid (FM_6.out.trans (b.mono FM_6.out.size))
          have FL_7 := Lib.hid b
          clear b hb
          by_cases hjt : j < T.length
          · obtain ⟨bb, off, g1, c1, u1, hqt, hTj, y0, y1, y2⟩ := (owns_tabA Ft_7.out).at hjt
            subst hqt
            have i0 : (0 : Int) ≤ (j : Int) := by omega
            have i1 : (j : Int) < (T.length : Int) := by omega
            obtain ⟨e0, e1, e2⟩ := Fe_7.out
            cases y with
            | true =>
              have R := Lib.hid (hy.yes rfl)
              clear hy hTj
              go_wp2_with fail
              go_quiet (fail)
              go_wp2_with fail
              go_roundw
              case rel => exact ⟨j + 1, true, by omega, by go_num, rfl, R.out, below_drewN FL_7.out _⟩
              case measure => simp [intOf]; omega
            | false =>
              have hq : ∀ W, (binOp .neq 35 (.agg #[.int .i64 g1, .int .i64 c1]) (.agg #[.int .i64 f, .int .i64 c])).run Try.prog W = .ok (.bool (!(decide (g1 = f ∧ c1 = c)))) W := fun W => neqR g1 c1 f c W
              by_cases hs : g1 = f ∧ c1 = c
              · have R := Lib.hid (hy.no hTj (fun h => h.1 hs))
                have hd : decide (g1 = f ∧ c1 = c) = true := by simp [hs]
                have hq2 : ∀ W, (binOp .neq 35 (.agg #[.int .i64 g1, .int .i64 c1]) (.agg #[.int .i64 f, .int .i64 c])).run Try.prog W = .ok (.bool false) W := fun W => by rw [hq, hd]; rfl
                clear hq hd hs hy hTj
                go_wp2_with fail
                go_quiet (fail)
                go_wp2_with fail
                go_roundw
                case rel => exact ⟨j + 1, false, by omega, by go_num, rfl, R.out, below_drewN FL_7.out _⟩
                case measure => simp [intOf]; omega
              · have hd : decide (g1 = f ∧ c1 = c) = false := by simp [hs]
                have hq2 : ∀ W, (binOp .neq 35 (.agg #[.int .i64 g1, .int .i64 c1]) (.agg #[.int .i64 f, .int .i64 c])).run Try.prog W = .ok (.bool true) W := fun W => by rw [hq, hd]; rfl
                clear hq hd
                have Y := Lib.hid (And.intro y0 (And.intro y1 (And.intro e0 e1)))
                clear y0 y1 y2 e0 e1 e2
                cases hi : inB g1 c1 f c with
                | false =>
                  have R := Lib.hid (hy.no hTj (fun h => by have := h.2.1; simp only at this; rw [hi] at this; cases this))
                  clear hy hTj hs
                  go_wp2_with fail
                  refine wp_region_held_drew (S := fun W => W.cell? ⟨bb, off + j * 3, none⟩ = some (.int .i64 g1) ∧ W.cell? ⟨bb, off + j * 3 + 1, none⟩ = some (.int .i64 c1) ∧ W.cell? ⟨w1.heap.size, 0, none⟩ = some (.int .i64 f) ∧ W.cell? ⟨w1.heap.size, 1, none⟩ = some (.int .i64 c) ∧ Below wr.heap.size wr W) (by kernel_rfl) ?_ (fun hHeld => ?_)
                  · exact ⟨Y.out.1, Y.out.2.1, Y.out.2.2.1, Y.out.2.2.2, (Below.refl _ _).drew⟩
                  refine takeH (i := 0) (v := ?_) rfl rfl (by kernel_rfl) (by kernel_rfl) (by kernel_rfl) (fun _ _ _ h => h) (by rfl) ?_ (by assumption) ?_
                  rotate_left 1
                  · intro w hSw
                    (try dsimp only at hSw)
                    go_simp
                    try with_reducible rfl
                  try simp only [List.setIfInBounds_toArray, List.set_cons_zero, List.set_cons_succ]
                  refine takeH (i := 1) (v := ?_) rfl rfl (by kernel_rfl) (by kernel_rfl) (by kernel_rfl) (fun _ _ _ h => h) (by rfl) ?_ (by assumption) ?_
                  rotate_left 1
                  · intro w hSw
                    (try dsimp only at hSw)
                    go_simp
                    try with_reducible rfl
                  try simp only [List.setIfInBounds_toArray, List.set_cons_zero, List.set_cons_succ]
                  refine takeH (i := 2) (v := ?_) rfl rfl (by kernel_rfl) (by kernel_rfl) (by kernel_rfl) (fun _ _ _ h => h) (by rfl) ?_ (by assumption) ?_
                  rotate_left 1
                  · intro w hSw
                    (try dsimp only at hSw)
                    go_simp
                    try with_reducible rfl
                  try simp only [List.setIfInBounds_toArray, List.set_cons_zero, List.set_cons_succ]
                  refine takeH (i := 3) (v := ?_) rfl rfl (by kernel_rfl) (by kernel_rfl) (by kernel_rfl) (fun _ _ _ h => h) (by rfl) ?_ (by assumption) ?_
                  rotate_left 1
                  · intro w hSw
                    (try dsimp only at hSw)
                    go_simp
                    try with_reducible rfl
                  try simp only [List.setIfInBounds_toArray, List.set_cons_zero, List.set_cons_succ]
                  refine takeH (i := 4) (v := ?_) rfl rfl (by kernel_rfl) (by kernel_rfl) (by kernel_rfl) (fun _ _ _ h => h) (by rfl) ?_ (by assumption) ?_
                  rotate_left 1
                  · intro w hSw
                    (try dsimp only at hSw)
                    go_simp
                    try with_reducible rfl
                  try simp only [List.setIfInBounds_toArray, List.set_cons_zero, List.set_cons_succ]
                  refine takeH (i := 5) (v := ?_) rfl rfl (by kernel_rfl) (by kernel_rfl) (by kernel_rfl) (fun _ _ _ h => h) (by rfl) ?_ (by assumption) ?_
                  rotate_left 1
                  · intro w hSw
                    (try dsimp only at hSw)
                    go_simp
                    try with_reducible rfl
                  try simp only [List.setIfInBounds_toArray, List.set_cons_zero, List.set_cons_succ]
                  refine takeH (i := 6) (v := ?_) rfl rfl (by kernel_rfl) (by kernel_rfl) (by kernel_rfl) (fun _ _ _ h => h) (by rfl) ?_ (by assumption) ?_
                  rotate_left 1
                  · intro w hSw
                    (try dsimp only at hSw)
                    go_simp
                    try with_reducible rfl
                  try simp only [List.setIfInBounds_toArray, List.set_cons_zero, List.set_cons_succ]
                  refine takeH (i := 7) (v := ?_) rfl rfl (by kernel_rfl) (by kernel_rfl) (by kernel_rfl) (fun _ _ _ h => h) (by rfl) ?_ (by assumption) ?_
                  rotate_left 1
                  · intro w hSw
                    (try dsimp only at hSw)
                    go_simp
                    try with_reducible rfl
                  try simp only [List.setIfInBounds_toArray, List.set_cons_zero, List.set_cons_succ]
                  refine takeH (i := 8) (v := ?_) rfl rfl (by kernel_rfl) (by kernel_rfl) (by kernel_rfl) (fun _ _ _ h => h) (by rfl) ?_ (by assumption) ?_
                  rotate_left 1
                  · intro w hSw
                    (try dsimp only at hSw)
                    go_simp
                    try with_reducible rfl
                  try simp only [List.setIfInBounds_toArray, List.set_cons_zero, List.set_cons_succ]
                  refine takeH (i := 9) (v := ?_) rfl rfl (by kernel_rfl) (by kernel_rfl) (by kernel_rfl) (fun _ _ _ h => h) (by rfl) ?_ (by assumption) ?_
                  rotate_left 1
                  · intro w hSw
                    (try dsimp only at hSw)
                    go_simp
                    try with_reducible rfl
                  try simp only [List.setIfInBounds_toArray, List.set_cons_zero, List.set_cons_succ]
                  refine takeH (i := 10) (v := ?_) rfl rfl (by kernel_rfl) (by kernel_rfl) (by kernel_rfl) (fun _ _ _ h => h) (by rfl) ?_ (by assumption) ?_
                  rotate_left 1
                  · intro w hSw
                    (try dsimp only at hSw)
                    go_simp
                    try with_reducible rfl
                  try simp only [List.setIfInBounds_toArray, List.set_cons_zero, List.set_cons_succ]
                  refine takeH (i := 11) (v := ?_) rfl rfl (by kernel_rfl) (by kernel_rfl) (by kernel_rfl) (fun _ _ _ h => h) (by rfl) ?_ (by assumption) ?_
                  rotate_left 1
                  · intro w hSw
                    (try dsimp only at hSw)
                    go_simp
                    try with_reducible rfl
                  try simp only [List.setIfInBounds_toArray, List.set_cons_zero, List.set_cons_succ]
                  refine takeH (i := 12) (v := ?_) rfl rfl (by kernel_rfl) (by kernel_rfl) (by kernel_rfl) (fun _ _ _ h => h) (by rfl) ?_ (by assumption) ?_
                  rotate_left 1
                  · intro w hSw
                    (try dsimp only at hSw)
                    go_simp
                    try with_reducible rfl
                  try simp only [List.setIfInBounds_toArray, List.set_cons_zero, List.set_cons_succ]
                  refine takeH (i := 13) (v := ?_) rfl rfl (by kernel_rfl) (by kernel_rfl) (by kernel_rfl) (fun _ _ _ h => h) (by rfl) ?_ (by assumption) ?_
                  rotate_left 1
                  · intro w hSw
                    (try dsimp only at hSw)
                    go_simp
                    try with_reducible rfl
                  try simp only [List.setIfInBounds_toArray, List.set_cons_zero, List.set_cons_succ]
                  refine takeH (i := 14) (v := ?_) rfl rfl (by kernel_rfl) (by kernel_rfl) (by kernel_rfl) (fun _ _ _ h => h) (by rfl) ?_ (by assumption) ?_
                  rotate_left 1
                  · intro w hSw
                    (try dsimp only at hSw)
                    go_simp
                    try with_reducible rfl
                  try simp only [List.setIfInBounds_toArray, List.set_cons_zero, List.set_cons_succ]
                  refine takeH (i := 15) (v := ?_) rfl rfl (by kernel_rfl) (by kernel_rfl) (by kernel_rfl) (fun _ _ _ h => h) (by rfl) ?_ (by assumption) ?_
                  rotate_left 1
                  · intro w hSw
                    (try dsimp only at hSw)
                    go_simp
                    try with_reducible rfl
                  try simp only [List.setIfInBounds_toArray, List.set_cons_zero, List.set_cons_succ]
                  refine takeH (i := 16) (v := ?_) rfl rfl (by kernel_rfl) (by kernel_rfl) (by kernel_rfl) (fun _ _ _ h => h) (by rfl) ?_ (by assumption) ?_
                  rotate_left 1
                  · intro w hSw
                    (try dsimp only at hSw)
                    go_simp
                    try with_reducible rfl
                  try simp only [List.setIfInBounds_toArray, List.set_cons_zero, List.set_cons_succ]
                  refine takeH (i := 17) (v := ?_) rfl rfl (by kernel_rfl) (by kernel_rfl) (by kernel_rfl) (fun _ _ _ h => h) (by rfl) ?_ (by assumption) ?_
                  rotate_left 1
                  · intro w hSw
                    (try dsimp only at hSw)
                    go_simp
                    try with_reducible rfl
                  try simp only [List.setIfInBounds_toArray, List.set_cons_zero, List.set_cons_succ]
                  refine wpAnyH_ready (rs := [18]) (by kernel_rfl) (by simp) ?_
                  refine AllReadyH.cons rfl (fun K hK => ?_) (AllReadyH.nil)
                  go_simp
                  refine (rin_is hi _).mono ?_
                  rintro e W18 ⟨rfl, hb2⟩
                  go_wp2_with fail
                  refine hK.out _ _ ?_ (fun hNew => ?_)
                  · exact ⟨cell_later hb2 hHeld.1, cell_later hb2 hHeld.2.1, cell_later hb2 hHeld.2.2.1, cell_later hb2 hHeld.2.2.2.1, hHeld.2.2.2.2.trans (hb2.mono hHeld.2.2.2.2.size)⟩
                  clear hK K hHeld
                  have hHeld := hNew
                  clear hNew
                  try simp only [Act.put, List.setIfInBounds_toArray, List.set_cons_zero, List.set_cons_succ]
                  refine takeH (i := 19) (v := ?_) rfl rfl (by kernel_rfl) (by kernel_rfl) (by kernel_rfl) (fun _ _ _ h => h) (by rfl) ?_ (by assumption) ?_
                  rotate_left 1
                  · intro w hSw
                    (try dsimp only at hSw)
                    go_simp
                    try with_reducible rfl
                  try simp only [List.setIfInBounds_toArray, List.set_cons_zero, List.set_cons_succ]
                  refine takeH (i := 20) (v := ?_) rfl rfl (by kernel_rfl) (by kernel_rfl) (by kernel_rfl) (fun _ _ _ h => h) (by rfl) ?_ (by assumption) ?_
                  rotate_left 1
                  · intro w hSw
                    (try dsimp only at hSw)
                    go_simp
                    try with_reducible rfl
                  try simp only [List.setIfInBounds_toArray, List.set_cons_zero, List.set_cons_succ]
                  refine skipH (i := 21) rfl rfl (by kernel_rfl) (by kernel_rfl) (by kernel_rfl) (fun _ _ _ h => h) (by rfl) (by assumption) ?_
                  try simp only [List.setIfInBounds_toArray, List.set_cons_zero, List.set_cons_succ]
                  refine skipH (i := 22) rfl rfl (by kernel_rfl) (by kernel_rfl) (by kernel_rfl) (fun _ _ _ h => h) (by rfl) (by assumption) ?_
                  try simp only [List.setIfInBounds_toArray, List.set_cons_zero, List.set_cons_succ]
                  refine skipH (i := 23) rfl rfl (by kernel_rfl) (by kernel_rfl) (by kernel_rfl) (fun _ _ _ h => h) (by rfl) (by assumption) ?_
                  try simp only [List.setIfInBounds_toArray, List.set_cons_zero, List.set_cons_succ]
                  refine skipH (i := 24) rfl rfl (by kernel_rfl) (by kernel_rfl) (by kernel_rfl) (fun _ _ _ h => h) (by rfl) (by assumption) ?_
                  try simp only [List.setIfInBounds_toArray, List.set_cons_zero, List.set_cons_succ]
                  refine skipH (i := 25) rfl rfl (by kernel_rfl) (by kernel_rfl) (by kernel_rfl) (fun _ _ _ h => h) (by rfl) (by assumption) ?_
                  try simp only [List.setIfInBounds_toArray, List.set_cons_zero, List.set_cons_succ]
                  refine skipH (i := 26) rfl rfl (by kernel_rfl) (by kernel_rfl) (by kernel_rfl) (fun _ _ _ h => h) (by rfl) (by assumption) ?_
                  try simp only [List.setIfInBounds_toArray, List.set_cons_zero, List.set_cons_succ]
                  refine skipH (i := 27) rfl rfl (by kernel_rfl) (by kernel_rfl) (by kernel_rfl) (fun _ _ _ h => h) (by rfl) (by assumption) ?_
                  try simp only [List.setIfInBounds_toArray, List.set_cons_zero, List.set_cons_succ]
                  refine takeH (i := 28) (v := ?_) rfl rfl (by kernel_rfl) (by kernel_rfl) (by kernel_rfl) (fun _ _ _ h => h) (by rfl) ?_ (by assumption) ?_
                  rotate_left 1
                  · intro w hSw
                    (try dsimp only at hSw)
                    go_simp
                    try with_reducible rfl
                  try simp only [List.setIfInBounds_toArray, List.set_cons_zero, List.set_cons_succ]
                  refine takeH (i := 29) (v := ?_) rfl rfl (by kernel_rfl) (by kernel_rfl) (by kernel_rfl) (fun _ _ _ h => h) (by rfl) ?_ (by assumption) ?_
                  rotate_left 1
                  · intro w hSw
                    (try dsimp only at hSw)
                    go_simp
                    try with_reducible rfl
                  try simp only [List.setIfInBounds_toArray, List.set_cons_zero, List.set_cons_succ]
                  refine takeH (i := 30) (v := ?_) rfl rfl (by kernel_rfl) (by kernel_rfl) (by kernel_rfl) (fun _ _ _ h => h) (by rfl) ?_ (by assumption) ?_
                  rotate_left 1
                  · intro w hSw
                    (try dsimp only at hSw)
                    go_simp
                    try with_reducible rfl
                  try simp only [List.setIfInBounds_toArray, List.set_cons_zero, List.set_cons_succ]
                  refine wpAnyH_done (by kernel_rfl) ?_ _
                  have b := hHeld.2.2.2.2
                  have HB8 := Lib.hid (HB7.out.trans (b.mono HB7.out.size))
                  have Ft_8 := Lib.hid (owns_later Ft_7.out b)
                  have Fe_8 := Lib.hid (Fe_7.out.below b)
                  have Fx_8 := Lib.hid (owns_later Fx_7.out b)
                  have FM_8 := Lib.hid (FM_7.out.trans (b.mono FM_7.out.size))
                  have FL_8 := Lib.hid (FL_7.out.trans (b.mono FL_7.out.size))
                  clear b hHeld
                  go_wp2_with fail
                  go_roundw
                  case rel => exact ⟨j + 1, false, by omega, by go_num, rfl, R.out, FL_8.out⟩
                  case measure => simp [intOf]; omega
                | true =>
                  cases hh : hasB g1 c1 k with
                  | false =>
                    have R := Lib.hid (hy.no hTj (fun h => by have := h.2.2; simp only at this; rw [hh] at this; cases this))
                    clear hy hTj hs
                    go_wp2_with fail
                    refine wp_region_held_drew (S := fun W => W.cell? ⟨bb, off + j * 3, none⟩ = some (.int .i64 g1) ∧ W.cell? ⟨bb, off + j * 3 + 1, none⟩ = some (.int .i64 c1) ∧ W.cell? ⟨w1.heap.size, 0, none⟩ = some (.int .i64 f) ∧ W.cell? ⟨w1.heap.size, 1, none⟩ = some (.int .i64 c) ∧ Below wr.heap.size wr W) (by kernel_rfl) ?_ (fun hHeld => ?_)
                    · exact ⟨Y.out.1, Y.out.2.1, Y.out.2.2.1, Y.out.2.2.2, (Below.refl _ _).drew⟩
                    refine takeH (i := 0) (v := ?_) rfl rfl (by kernel_rfl) (by kernel_rfl) (by kernel_rfl) (fun _ _ _ h => h) (by rfl) ?_ (by assumption) ?_
                    rotate_left 1
                    · intro w hSw
                      (try dsimp only at hSw)
                      go_simp
                      try with_reducible rfl
                    try simp only [List.setIfInBounds_toArray, List.set_cons_zero, List.set_cons_succ]
                    refine takeH (i := 1) (v := ?_) rfl rfl (by kernel_rfl) (by kernel_rfl) (by kernel_rfl) (fun _ _ _ h => h) (by rfl) ?_ (by assumption) ?_
                    rotate_left 1
                    · intro w hSw
                      (try dsimp only at hSw)
                      go_simp
                      try with_reducible rfl
                    try simp only [List.setIfInBounds_toArray, List.set_cons_zero, List.set_cons_succ]
                    refine takeH (i := 2) (v := ?_) rfl rfl (by kernel_rfl) (by kernel_rfl) (by kernel_rfl) (fun _ _ _ h => h) (by rfl) ?_ (by assumption) ?_
                    rotate_left 1
                    · intro w hSw
                      (try dsimp only at hSw)
                      go_simp
                      try with_reducible rfl
                    try simp only [List.setIfInBounds_toArray, List.set_cons_zero, List.set_cons_succ]
                    refine takeH (i := 3) (v := ?_) rfl rfl (by kernel_rfl) (by kernel_rfl) (by kernel_rfl) (fun _ _ _ h => h) (by rfl) ?_ (by assumption) ?_
                    rotate_left 1
                    · intro w hSw
                      (try dsimp only at hSw)
                      go_simp
                      try with_reducible rfl
                    try simp only [List.setIfInBounds_toArray, List.set_cons_zero, List.set_cons_succ]
                    refine takeH (i := 4) (v := ?_) rfl rfl (by kernel_rfl) (by kernel_rfl) (by kernel_rfl) (fun _ _ _ h => h) (by rfl) ?_ (by assumption) ?_
                    rotate_left 1
                    · intro w hSw
                      (try dsimp only at hSw)
                      go_simp
                      try with_reducible rfl
                    try simp only [List.setIfInBounds_toArray, List.set_cons_zero, List.set_cons_succ]
                    refine takeH (i := 5) (v := ?_) rfl rfl (by kernel_rfl) (by kernel_rfl) (by kernel_rfl) (fun _ _ _ h => h) (by rfl) ?_ (by assumption) ?_
                    rotate_left 1
                    · intro w hSw
                      (try dsimp only at hSw)
                      go_simp
                      try with_reducible rfl
                    try simp only [List.setIfInBounds_toArray, List.set_cons_zero, List.set_cons_succ]
                    refine takeH (i := 6) (v := ?_) rfl rfl (by kernel_rfl) (by kernel_rfl) (by kernel_rfl) (fun _ _ _ h => h) (by rfl) ?_ (by assumption) ?_
                    rotate_left 1
                    · intro w hSw
                      (try dsimp only at hSw)
                      go_simp
                      try with_reducible rfl
                    try simp only [List.setIfInBounds_toArray, List.set_cons_zero, List.set_cons_succ]
                    refine takeH (i := 7) (v := ?_) rfl rfl (by kernel_rfl) (by kernel_rfl) (by kernel_rfl) (fun _ _ _ h => h) (by rfl) ?_ (by assumption) ?_
                    rotate_left 1
                    · intro w hSw
                      (try dsimp only at hSw)
                      go_simp
                      try with_reducible rfl
                    try simp only [List.setIfInBounds_toArray, List.set_cons_zero, List.set_cons_succ]
                    refine takeH (i := 8) (v := ?_) rfl rfl (by kernel_rfl) (by kernel_rfl) (by kernel_rfl) (fun _ _ _ h => h) (by rfl) ?_ (by assumption) ?_
                    rotate_left 1
                    · intro w hSw
                      (try dsimp only at hSw)
                      go_simp
                      try with_reducible rfl
                    try simp only [List.setIfInBounds_toArray, List.set_cons_zero, List.set_cons_succ]
                    refine takeH (i := 9) (v := ?_) rfl rfl (by kernel_rfl) (by kernel_rfl) (by kernel_rfl) (fun _ _ _ h => h) (by rfl) ?_ (by assumption) ?_
                    rotate_left 1
                    · intro w hSw
                      (try dsimp only at hSw)
                      go_simp
                      try with_reducible rfl
                    try simp only [List.setIfInBounds_toArray, List.set_cons_zero, List.set_cons_succ]
                    refine takeH (i := 10) (v := ?_) rfl rfl (by kernel_rfl) (by kernel_rfl) (by kernel_rfl) (fun _ _ _ h => h) (by rfl) ?_ (by assumption) ?_
                    rotate_left 1
                    · intro w hSw
                      (try dsimp only at hSw)
                      go_simp
                      try with_reducible rfl
                    try simp only [List.setIfInBounds_toArray, List.set_cons_zero, List.set_cons_succ]
                    refine takeH (i := 11) (v := ?_) rfl rfl (by kernel_rfl) (by kernel_rfl) (by kernel_rfl) (fun _ _ _ h => h) (by rfl) ?_ (by assumption) ?_
                    rotate_left 1
                    · intro w hSw
                      (try dsimp only at hSw)
                      go_simp
                      try with_reducible rfl
                    try simp only [List.setIfInBounds_toArray, List.set_cons_zero, List.set_cons_succ]
                    refine takeH (i := 12) (v := ?_) rfl rfl (by kernel_rfl) (by kernel_rfl) (by kernel_rfl) (fun _ _ _ h => h) (by rfl) ?_ (by assumption) ?_
                    rotate_left 1
                    · intro w hSw
                      (try dsimp only at hSw)
                      go_simp
                      try with_reducible rfl
                    try simp only [List.setIfInBounds_toArray, List.set_cons_zero, List.set_cons_succ]
                    refine takeH (i := 13) (v := ?_) rfl rfl (by kernel_rfl) (by kernel_rfl) (by kernel_rfl) (fun _ _ _ h => h) (by rfl) ?_ (by assumption) ?_
                    rotate_left 1
                    · intro w hSw
                      (try dsimp only at hSw)
                      go_simp
                      try with_reducible rfl
                    try simp only [List.setIfInBounds_toArray, List.set_cons_zero, List.set_cons_succ]
                    refine takeH (i := 14) (v := ?_) rfl rfl (by kernel_rfl) (by kernel_rfl) (by kernel_rfl) (fun _ _ _ h => h) (by rfl) ?_ (by assumption) ?_
                    rotate_left 1
                    · intro w hSw
                      (try dsimp only at hSw)
                      go_simp
                      try with_reducible rfl
                    try simp only [List.setIfInBounds_toArray, List.set_cons_zero, List.set_cons_succ]
                    refine takeH (i := 15) (v := ?_) rfl rfl (by kernel_rfl) (by kernel_rfl) (by kernel_rfl) (fun _ _ _ h => h) (by rfl) ?_ (by assumption) ?_
                    rotate_left 1
                    · intro w hSw
                      (try dsimp only at hSw)
                      go_simp
                      try with_reducible rfl
                    try simp only [List.setIfInBounds_toArray, List.set_cons_zero, List.set_cons_succ]
                    refine takeH (i := 16) (v := ?_) rfl rfl (by kernel_rfl) (by kernel_rfl) (by kernel_rfl) (fun _ _ _ h => h) (by rfl) ?_ (by assumption) ?_
                    rotate_left 1
                    · intro w hSw
                      (try dsimp only at hSw)
                      go_simp
                      try with_reducible rfl
                    try simp only [List.setIfInBounds_toArray, List.set_cons_zero, List.set_cons_succ]
                    refine takeH (i := 17) (v := ?_) rfl rfl (by kernel_rfl) (by kernel_rfl) (by kernel_rfl) (fun _ _ _ h => h) (by rfl) ?_ (by assumption) ?_
                    rotate_left 1
                    · intro w hSw
                      (try dsimp only at hSw)
                      go_simp
                      try with_reducible rfl
                    try simp only [List.setIfInBounds_toArray, List.set_cons_zero, List.set_cons_succ]
                    refine wpAnyH_ready (rs := [18]) (by kernel_rfl) (by simp) ?_
                    refine AllReadyH.cons rfl (fun K hK => ?_) (AllReadyH.nil)
                    go_simp
                    refine (rin_is hi _).mono ?_
                    rintro e W18 ⟨rfl, hb2⟩
                    go_wp2_with fail
                    refine hK.out _ _ ?_ (fun hNew => ?_)
                    · exact ⟨cell_later hb2 hHeld.1, cell_later hb2 hHeld.2.1, cell_later hb2 hHeld.2.2.1, cell_later hb2 hHeld.2.2.2.1, hHeld.2.2.2.2.trans (hb2.mono hHeld.2.2.2.2.size)⟩
                    clear hK K hHeld
                    have hHeld := hNew
                    clear hNew
                    try simp only [Act.put, List.setIfInBounds_toArray, List.set_cons_zero, List.set_cons_succ]
                    refine takeH (i := 19) (v := ?_) rfl rfl (by kernel_rfl) (by kernel_rfl) (by kernel_rfl) (fun _ _ _ h => h) (by rfl) ?_ (by assumption) ?_
                    rotate_left 1
                    · intro w hSw
                      (try dsimp only at hSw)
                      go_simp
                      try with_reducible rfl
                    try simp only [List.setIfInBounds_toArray, List.set_cons_zero, List.set_cons_succ]
                    refine takeH (i := 20) (v := ?_) rfl rfl (by kernel_rfl) (by kernel_rfl) (by kernel_rfl) (fun _ _ _ h => h) (by rfl) ?_ (by assumption) ?_
                    rotate_left 1
                    · intro w hSw
                      (try dsimp only at hSw)
                      go_simp
                      try with_reducible rfl
                    try simp only [List.setIfInBounds_toArray, List.set_cons_zero, List.set_cons_succ]
                    refine takeH (i := 21) (v := ?_) rfl rfl (by kernel_rfl) (by kernel_rfl) (by kernel_rfl) (fun _ _ _ h => h) (by rfl) ?_ (by assumption) ?_
                    rotate_left 1
                    · intro w hSw
                      (try dsimp only at hSw)
                      go_simp
                      try with_reducible rfl
                    try simp only [List.setIfInBounds_toArray, List.set_cons_zero, List.set_cons_succ]
                    refine takeH (i := 22) (v := ?_) rfl rfl (by kernel_rfl) (by kernel_rfl) (by kernel_rfl) (fun _ _ _ h => h) (by rfl) ?_ (by assumption) ?_
                    rotate_left 1
                    · intro w hSw
                      (try dsimp only at hSw)
                      go_simp
                      try with_reducible rfl
                    try simp only [List.setIfInBounds_toArray, List.set_cons_zero, List.set_cons_succ]
                    refine takeH (i := 23) (v := ?_) rfl rfl (by kernel_rfl) (by kernel_rfl) (by kernel_rfl) (fun _ _ _ h => h) (by rfl) ?_ (by assumption) ?_
                    rotate_left 1
                    · intro w hSw
                      (try dsimp only at hSw)
                      go_simp
                      try with_reducible rfl
                    try simp only [List.setIfInBounds_toArray, List.set_cons_zero, List.set_cons_succ]
                    refine takeH (i := 24) (v := ?_) rfl rfl (by kernel_rfl) (by kernel_rfl) (by kernel_rfl) (fun _ _ _ h => h) (by rfl) ?_ (by assumption) ?_
                    rotate_left 1
                    · intro w hSw
                      (try dsimp only at hSw)
                      go_simp
                      try with_reducible rfl
                    try simp only [List.setIfInBounds_toArray, List.set_cons_zero, List.set_cons_succ]
                    refine takeH (i := 25) (v := ?_) rfl rfl (by kernel_rfl) (by kernel_rfl) (by kernel_rfl) (fun _ _ _ h => h) (by rfl) ?_ (by assumption) ?_
                    rotate_left 1
                    · intro w hSw
                      (try dsimp only at hSw)
                      go_simp
                      try with_reducible rfl
                    try simp only [List.setIfInBounds_toArray, List.set_cons_zero, List.set_cons_succ]
                    refine takeH (i := 26) (v := ?_) rfl rfl (by kernel_rfl) (by kernel_rfl) (by kernel_rfl) (fun _ _ _ h => h) (by rfl) ?_ (by assumption) ?_
                    rotate_left 1
                    · intro w hSw
                      (try dsimp only at hSw)
                      go_simp
                      try with_reducible rfl
                    try simp only [List.setIfInBounds_toArray, List.set_cons_zero, List.set_cons_succ]
                    refine wpAnyH_ready (rs := [27]) (by kernel_rfl) (by simp) ?_
                    refine AllReadyH.cons rfl (fun K hK => ?_) (AllReadyH.nil)
                    go_simp
                    refine (rhas_is hh _ (by omega)).mono ?_
                    rintro e W27 ⟨rfl, hb2⟩
                    go_wp2_with fail
                    refine hK.out _ _ ?_ (fun hNew => ?_)
                    · exact ⟨cell_later hb2 hHeld.1, cell_later hb2 hHeld.2.1, cell_later hb2 hHeld.2.2.1, cell_later hb2 hHeld.2.2.2.1, hHeld.2.2.2.2.trans (hb2.mono hHeld.2.2.2.2.size)⟩
                    clear hK K hHeld
                    have hHeld := hNew
                    clear hNew
                    try simp only [Act.put, List.setIfInBounds_toArray, List.set_cons_zero, List.set_cons_succ]
                    refine takeH (i := 28) (v := ?_) rfl rfl (by kernel_rfl) (by kernel_rfl) (by kernel_rfl) (fun _ _ _ h => h) (by rfl) ?_ (by assumption) ?_
                    rotate_left 1
                    · intro w hSw
                      (try dsimp only at hSw)
                      go_simp
                      try with_reducible rfl
                    try simp only [List.setIfInBounds_toArray, List.set_cons_zero, List.set_cons_succ]
                    refine takeH (i := 29) (v := ?_) rfl rfl (by kernel_rfl) (by kernel_rfl) (by kernel_rfl) (fun _ _ _ h => h) (by rfl) ?_ (by assumption) ?_
                    rotate_left 1
                    · intro w hSw
                      (try dsimp only at hSw)
                      go_simp
                      try with_reducible rfl
                    try simp only [List.setIfInBounds_toArray, List.set_cons_zero, List.set_cons_succ]
                    refine takeH (i := 30) (v := ?_) rfl rfl (by kernel_rfl) (by kernel_rfl) (by kernel_rfl) (fun _ _ _ h => h) (by rfl) ?_ (by assumption) ?_
                    rotate_left 1
                    · intro w hSw
                      (try dsimp only at hSw)
                      go_simp
                      try with_reducible rfl
                    try simp only [List.setIfInBounds_toArray, List.set_cons_zero, List.set_cons_succ]
                    refine wpAnyH_done (by kernel_rfl) ?_ _
                    have b := hHeld.2.2.2.2
                    have HB8 := Lib.hid (HB7.out.trans (b.mono HB7.out.size))
                    have Ft_8 := Lib.hid (owns_later Ft_7.out b)
                    have Fe_8 := Lib.hid (Fe_7.out.below b)
                    have Fx_8 := Lib.hid (owns_later Fx_7.out b)
                    have FM_8 := Lib.hid (FM_7.out.trans (b.mono FM_7.out.size))
                    have FL_8 := Lib.hid (FL_7.out.trans (b.mono FL_7.out.size))
                    clear b hHeld
                    go_wp2_with fail
                    go_roundw
                    case rel => exact ⟨j + 1, false, by omega, by go_num, rfl, R.out, FL_8.out⟩
                    case measure => simp [intOf]; omega
                  | true =>
                    have R := Lib.hid (hy.add hTj ⟨hs, hi, hh⟩)
                    clear hy hTj hs
                    go_wp2_with fail
                    refine wp_region_held_drew (S := fun W => W.cell? ⟨bb, off + j * 3, none⟩ = some (.int .i64 g1) ∧ W.cell? ⟨bb, off + j * 3 + 1, none⟩ = some (.int .i64 c1) ∧ W.cell? ⟨w1.heap.size, 0, none⟩ = some (.int .i64 f) ∧ W.cell? ⟨w1.heap.size, 1, none⟩ = some (.int .i64 c) ∧ Below wr.heap.size wr W) (by kernel_rfl) ?_ (fun hHeld => ?_)
                    · exact ⟨Y.out.1, Y.out.2.1, Y.out.2.2.1, Y.out.2.2.2, (Below.refl _ _).drew⟩
                    refine takeH (i := 0) (v := ?_) rfl rfl (by kernel_rfl) (by kernel_rfl) (by kernel_rfl) (fun _ _ _ h => h) (by rfl) ?_ (by assumption) ?_
                    rotate_left 1
                    · intro w hSw
                      (try dsimp only at hSw)
                      go_simp
                      try with_reducible rfl
                    try simp only [List.setIfInBounds_toArray, List.set_cons_zero, List.set_cons_succ]
                    refine takeH (i := 1) (v := ?_) rfl rfl (by kernel_rfl) (by kernel_rfl) (by kernel_rfl) (fun _ _ _ h => h) (by rfl) ?_ (by assumption) ?_
                    rotate_left 1
                    · intro w hSw
                      (try dsimp only at hSw)
                      go_simp
                      try with_reducible rfl
                    try simp only [List.setIfInBounds_toArray, List.set_cons_zero, List.set_cons_succ]
                    refine takeH (i := 2) (v := ?_) rfl rfl (by kernel_rfl) (by kernel_rfl) (by kernel_rfl) (fun _ _ _ h => h) (by rfl) ?_ (by assumption) ?_
                    rotate_left 1
                    · intro w hSw
                      (try dsimp only at hSw)
                      go_simp
                      try with_reducible rfl
                    try simp only [List.setIfInBounds_toArray, List.set_cons_zero, List.set_cons_succ]
                    refine takeH (i := 3) (v := ?_) rfl rfl (by kernel_rfl) (by kernel_rfl) (by kernel_rfl) (fun _ _ _ h => h) (by rfl) ?_ (by assumption) ?_
                    rotate_left 1
                    · intro w hSw
                      (try dsimp only at hSw)
                      go_simp
                      try with_reducible rfl
                    try simp only [List.setIfInBounds_toArray, List.set_cons_zero, List.set_cons_succ]
                    refine takeH (i := 4) (v := ?_) rfl rfl (by kernel_rfl) (by kernel_rfl) (by kernel_rfl) (fun _ _ _ h => h) (by rfl) ?_ (by assumption) ?_
                    rotate_left 1
                    · intro w hSw
                      (try dsimp only at hSw)
                      go_simp
                      try with_reducible rfl
                    try simp only [List.setIfInBounds_toArray, List.set_cons_zero, List.set_cons_succ]
                    refine takeH (i := 5) (v := ?_) rfl rfl (by kernel_rfl) (by kernel_rfl) (by kernel_rfl) (fun _ _ _ h => h) (by rfl) ?_ (by assumption) ?_
                    rotate_left 1
                    · intro w hSw
                      (try dsimp only at hSw)
                      go_simp
                      try with_reducible rfl
                    try simp only [List.setIfInBounds_toArray, List.set_cons_zero, List.set_cons_succ]
                    refine takeH (i := 6) (v := ?_) rfl rfl (by kernel_rfl) (by kernel_rfl) (by kernel_rfl) (fun _ _ _ h => h) (by rfl) ?_ (by assumption) ?_
                    rotate_left 1
                    · intro w hSw
                      (try dsimp only at hSw)
                      go_simp
                      try with_reducible rfl
                    try simp only [List.setIfInBounds_toArray, List.set_cons_zero, List.set_cons_succ]
                    refine takeH (i := 7) (v := ?_) rfl rfl (by kernel_rfl) (by kernel_rfl) (by kernel_rfl) (fun _ _ _ h => h) (by rfl) ?_ (by assumption) ?_
                    rotate_left 1
                    · intro w hSw
                      (try dsimp only at hSw)
                      go_simp
                      try with_reducible rfl
                    try simp only [List.setIfInBounds_toArray, List.set_cons_zero, List.set_cons_succ]
                    refine takeH (i := 8) (v := ?_) rfl rfl (by kernel_rfl) (by kernel_rfl) (by kernel_rfl) (fun _ _ _ h => h) (by rfl) ?_ (by assumption) ?_
                    rotate_left 1
                    · intro w hSw
                      (try dsimp only at hSw)
                      go_simp
                      try with_reducible rfl
                    try simp only [List.setIfInBounds_toArray, List.set_cons_zero, List.set_cons_succ]
                    refine takeH (i := 9) (v := ?_) rfl rfl (by kernel_rfl) (by kernel_rfl) (by kernel_rfl) (fun _ _ _ h => h) (by rfl) ?_ (by assumption) ?_
                    rotate_left 1
                    · intro w hSw
                      (try dsimp only at hSw)
                      go_simp
                      try with_reducible rfl
                    try simp only [List.setIfInBounds_toArray, List.set_cons_zero, List.set_cons_succ]
                    refine takeH (i := 10) (v := ?_) rfl rfl (by kernel_rfl) (by kernel_rfl) (by kernel_rfl) (fun _ _ _ h => h) (by rfl) ?_ (by assumption) ?_
                    rotate_left 1
                    · intro w hSw
                      (try dsimp only at hSw)
                      go_simp
                      try with_reducible rfl
                    try simp only [List.setIfInBounds_toArray, List.set_cons_zero, List.set_cons_succ]
                    refine takeH (i := 11) (v := ?_) rfl rfl (by kernel_rfl) (by kernel_rfl) (by kernel_rfl) (fun _ _ _ h => h) (by rfl) ?_ (by assumption) ?_
                    rotate_left 1
                    · intro w hSw
                      (try dsimp only at hSw)
                      go_simp
                      try with_reducible rfl
                    try simp only [List.setIfInBounds_toArray, List.set_cons_zero, List.set_cons_succ]
                    refine takeH (i := 12) (v := ?_) rfl rfl (by kernel_rfl) (by kernel_rfl) (by kernel_rfl) (fun _ _ _ h => h) (by rfl) ?_ (by assumption) ?_
                    rotate_left 1
                    · intro w hSw
                      (try dsimp only at hSw)
                      go_simp
                      try with_reducible rfl
                    try simp only [List.setIfInBounds_toArray, List.set_cons_zero, List.set_cons_succ]
                    refine takeH (i := 13) (v := ?_) rfl rfl (by kernel_rfl) (by kernel_rfl) (by kernel_rfl) (fun _ _ _ h => h) (by rfl) ?_ (by assumption) ?_
                    rotate_left 1
                    · intro w hSw
                      (try dsimp only at hSw)
                      go_simp
                      try with_reducible rfl
                    try simp only [List.setIfInBounds_toArray, List.set_cons_zero, List.set_cons_succ]
                    refine takeH (i := 14) (v := ?_) rfl rfl (by kernel_rfl) (by kernel_rfl) (by kernel_rfl) (fun _ _ _ h => h) (by rfl) ?_ (by assumption) ?_
                    rotate_left 1
                    · intro w hSw
                      (try dsimp only at hSw)
                      go_simp
                      try with_reducible rfl
                    try simp only [List.setIfInBounds_toArray, List.set_cons_zero, List.set_cons_succ]
                    refine takeH (i := 15) (v := ?_) rfl rfl (by kernel_rfl) (by kernel_rfl) (by kernel_rfl) (fun _ _ _ h => h) (by rfl) ?_ (by assumption) ?_
                    rotate_left 1
                    · intro w hSw
                      (try dsimp only at hSw)
                      go_simp
                      try with_reducible rfl
                    try simp only [List.setIfInBounds_toArray, List.set_cons_zero, List.set_cons_succ]
                    refine takeH (i := 16) (v := ?_) rfl rfl (by kernel_rfl) (by kernel_rfl) (by kernel_rfl) (fun _ _ _ h => h) (by rfl) ?_ (by assumption) ?_
                    rotate_left 1
                    · intro w hSw
                      (try dsimp only at hSw)
                      go_simp
                      try with_reducible rfl
                    try simp only [List.setIfInBounds_toArray, List.set_cons_zero, List.set_cons_succ]
                    refine takeH (i := 17) (v := ?_) rfl rfl (by kernel_rfl) (by kernel_rfl) (by kernel_rfl) (fun _ _ _ h => h) (by rfl) ?_ (by assumption) ?_
                    rotate_left 1
                    · intro w hSw
                      (try dsimp only at hSw)
                      go_simp
                      try with_reducible rfl
                    try simp only [List.setIfInBounds_toArray, List.set_cons_zero, List.set_cons_succ]
                    refine wpAnyH_ready (rs := [18]) (by kernel_rfl) (by simp) ?_
                    refine AllReadyH.cons rfl (fun K hK => ?_) (AllReadyH.nil)
                    go_simp
                    refine (rin_is hi _).mono ?_
                    rintro e W18 ⟨rfl, hb2⟩
                    go_wp2_with fail
                    refine hK.out _ _ ?_ (fun hNew => ?_)
                    · exact ⟨cell_later hb2 hHeld.1, cell_later hb2 hHeld.2.1, cell_later hb2 hHeld.2.2.1, cell_later hb2 hHeld.2.2.2.1, hHeld.2.2.2.2.trans (hb2.mono hHeld.2.2.2.2.size)⟩
                    clear hK K hHeld
                    have hHeld := hNew
                    clear hNew
                    try simp only [Act.put, List.setIfInBounds_toArray, List.set_cons_zero, List.set_cons_succ]
                    refine takeH (i := 19) (v := ?_) rfl rfl (by kernel_rfl) (by kernel_rfl) (by kernel_rfl) (fun _ _ _ h => h) (by rfl) ?_ (by assumption) ?_
                    rotate_left 1
                    · intro w hSw
                      (try dsimp only at hSw)
                      go_simp
                      try with_reducible rfl
                    try simp only [List.setIfInBounds_toArray, List.set_cons_zero, List.set_cons_succ]
                    refine takeH (i := 20) (v := ?_) rfl rfl (by kernel_rfl) (by kernel_rfl) (by kernel_rfl) (fun _ _ _ h => h) (by rfl) ?_ (by assumption) ?_
                    rotate_left 1
                    · intro w hSw
                      (try dsimp only at hSw)
                      go_simp
                      try with_reducible rfl
                    try simp only [List.setIfInBounds_toArray, List.set_cons_zero, List.set_cons_succ]
                    refine takeH (i := 21) (v := ?_) rfl rfl (by kernel_rfl) (by kernel_rfl) (by kernel_rfl) (fun _ _ _ h => h) (by rfl) ?_ (by assumption) ?_
                    rotate_left 1
                    · intro w hSw
                      (try dsimp only at hSw)
                      go_simp
                      try with_reducible rfl
                    try simp only [List.setIfInBounds_toArray, List.set_cons_zero, List.set_cons_succ]
                    refine takeH (i := 22) (v := ?_) rfl rfl (by kernel_rfl) (by kernel_rfl) (by kernel_rfl) (fun _ _ _ h => h) (by rfl) ?_ (by assumption) ?_
                    rotate_left 1
                    · intro w hSw
                      (try dsimp only at hSw)
                      go_simp
                      try with_reducible rfl
                    try simp only [List.setIfInBounds_toArray, List.set_cons_zero, List.set_cons_succ]
                    refine takeH (i := 23) (v := ?_) rfl rfl (by kernel_rfl) (by kernel_rfl) (by kernel_rfl) (fun _ _ _ h => h) (by rfl) ?_ (by assumption) ?_
                    rotate_left 1
                    · intro w hSw
                      (try dsimp only at hSw)
                      go_simp
                      try with_reducible rfl
                    try simp only [List.setIfInBounds_toArray, List.set_cons_zero, List.set_cons_succ]
                    refine takeH (i := 24) (v := ?_) rfl rfl (by kernel_rfl) (by kernel_rfl) (by kernel_rfl) (fun _ _ _ h => h) (by rfl) ?_ (by assumption) ?_
                    rotate_left 1
                    · intro w hSw
                      (try dsimp only at hSw)
                      go_simp
                      try with_reducible rfl
                    try simp only [List.setIfInBounds_toArray, List.set_cons_zero, List.set_cons_succ]
                    refine takeH (i := 25) (v := ?_) rfl rfl (by kernel_rfl) (by kernel_rfl) (by kernel_rfl) (fun _ _ _ h => h) (by rfl) ?_ (by assumption) ?_
                    rotate_left 1
                    · intro w hSw
                      (try dsimp only at hSw)
                      go_simp
                      try with_reducible rfl
                    try simp only [List.setIfInBounds_toArray, List.set_cons_zero, List.set_cons_succ]
                    refine takeH (i := 26) (v := ?_) rfl rfl (by kernel_rfl) (by kernel_rfl) (by kernel_rfl) (fun _ _ _ h => h) (by rfl) ?_ (by assumption) ?_
                    rotate_left 1
                    · intro w hSw
                      (try dsimp only at hSw)
                      go_simp
                      try with_reducible rfl
                    try simp only [List.setIfInBounds_toArray, List.set_cons_zero, List.set_cons_succ]
                    refine wpAnyH_ready (rs := [27]) (by kernel_rfl) (by simp) ?_
                    refine AllReadyH.cons rfl (fun K hK => ?_) (AllReadyH.nil)
                    go_simp
                    refine (rhas_is hh _ (by omega)).mono ?_
                    rintro e W27 ⟨rfl, hb2⟩
                    go_wp2_with fail
                    refine hK.out _ _ ?_ (fun hNew => ?_)
                    · exact ⟨cell_later hb2 hHeld.1, cell_later hb2 hHeld.2.1, cell_later hb2 hHeld.2.2.1, cell_later hb2 hHeld.2.2.2.1, hHeld.2.2.2.2.trans (hb2.mono hHeld.2.2.2.2.size)⟩
                    clear hK K hHeld
                    have hHeld := hNew
                    clear hNew
                    try simp only [Act.put, List.setIfInBounds_toArray, List.set_cons_zero, List.set_cons_succ]
                    refine takeH (i := 28) (v := ?_) rfl rfl (by kernel_rfl) (by kernel_rfl) (by kernel_rfl) (fun _ _ _ h => h) (by rfl) ?_ (by assumption) ?_
                    rotate_left 1
                    · intro w hSw
                      (try dsimp only at hSw)
                      go_simp
                      try with_reducible rfl
                    try simp only [List.setIfInBounds_toArray, List.set_cons_zero, List.set_cons_succ]
                    refine takeH (i := 29) (v := ?_) rfl rfl (by kernel_rfl) (by kernel_rfl) (by kernel_rfl) (fun _ _ _ h => h) (by rfl) ?_ (by assumption) ?_
                    rotate_left 1
                    · intro w hSw
                      (try dsimp only at hSw)
                      go_simp
                      try with_reducible rfl
                    try simp only [List.setIfInBounds_toArray, List.set_cons_zero, List.set_cons_succ]
                    refine takeH (i := 30) (v := ?_) rfl rfl (by kernel_rfl) (by kernel_rfl) (by kernel_rfl) (fun _ _ _ h => h) (by rfl) ?_ (by assumption) ?_
                    rotate_left 1
                    · intro w hSw
                      (try dsimp only at hSw)
                      go_simp
                      try with_reducible rfl
                    try simp only [List.setIfInBounds_toArray, List.set_cons_zero, List.set_cons_succ]
                    refine wpAnyH_done (by kernel_rfl) ?_ _
                    have b := hHeld.2.2.2.2
                    have HB8 := Lib.hid (HB7.out.trans (b.mono HB7.out.size))
                    have Ft_8 := Lib.hid (owns_later Ft_7.out b)
                    have Fe_8 := Lib.hid (Fe_7.out.below b)
                    have Fx_8 := Lib.hid (owns_later Fx_7.out b)
                    have FM_8 := Lib.hid (FM_7.out.trans (b.mono FM_7.out.size))
                    have FL_8 := Lib.hid (FL_7.out.trans (b.mono FL_7.out.size))
                    clear b hHeld
                    go_wp2_with fail
                    go_roundw
                    case rel => exact ⟨j + 1, true, by omega, by go_num, rfl, R.out, FL_8.out⟩
                    case measure => simp [intOf]; omega
          · obtain rfl : j = T.length := by omega
            have hsm : smallB T (f, c, u) k = y := hy.all
            have e1 : tfindM T k = findM T k := find_tab HU.out.1 (by omega) (by omega)
            have e2 : tfindM U k = if hasB f c k = true ∧ y = false then u else findM T k := by rw [find_tab HU.out.2.2.2 (by omega) (by omega), HU.out.2.2.1, find_put HG.out HU.out.2.1, hsm]; rfl
            generalize findM T k = p at *
            have HE1 := Lib.hid e1
            have HE2 := Lib.hid e2
            clear hy hsm e1 e2
            go_wp2_with fail
            refine (tfind_is HE1.out qt pt _ (owns_tabA Ft_7.out) (by omega)).mono ?_
            rintro e w8 ⟨rfl, b⟩
            have HB8 := Lib.hid (HB7.out.trans (b.mono HB7.out.size))
            have Ft_8 := Lib.hid (owns_later Ft_7.out b)
            have Fe_8 := Lib.hid (Fe_7.out.below b)
            have Fx_8 := Lib.hid (owns_later Fx_7.out b)
            have FM_8 := Lib.hid (FM_7.out.trans (b.mono FM_7.out.size))
            have FL_8 := Lib.hid (FL_7.out.trans (b.mono FL_7.out.size))
            clear b
            cases hh : hasB f c k with
            | false =>
              rw [hh] at HE2
              obtain ⟨x0, x1, x2⟩ := Fe_8.out
              go_wp2_with fail
              refine (rhas_is hh _ (by omega)).mono ?_
              rintro e w9 ⟨rfl, b⟩
              have HB9 := Lib.hid (HB8.out.trans (b.mono HB8.out.size))
              have Ft_9 := Lib.hid (owns_later Ft_8.out b)
              have Fe_9 := Lib.hid (Fe_8.out.below b)
              have Fx_9 := Lib.hid (owns_later Fx_8.out b)
              have FM_9 := Lib.hid (FM_8.out.trans (b.mono FM_8.out.size))
              have FL_9 := Lib.hid (FL_8.out.trans (b.mono FL_8.out.size))
              clear b
              clear x0 x1 x2
              cases y with
              | false =>
                have e3 : tfindM U k = p := by rw [HE2.out]; simp
                clear HE2
                obtain ⟨x0, x1, x2⟩ := Fe_9.out
                go_wp2_with fail
                refine (tfind_is e3 qx px _ (owns_tabA Fx_9.out) (by omega)).mono ?_
                rintro e w10 ⟨rfl, b⟩
                have HB10 := Lib.hid (HB9.out.trans (b.mono HB9.out.size))
                have Ft_10 := Lib.hid (owns_later Ft_9.out b)
                have Fe_10 := Lib.hid (Fe_9.out.below b)
                have Fx_10 := Lib.hid (owns_later Fx_9.out b)
                have FM_10 := Lib.hid (FM_9.out.trans (b.mono FM_9.out.size))
                have FL_10 := Lib.hid (FL_9.out.trans (b.mono FL_9.out.size))
                clear b
                clear x0 x1 x2
                go_wp2_with fail
                go_roundw
                case rel => exact ⟨k + 1, by omega, by go_num, FM_10.out⟩
                case measure => simp [intOf]; omega
              | true =>
                have e3 : tfindM U k = p := by rw [HE2.out]; simp
                clear HE2
                obtain ⟨x0, x1, x2⟩ := Fe_9.out
                go_wp2_with fail
                refine (tfind_is e3 qx px _ (owns_tabA Fx_9.out) (by omega)).mono ?_
                rintro e w10 ⟨rfl, b⟩
                have HB10 := Lib.hid (HB9.out.trans (b.mono HB9.out.size))
                have Ft_10 := Lib.hid (owns_later Ft_9.out b)
                have Fe_10 := Lib.hid (Fe_9.out.below b)
                have Fx_10 := Lib.hid (owns_later Fx_9.out b)
                have FM_10 := Lib.hid (FM_9.out.trans (b.mono FM_9.out.size))
                have FL_10 := Lib.hid (FL_9.out.trans (b.mono FL_9.out.size))
                clear b
                clear x0 x1 x2
                go_wp2_with fail
                go_roundw
                case rel => exact ⟨k + 1, by omega, by go_num, FM_10.out⟩
                case measure => simp [intOf]; omega
            | true =>
              rw [hh] at HE2
              obtain ⟨x0, x1, x2⟩ := Fe_8.out
              go_wp2_with fail
              refine (rhas_is hh _ (by omega)).mono ?_
              rintro e w9 ⟨rfl, b⟩
              have HB9 := Lib.hid (HB8.out.trans (b.mono HB8.out.size))
              have Ft_9 := Lib.hid (owns_later Ft_8.out b)
              have Fe_9 := Lib.hid (Fe_8.out.below b)
              have Fx_9 := Lib.hid (owns_later Fx_8.out b)
              have FM_9 := Lib.hid (FM_8.out.trans (b.mono FM_8.out.size))
              have FL_9 := Lib.hid (FL_8.out.trans (b.mono FL_8.out.size))
              clear b
              clear x0 x1 x2
              cases y with
              | false =>
                have e3 : tfindM U k = u := by rw [HE2.out]; simp
                clear HE2
                obtain ⟨x0, x1, x2⟩ := Fe_9.out
                go_wp2_with fail
                refine (tfind_is e3 qx px _ (owns_tabA Fx_9.out) (by omega)).mono ?_
                rintro e w10 ⟨rfl, b⟩
                have HB10 := Lib.hid (HB9.out.trans (b.mono HB9.out.size))
                have Ft_10 := Lib.hid (owns_later Ft_9.out b)
                have Fe_10 := Lib.hid (Fe_9.out.below b)
                have Fx_10 := Lib.hid (owns_later Fx_9.out b)
                have FM_10 := Lib.hid (FM_9.out.trans (b.mono FM_9.out.size))
                have FL_10 := Lib.hid (FL_9.out.trans (b.mono FL_9.out.size))
                clear b
                clear x0 x1 x2
                go_wp2_with fail
                go_roundw
                case rel => exact ⟨k + 1, by omega, by go_num, FM_10.out⟩
                case measure => simp [intOf]; omega
              | true =>
                have e3 : tfindM U k = p := by rw [HE2.out]; simp
                clear HE2
                obtain ⟨x0, x1, x2⟩ := Fe_9.out
                go_wp2_with fail
                refine (tfind_is e3 qx px _ (owns_tabA Fx_9.out) (by omega)).mono ?_
                rintro e w10 ⟨rfl, b⟩
                have HB10 := Lib.hid (HB9.out.trans (b.mono HB9.out.size))
                have Ft_10 := Lib.hid (owns_later Ft_9.out b)
                have Fe_10 := Lib.hid (Fe_9.out.below b)
                have Fx_10 := Lib.hid (owns_later Fx_9.out b)
                have FM_10 := Lib.hid (FM_9.out.trans (b.mono FM_9.out.size))
                have FL_10 := Lib.hid (FL_9.out.trans (b.mono FL_9.out.size))
                clear b
                clear x0 x1 x2
                go_wp2_with fail
                go_roundw
                case rel => exact ⟨k + 1, by omega, by go_num, FM_10.out⟩
                case measure => simp [intOf]; omega
      · obtain rfl : k = 256 := by omega
        go_wp2_with fail
        refine (tok_is HU.out.2.2.2 _ (owns_tabA Fx_6.out) (by omega)).mono ?_
        rintro e w7 ⟨rfl, b⟩
        have HB7 := Lib.hid (HB6.out.trans (b.mono HB6.out.size))
        have Ft_7 := Lib.hid (owns_later Ft_6.out b)
        have Fe_7 := Lib.hid (Fe_6.out.below b)
        have Fx_7 := Lib.hid (owns_later Fx_6.out b)
        have FL_7 := Lib.hid (FL_6.out.trans (b.mono FL_6.out.size))
        clear b
        go_wp2_with fail
        go_ret
        exact ⟨rfl, HB7.out⟩

end Go.Proofs.Ytmbcfdlemapppaa
