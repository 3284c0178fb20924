/-
  Which of two routes is better: the program's answer.
-/
import Derived.Test.YtfjfcdifnfffbaaDoorRtMem
namespace Go.Proofs.YtfjfcdifnfffbaaDoor
open Go.RowKit
set_option linter.unusedSimpArgs false
set_option linter.unusedVariables false

theorem cmpG_at {L M : List Int} {k : Nat} {x y : Int} (hx : L[k]? = some x) (hy : M[k]? = some y) : cmpG (L.drop k) (M.drop k) = if x < y then -1 else if y < x then 1 else cmpG (L.drop (k + 1)) (M.drop (k + 1)) := by
  obtain ⟨h1, e1⟩ := List.getElem?_eq_some_iff.1 hx
  obtain ⟨h2, e2⟩ := List.getElem?_eq_some_iff.1 hy
  rw [List.drop_eq_getElem_cons h1, List.drop_eq_getElem_cons h2, e1, e2]
  rfl
theorem cmpG_past {L M : List Int} {k : Nat} (h1 : k < L.length) (h2 : M.length ≤ k) : cmpG (L.drop k) (M.drop k) = 1 := by
  rw [List.drop_eq_getElem_cons h1, List.drop_eq_nil_of_le h2]; rfl
theorem cmpG_short {L M : List Int} (h : L.length < M.length) : cmpG (L.drop L.length) (M.drop L.length) = -1 := by
  rw [List.drop_length, List.drop_eq_getElem_cons h]; rfl
theorem cmpG_end {L M : List Int} (h : ¬ L.length < M.length) : cmpG (L.drop L.length) (M.drop L.length) = 0 := by
  rw [List.drop_length, List.drop_eq_nil_of_le (by omega)]; rfl

set_option maxHeartbeats 2000000 in
theorem gcompare_is {L M : List Int} {z : Int} (hz : cmpG L M = z) (a b : Option Addr) (cap cap' n m : Nat) (w : World) (hn : n = L.length) (hm : m = M.length) (hL : IntA w a L) (hM : IntA w b M) (hl : L.length ≤ 4000000) (hml : M.length ≤ 4000000) :
    Calls Tryd.prog 70 #[.slice a n cap, .slice b m cap'] w fun e w' => e = .returned (.int .i64 z) ∧ w = w' := by
  subst hn hm
  have HR := Lib.hid hz
  clear hz
  go_enter Tryd.func70, Tryd.ntmps70
  go_wp2_with fail
  go_loopw [11] (fun i wr => ∃ k : Nat, k ≤ L.length ∧ i = .int .i64 k ∧ Hid (cmpG L M = cmpG (L.drop k) (M.drop k)) ∧ w = wr) (fun i _ => L.length - (intOf i).toNat)
  case atStart => exact ⟨0, Nat.zero_le _, rfl, Lib.hid (by simp), rfl⟩
  case round =>
    obtain ⟨k, hk, rfl, hn, rfl⟩ := hrel
    by_cases hlt : k < L.length
    · by_cases hkM : k < M.length
      · obtain ⟨b1, off1, x, rfl, hLk, c0⟩ := hL.at hlt
        obtain ⟨b2, off2, y, rfl, hMk, d0⟩ := hM.at hkM
        have i0 : (0 : Int) ≤ (k : Int) := by omega
        have i1 : (k : Int) < (L.length : Int) := by omega
        have i2 : (k : Int) < (M.length : Int) := by omega
        have i3 : ¬ (M.length : Int) ≤ (k : Int) := by omega
        have HC := Lib.hid (hn.out.trans (cmpG_at hLk hMk))
        clear hn hLk hMk hL hM
        by_cases h1 : x < y
        · have HZ := Lib.hid (show -1 = z by rw [← HR.out, HC.out, if_pos h1])
          have hs : sgn x y = -1 := by simp [sgn, h1]
          clear HC
          go_wp2_with fail
          refine (cmp_is hs _).mono ?_
          rintro e w2 ⟨rfl, rfl⟩
          go_wp2_with fail
          go_ret
          exact ⟨ret_int HZ.out, rfl⟩
        · by_cases h2 : y < x
          · have HZ := Lib.hid (show 1 = z by rw [← HR.out, HC.out, if_neg h1, if_pos h2])
            have hs : sgn x y = 1 := by simp [sgn, h1, h2]
            clear HC
            go_wp2_with fail
            refine (cmp_is hs _).mono ?_
            rintro e w2 ⟨rfl, rfl⟩
            go_wp2_with fail
            go_ret
            exact ⟨ret_int HZ.out, rfl⟩
          · have HZ := Lib.hid (show cmpG L M = cmpG (L.drop (k + 1)) (M.drop (k + 1)) by rw [HC.out, if_neg h1, if_neg h2])
            have hs : sgn x y = 0 := by simp [sgn, h1, h2]
            clear HC
            go_wp2_with fail
            refine (cmp_is hs _).mono ?_
            rintro e w2 ⟨rfl, rfl⟩
            go_wp2_with fail
            go_roundw
            case rel => exact ⟨k + 1, by omega, by go_num, HZ, trivial⟩
            case measure => simp [intOf]; omega
      · obtain ⟨b1, off1, x, rfl, hLk, c0⟩ := hL.at hlt
        have i0 : (0 : Int) ≤ (k : Int) := by omega
        have i1 : (k : Int) < (L.length : Int) := by omega
        have i3 : (M.length : Int) ≤ (k : Int) := by omega
        have HZ := Lib.hid (show 1 = z by rw [← HR.out, hn.out, cmpG_past hlt (by omega)])
        clear hn hLk hL hM
        go_wp2_with fail
        go_ret
        exact ⟨ret_int HZ.out, rfl⟩
    · obtain rfl : k = L.length := by omega
      by_cases hs : L.length < M.length
      · have HZ := Lib.hid (show -1 = z by rw [← HR.out, hn.out, cmpG_short hs])
        have i3 : (L.length : Int) < (M.length : Int) := by omega
        clear hn hL hM
        go_wp2_with fail
        go_ret
        exact ⟨ret_int HZ.out, rfl⟩
      · have HZ := Lib.hid (show 0 = z by rw [← HR.out, hn.out, cmpG_end hs])
        have i3 : ¬ (L.length : Int) < (M.length : Int) := by omega
        clear hn hL hM
        go_wp2_with fail
        go_ret
        exact ⟨ret_int HZ.out, rfl⟩

theorem firstNZ_at {L : List Int} {k : Nat} {x : Int} (h : L[k]? = some x) : firstNZ (L.drop k) = if x ≠ 0 then x else firstNZ (L.drop (k + 1)) := by
  obtain ⟨h1, e1⟩ := List.getElem?_eq_some_iff.1 h
  rw [List.drop_eq_getElem_cons h1, e1]; rfl
set_option maxHeartbeats 1000000 in
theorem or_first {L : List Int} {z : Int} (hz : firstNZ L = z) (a : Option Addr) (cap n : Nat) (w : World) (hn : n = L.length) (hL : IntA w a L) (hl : L.length ≤ 4000000) :
    Calls Tryd.prog 100 #[.slice a n cap] w fun e w' => e = .returned (.int .i64 z) ∧ w = w' := by
  subst hn
  have HR := Lib.hid hz
  clear hz
  go_enter Tryd.func100, Tryd.ntmps100
  go_wp2_with fail
  go_loopw [8] (fun i wr => ∃ k : Nat, k ≤ L.length ∧ i = .int .i64 k ∧ Hid (firstNZ L = firstNZ (L.drop k)) ∧ w = wr) (fun i _ => L.length - (intOf i).toNat)
  case atStart => exact ⟨0, Nat.zero_le _, rfl, Lib.hid (by simp), rfl⟩
  case round =>
    obtain ⟨k, hk, rfl, hn, rfl⟩ := hrel
    by_cases hlt : k < L.length
    · obtain ⟨b1, off1, x, rfl, hLk, c0⟩ := hL.at hlt
      have i0 : (0 : Int) ≤ (k : Int) := by omega
      have i1 : (k : Int) < (L.length : Int) := by omega
      have HC := Lib.hid (hn.out.trans (firstNZ_at hLk))
      clear hn hLk hL
      by_cases h1 : x = 0
      · have h1' : (x != 0) = false := by simp [h1]
        have HZ := Lib.hid (show firstNZ L = firstNZ (L.drop (k + 1)) by rw [HC.out, if_neg (by simp [h1])])
        clear HC h1
        go_wp2_with fail
        go_roundw
        case rel => exact ⟨k + 1, by omega, by go_num, HZ, trivial⟩
        case measure => simp [intOf]; omega
      · have h1' : (x != 0) = true := by simp [h1]
        have HZ := Lib.hid (show x = z by rw [← HR.out, HC.out, if_pos h1])
        clear HC h1
        go_wp2_with fail
        go_ret
        exact ⟨ret_int HZ.out, rfl⟩
    · obtain rfl : k = L.length := by omega
      have HZ := Lib.hid (show 0 = z by rw [← HR.out, hn.out, List.drop_length]; rfl)
      clear hn hL
      go_wp2_with fail
      go_ret
      exact ⟨ret_int HZ.out, rfl⟩
theorem five_intA (W : World) (x0 x1 x2 x3 x4 : Int) : IntA (W.alloc (.cells #[.int .i64 x0, .int .i64 x1, .int .i64 x2, .int .i64 x3, .int .i64 x4] 3)) (some ⟨W.heap.size, 0, none⟩) [x0, x1, x2, x3, x4] := by
  refine .inr ⟨_, _, rfl, fun i x h => ?_⟩
  match i, h with
  | 0, h => simp at h; subst h; simp
  | 1, h => simp at h; subst h; simp
  | 2, h => simp at h; subst h; simp
  | 3, h => simp at h; subst h; simp
  | 4, h => simp at h; subst h; simp
  | i + 5, h => simp at h
theorem rcmp_is4 {f b g c x : Int} (h : cmpOk f b g c = x) (w : World) :
    Calls Tryd.prog 101 #[.agg #[.int .i64 f, .int .i64 b], .agg #[.int .i64 g, .int .i64 c]] w fun e w' => e = .returned (.int .i64 x) ∧ Below w.heap.size w w' := by
  rw [← h]; exact rcmp_any f b g c w

set_option maxRecDepth 100000 in
set_option maxHeartbeats 4000000 in
theorem rcompare_is (f1 b1 : Int) (a1 : Option Addr) (c1 : Nat) (P1 : List Int) (l1 : Int) (d1 : Option Addr) (e1 : Nat) (M1 : List Int) (f2 b2 : Int) (a2 : Option Addr) (c2 : Nat) (P2 : List Int) (l2 : Int) (d2 : Option Addr) (e2 : Nat) (M2 : List Int) {z : Int} (k : rtCmp0 (f1, b1, P1, l1, M1) (f2, b2, P2, l2, M2) = z) (h1 : RtGood (f1, b1, P1, l1, M1)) (h2 : RtGood (f2, b2, P2, l2, M2)) (w : World) (p : Addr) (hm1 : RtM w a1 c1 P1 d1 e1 M1) (hm2 : RtM w a2 c2 P2 d2 e2 M2) (hE : EV w p) :
    Calls Tryd.prog 63 #[.agg #[.int .i64 f1, .int .i64 b1, .slice a1 P1.length c1, .int .i64 l1, .slice d1 M1.length e1], .agg #[.int .i64 f2, .int .i64 b2, .slice a2 P2.length c2, .int .i64 l2, .slice d2 M2.length e2]] w fun e w' => e = .returned (.int .i64 z) ∧ Below w.heap.size w w' := by
  have hor := or_cmp h1 h2
  rw [k] at hor
  clear k
  dsimp only at hor
  generalize hx0 : csgn l2 l1 = x0 at hor
  generalize hx1 : pcmp P1 P2 = x1 at hor
  generalize hx2 : cmpOk f1 b1 f2 b2 = x2 at hor
  generalize hx3 : csgn (M1.length : Int) (M2.length : Int) = x3 at hor
  generalize hx4 : cmpG M1 M2 = x4 at hor
  have hx0' : sgn l2 l1 = x0 := hx0
  have hx3' : sgn (M1.length : Int) (M2.length : Int) = x3 := hx3
  have HOr := Lib.hid hor
  have X0 := Lib.hid hx0'
  have X1 := Lib.hid hx1
  have X2 := Lib.hid hx2
  have X3 := Lib.hid hx3'
  have X4 := Lib.hid hx4
  clear hor hx0 hx1 hx2 hx3 hx4 hx0' hx3'
  have HB := Lib.hid (((Below.refl w.heap.size w).alloc (Nat.le_refl _) (.cells #[.int .i64 f1, .int .i64 b1, .slice a1 P1.length c1, .int .i64 l1, .slice d1 M1.length e1] 27)).alloc (by simp) (.cells #[.int .i64 f2, .int .i64 b2, .slice a2 P2.length c2, .int .i64 l2, .slice d2 M2.length e2] 27))
  have HM1 := Lib.hid ((hm1.alloc (.cells #[.int .i64 f1, .int .i64 b1, .slice a1 P1.length c1, .int .i64 l1, .slice d1 M1.length e1] 27)).alloc (.cells #[.int .i64 f2, .int .i64 b2, .slice a2 P2.length c2, .int .i64 l2, .slice d2 M2.length e2] 27))
  have HM2 := Lib.hid ((hm2.alloc (.cells #[.int .i64 f1, .int .i64 b1, .slice a1 P1.length c1, .int .i64 l1, .slice d1 M1.length e1] 27)).alloc (.cells #[.int .i64 f2, .int .i64 b2, .slice a2 P2.length c2, .int .i64 l2, .slice d2 M2.length e2] 27))
  have HE := Lib.hid ((hE.alloc (.cells #[.int .i64 f1, .int .i64 b1, .slice a1 P1.length c1, .int .i64 l1, .slice d1 M1.length e1] 27)).alloc (.cells #[.int .i64 f2, .int .i64 b2, .slice a2 P2.length c2, .int .i64 l2, .slice d2 M2.length e2] 27))
  have hA1 := (At5.new w (.int .i64 f1) (.int .i64 b1) (.slice a1 P1.length c1) (.int .i64 l1) (.slice d1 M1.length e1) 27).alloc (.cells #[.int .i64 f2, .int .i64 b2, .slice a2 P2.length c2, .int .i64 l2, .slice d2 M2.length e2] 27)
  have hA2 := At5.new (w.alloc (.cells #[.int .i64 f1, .int .i64 b1, .slice a1 P1.length c1, .int .i64 l1, .slice d1 M1.length e1] 27)) (.int .i64 f2) (.int .i64 b2) (.slice a2 P2.length c2) (.int .i64 l2) (.slice d2 M2.length e2) 27
  simp only [World.size_alloc] at hA2
  have HA1 := Lib.hid hA1
  have HA2 := Lib.hid hA2
  have len1 := Lib.hid hm1.2.2.2
  have len2 := Lib.hid hm2.2.2.2
  clear hm1 hm2 hE hA1 hA2 h1 h2
  go_enter Tryd.func63, Tryd.ntmps63
  go_wp2_with fail
  generalize (w.alloc (.cells #[.int .i64 f1, .int .i64 b1, .slice a1 P1.length c1, .int .i64 l1, .slice d1 M1.length e1] 27)).alloc (.cells #[.int .i64 f2, .int .i64 b2, .slice a2 P2.length c2, .int .i64 l2, .slice d2 M2.length e2] 27) = w0 at *
  refine wp_region_held_drew (S := fun W => ((W.cell? ⟨w.heap.size, 0, none⟩ = some (.int .i64 f1) ∧ W.cell? ⟨w.heap.size, 1, none⟩ = some (.int .i64 b1) ∧ W.cell? ⟨w.heap.size, 2, none⟩ = some (.slice a1 P1.length c1) ∧ W.cell? ⟨w.heap.size, 3, none⟩ = some (.int .i64 l1) ∧ W.cell? ⟨w.heap.size, 4, none⟩ = some (.slice d1 M1.length e1)) ∧ (W.cell? ⟨w.heap.size + 1, 0, none⟩ = some (.int .i64 f2) ∧ W.cell? ⟨w.heap.size + 1, 1, none⟩ = some (.int .i64 b2) ∧ W.cell? ⟨w.heap.size + 1, 2, none⟩ = some (.slice a2 P2.length c2) ∧ W.cell? ⟨w.heap.size + 1, 3, none⟩ = some (.int .i64 l2) ∧ W.cell? ⟨w.heap.size + 1, 4, none⟩ = some (.slice d2 M2.length e2))) ∧ Hid (RtM W a1 c1 P1 d1 e1 M1 ∧ RtM W a2 c2 P2 d2 e2 M2 ∧ EV W p ∧ Below w.heap.size w W)) (by kernel_rfl) ?_ (fun hHeld => ?_)
  · exact ⟨⟨HA1.out.drew.1, HA2.out.drew.1⟩, Lib.hid ⟨HM1.out.drew, HM2.out.drew, HE.out, HB.out.drew⟩⟩
  refine takeH (i := 0) (v := ?_) rfl rfl (by kernel_rfl) (by kernel_rfl) (by kernel_rfl) (fun _ _ _ h => h) (by rfl) ?_ (by assumption) ?_
  rotate_left 1
  · intro w hSw
    (try dsimp only at hSw)
    go_simp
    try with_reducible rfl
  try simp only [List.setIfInBounds_toArray, List.set_cons_zero, List.set_cons_succ]
  refine takeH (i := 1) (v := ?_) rfl rfl (by kernel_rfl) (by kernel_rfl) (by kernel_rfl) (fun _ _ _ h => h) (by rfl) ?_ (by assumption) ?_
  rotate_left 1
  · intro w hSw
    (try dsimp only at hSw)
    go_simp
    try with_reducible rfl
  try simp only [List.setIfInBounds_toArray, List.set_cons_zero, List.set_cons_succ]
  refine takeH (i := 2) (v := ?_) rfl rfl (by kernel_rfl) (by kernel_rfl) (by kernel_rfl) (fun _ _ _ h => h) (by rfl) ?_ (by assumption) ?_
  rotate_left 1
  · intro w hSw
    (try dsimp only at hSw)
    go_simp
    try with_reducible rfl
  try simp only [List.setIfInBounds_toArray, List.set_cons_zero, List.set_cons_succ]
  refine takeH (i := 3) (v := ?_) rfl rfl (by kernel_rfl) (by kernel_rfl) (by kernel_rfl) (fun _ _ _ h => h) (by rfl) ?_ (by assumption) ?_
  rotate_left 1
  · intro w hSw
    (try dsimp only at hSw)
    go_simp
    try with_reducible rfl
  try simp only [List.setIfInBounds_toArray, List.set_cons_zero, List.set_cons_succ]
  refine takeH (i := 5) (v := ?_) rfl rfl (by kernel_rfl) (by kernel_rfl) (by kernel_rfl) (fun _ _ _ h => h) (by rfl) ?_ (by assumption) ?_
  rotate_left 1
  · intro w hSw
    (try dsimp only at hSw)
    go_simp
    try with_reducible rfl
  try simp only [List.setIfInBounds_toArray, List.set_cons_zero, List.set_cons_succ]
  refine takeH (i := 6) (v := ?_) rfl rfl (by kernel_rfl) (by kernel_rfl) (by kernel_rfl) (fun _ _ _ h => h) (by rfl) ?_ (by assumption) ?_
  rotate_left 1
  · intro w hSw
    (try dsimp only at hSw)
    go_simp
    try with_reducible rfl
  try simp only [List.setIfInBounds_toArray, List.set_cons_zero, List.set_cons_succ]
  refine takeH (i := 7) (v := ?_) rfl rfl (by kernel_rfl) (by kernel_rfl) (by kernel_rfl) (fun _ _ _ h => h) (by rfl) ?_ (by assumption) ?_
  rotate_left 1
  · intro w hSw
    (try dsimp only at hSw)
    go_simp
    try with_reducible rfl
  try simp only [List.setIfInBounds_toArray, List.set_cons_zero, List.set_cons_succ]
  refine takeH (i := 8) (v := ?_) rfl rfl (by kernel_rfl) (by kernel_rfl) (by kernel_rfl) (fun _ _ _ h => h) (by rfl) ?_ (by assumption) ?_
  rotate_left 1
  · intro w hSw
    (try dsimp only at hSw)
    go_simp
    try with_reducible rfl
  try simp only [List.setIfInBounds_toArray, List.set_cons_zero, List.set_cons_succ]
  refine takeH (i := 10) (v := ?_) rfl rfl (by kernel_rfl) (by kernel_rfl) (by kernel_rfl) (fun _ _ _ h => h) (by rfl) ?_ (by assumption) ?_
  rotate_left 1
  · intro w hSw
    (try dsimp only at hSw)
    go_simp
    try with_reducible rfl
  try simp only [List.setIfInBounds_toArray, List.set_cons_zero, List.set_cons_succ]
  refine takeH (i := 11) (v := ?_) rfl rfl (by kernel_rfl) (by kernel_rfl) (by kernel_rfl) (fun _ _ _ h => h) (by rfl) ?_ (by assumption) ?_
  rotate_left 1
  · intro w hSw
    (try dsimp only at hSw)
    go_simp
    try with_reducible rfl
  try simp only [List.setIfInBounds_toArray, List.set_cons_zero, List.set_cons_succ]
  refine takeH (i := 12) (v := ?_) rfl rfl (by kernel_rfl) (by kernel_rfl) (by kernel_rfl) (fun _ _ _ h => h) (by rfl) ?_ (by assumption) ?_
  rotate_left 1
  · intro w hSw
    (try dsimp only at hSw)
    go_simp
    try with_reducible rfl
  try simp only [List.setIfInBounds_toArray, List.set_cons_zero, List.set_cons_succ]
  refine takeH (i := 13) (v := ?_) rfl rfl (by kernel_rfl) (by kernel_rfl) (by kernel_rfl) (fun _ _ _ h => h) (by rfl) ?_ (by assumption) ?_
  rotate_left 1
  · intro w hSw
    (try dsimp only at hSw)
    go_simp
    try with_reducible rfl
  try simp only [List.setIfInBounds_toArray, List.set_cons_zero, List.set_cons_succ]
  refine takeH (i := 15) (v := ?_) rfl rfl (by kernel_rfl) (by kernel_rfl) (by kernel_rfl) (fun _ _ _ h => h) (by rfl) ?_ (by assumption) ?_
  rotate_left 1
  · intro w hSw
    (try dsimp only at hSw)
    go_simp
    try with_reducible rfl
  try simp only [List.setIfInBounds_toArray, List.set_cons_zero, List.set_cons_succ]
  refine takeH (i := 16) (v := ?_) rfl rfl (by kernel_rfl) (by kernel_rfl) (by kernel_rfl) (fun _ _ _ h => h) (by rfl) ?_ (by assumption) ?_
  rotate_left 1
  · intro w hSw
    (try dsimp only at hSw)
    go_simp
    try with_reducible rfl
  try simp only [List.setIfInBounds_toArray, List.set_cons_zero, List.set_cons_succ]
  refine takeH (i := 17) (v := ?_) rfl rfl (by kernel_rfl) (by kernel_rfl) (by kernel_rfl) (fun _ _ _ h => h) (by rfl) ?_ (by assumption) ?_
  rotate_left 1
  · intro w hSw
    (try dsimp only at hSw)
    go_simp
    try with_reducible rfl
  try simp only [List.setIfInBounds_toArray, List.set_cons_zero, List.set_cons_succ]
  refine takeH (i := 18) (v := ?_) rfl rfl (by kernel_rfl) (by kernel_rfl) (by kernel_rfl) (fun _ _ _ h => h) (by rfl) ?_ (by assumption) ?_
  rotate_left 1
  · intro w hSw
    (try dsimp only at hSw)
    go_simp
    try with_reducible rfl
  try simp only [List.setIfInBounds_toArray, List.set_cons_zero, List.set_cons_succ]
  refine takeH (i := 19) (v := ?_) rfl rfl (by kernel_rfl) (by kernel_rfl) (by kernel_rfl) (fun _ _ _ h => h) (by rfl) ?_ (by assumption) ?_
  rotate_left 1
  · intro w hSw
    (try dsimp only at hSw)
    go_simp
    try with_reducible rfl
  try simp only [List.setIfInBounds_toArray, List.set_cons_zero, List.set_cons_succ]
  refine takeH (i := 20) (v := ?_) rfl rfl (by kernel_rfl) (by kernel_rfl) (by kernel_rfl) (fun _ _ _ h => h) (by rfl) ?_ (by assumption) ?_
  rotate_left 1
  · intro w hSw
    (try dsimp only at hSw)
    go_simp
    try with_reducible rfl
  try simp only [List.setIfInBounds_toArray, List.set_cons_zero, List.set_cons_succ]
  refine takeH (i := 22) (v := ?_) rfl rfl (by kernel_rfl) (by kernel_rfl) (by kernel_rfl) (fun _ _ _ h => h) (by rfl) ?_ (by assumption) ?_
  rotate_left 1
  · intro w hSw
    (try dsimp only at hSw)
    go_simp
    try with_reducible rfl
  try simp only [List.setIfInBounds_toArray, List.set_cons_zero, List.set_cons_succ]
  refine takeH (i := 23) (v := ?_) rfl rfl (by kernel_rfl) (by kernel_rfl) (by kernel_rfl) (fun _ _ _ h => h) (by rfl) ?_ (by assumption) ?_
  rotate_left 1
  · intro w hSw
    (try dsimp only at hSw)
    go_simp
    try with_reducible rfl
  try simp only [List.setIfInBounds_toArray, List.set_cons_zero, List.set_cons_succ]
  refine takeH (i := 24) (v := ?_) rfl rfl (by kernel_rfl) (by kernel_rfl) (by kernel_rfl) (fun _ _ _ h => h) (by rfl) ?_ (by assumption) ?_
  rotate_left 1
  · intro w hSw
    (try dsimp only at hSw)
    go_simp
    try with_reducible rfl
  try simp only [List.setIfInBounds_toArray, List.set_cons_zero, List.set_cons_succ]
  refine takeH (i := 25) (v := ?_) rfl rfl (by kernel_rfl) (by kernel_rfl) (by kernel_rfl) (fun _ _ _ h => h) (by rfl) ?_ (by assumption) ?_
  rotate_left 1
  · intro w hSw
    (try dsimp only at hSw)
    go_simp
    try with_reducible rfl
  try simp only [List.setIfInBounds_toArray, List.set_cons_zero, List.set_cons_succ]
  refine wpAnyH_ready (rs := [4]) (by kernel_rfl) (by simp) ?_
  refine AllReadyH.cons rfl (fun K hK => ?_) (AllReadyH.nil)
  go_simp
  refine (cmp_is X0.out _).mono ?_
  rintro e wc ⟨rfl, rfl⟩
  go_wp2_with fail
  refine hK.out _ _ ?_ (fun hNew => ?_)
  · exact hHeld
  clear hK K hHeld
  have hHeld := hNew
  clear hNew
  try simp only [Act.put, List.setIfInBounds_toArray, List.set_cons_zero, List.set_cons_succ]
  refine wpAnyH_ready (rs := [9]) (by kernel_rfl) (by simp) ?_
  refine AllReadyH.cons rfl (fun K hK => ?_) (AllReadyH.nil)
  go_simp
  refine (icmp_is X1.out a1 a2 c1 c2 _ _ _ p rfl rfl hHeld.2.out.1.1.1 hHeld.2.out.2.1.1.1 (by have := len1.out; omega) (by have := len2.out; omega) hHeld.2.out.2.2.1).mono ?_
  rintro e wc ⟨rfl, bc⟩
  go_wp2_with fail
  refine hK.out _ _ ?_ (fun hNew => ?_)
  · exact ⟨⟨⟨cell_later bc hHeld.1.1.1, cell_later bc hHeld.1.1.2.1, cell_later bc hHeld.1.1.2.2.1, cell_later bc hHeld.1.1.2.2.2.1, cell_later bc hHeld.1.1.2.2.2.2⟩, cell_later bc hHeld.1.2.1, cell_later bc hHeld.1.2.2.1, cell_later bc hHeld.1.2.2.2.1, cell_later bc hHeld.1.2.2.2.2.1, cell_later bc hHeld.1.2.2.2.2.2⟩, Lib.hid ⟨hHeld.2.out.1.below bc, hHeld.2.out.2.1.below bc, hHeld.2.out.2.2.1.below bc, next hHeld.2.out.2.2.2 bc⟩⟩
  clear hK K hHeld
  have hHeld := hNew
  clear hNew
  try simp only [Act.put, List.setIfInBounds_toArray, List.set_cons_zero, List.set_cons_succ]
  refine wpAnyH_ready (rs := [14]) (by kernel_rfl) (by simp) ?_
  refine AllReadyH.cons rfl (fun K hK => ?_) (AllReadyH.nil)
  go_simp
  refine (rcmp_is4 X2.out _).mono ?_
  rintro e wd ⟨rfl, bc⟩
  go_wp2_with fail
  refine hK.out _ _ ?_ (fun hNew => ?_)
  · exact ⟨⟨⟨cell_later bc hHeld.1.1.1, cell_later bc hHeld.1.1.2.1, cell_later bc hHeld.1.1.2.2.1, cell_later bc hHeld.1.1.2.2.2.1, cell_later bc hHeld.1.1.2.2.2.2⟩, cell_later bc hHeld.1.2.1, cell_later bc hHeld.1.2.2.1, cell_later bc hHeld.1.2.2.2.1, cell_later bc hHeld.1.2.2.2.2.1, cell_later bc hHeld.1.2.2.2.2.2⟩, Lib.hid ⟨hHeld.2.out.1.below bc, hHeld.2.out.2.1.below bc, hHeld.2.out.2.2.1.below bc, next hHeld.2.out.2.2.2 bc⟩⟩
  clear hK K hHeld
  have hHeld := hNew
  clear hNew
  try simp only [Act.put, List.setIfInBounds_toArray, List.set_cons_zero, List.set_cons_succ]
  refine wpAnyH_ready (rs := [21]) (by kernel_rfl) (by simp) ?_
  refine AllReadyH.cons rfl (fun K hK => ?_) (AllReadyH.nil)
  go_simp
  refine (cmp_is X3.out _).mono ?_
  rintro e we ⟨rfl, rfl⟩
  go_wp2_with fail
  refine hK.out _ _ ?_ (fun hNew => ?_)
  · exact hHeld
  clear hK K hHeld
  have hHeld := hNew
  clear hNew
  try simp only [Act.put, List.setIfInBounds_toArray, List.set_cons_zero, List.set_cons_succ]
  refine wpAnyH_ready (rs := [26]) (by kernel_rfl) (by simp) ?_
  refine AllReadyH.cons rfl (fun K hK => ?_) (AllReadyH.nil)
  go_simp
  refine (gcompare_is X4.out d1 d2 e1 e2 _ _ _ rfl rfl hHeld.2.out.1.1.2 hHeld.2.out.2.1.1.2 (by have := len1.out; omega) (by have := len2.out; omega)).mono ?_
  rintro e wf ⟨rfl, rfl⟩
  go_wp2_with fail
  refine hK.out _ _ ?_ (fun hNew => ?_)
  · exact hHeld
  clear hK K hHeld
  have hHeld := hNew
  clear hNew
  try simp only [Act.put, List.setIfInBounds_toArray, List.set_cons_zero, List.set_cons_succ]
  refine wpAnyH_ready (rs := [27]) (by kernel_rfl) (by simp) ?_
  refine AllReadyH.cons rfl (fun K hK => ?_) (AllReadyH.nil)
  go_simp
  refine hK.out _ _ ?_ (fun hNew => ?_)
  · exact ⟨⟨⟨cellA hHeld.1.1.1 _, cellA hHeld.1.1.2.1 _, cellA hHeld.1.1.2.2.1 _, cellA hHeld.1.1.2.2.2.1 _, cellA hHeld.1.1.2.2.2.2 _⟩, cellA hHeld.1.2.1 _, cellA hHeld.1.2.2.1 _, cellA hHeld.1.2.2.2.1 _, cellA hHeld.1.2.2.2.2.1 _, cellA hHeld.1.2.2.2.2.2 _⟩, Lib.hid ⟨hHeld.2.out.1.alloc _, hHeld.2.out.2.1.alloc _, hHeld.2.out.2.2.1.alloc _, hHeld.2.out.2.2.2.alloc hHeld.2.out.2.2.2.size _⟩⟩
  clear hK K hHeld
  have hHeld := hNew
  clear hNew
  try simp only [Act.put, List.setIfInBounds_toArray, List.set_cons_zero, List.set_cons_succ]
  refine wpAnyH_ready (rs := [28]) (by kernel_rfl) (by simp) ?_
  refine AllReadyH.cons rfl (fun K hK => ?_) (AllReadyH.nil)
  go_simp
  refine (or_first HOr.out _ _ _ _ rfl (five_intA _ x0 x1 x2 x3 x4) (by simp)).mono ?_
  rintro e wg ⟨rfl, rfl⟩
  go_wp2_with fail
  refine hK.out _ _ ?_ (fun hNew => ?_)
  · exact hHeld
  clear hK K hHeld
  have hHeld := hNew
  clear hNew
  try simp only [Act.put, List.setIfInBounds_toArray, List.set_cons_zero, List.set_cons_succ]
  refine takeH (i := 29) (v := ?_) rfl rfl (by kernel_rfl) (by kernel_rfl) (by kernel_rfl) (fun _ _ _ h => h) (by rfl) ?_ (by assumption) ?_
  rotate_left 1
  · intro w hSw
    (try dsimp only at hSw)
    go_simp
    try with_reducible rfl
  try simp only [List.setIfInBounds_toArray, List.set_cons_zero, List.set_cons_succ]
  refine wpAnyH_done (by kernel_rfl) ?_ _
  have HZ := Lib.hid hHeld.2.out.2.2.2
  clear hHeld
  go_wp2_with fail
  go_ret
  exact ⟨rfl, HZ.out⟩

set_option maxHeartbeats 1000000 in
theorem ircmp_is (f1 b1 : Int) (a1 : Option Addr) (c1 : Nat) (P1 : List Int) (l1 : Int) (d1 : Option Addr) (e1 : Nat) (M1 : List Int) (f2 b2 : Int) (a2 : Option Addr) (c2 : Nat) (P2 : List Int) (l2 : Int) (d2 : Option Addr) (e2 : Nat) (M2 : List Int) {z : Int} (k : rtCmp (f1, b1, P1, l1, M1) (f2, b2, P2, l2, M2) = z) (w : World) (p : Addr) (hm1 : RtM w a1 c1 P1 d1 e1 M1) (hm2 : RtM w a2 c2 P2 d2 e2 M2) (hE : EV w p) :
    Calls Tryd.prog 30 #[.agg #[.int .i64 f1, .int .i64 b1, .slice a1 P1.length c1, .int .i64 l1, .slice d1 M1.length e1], .agg #[.int .i64 f2, .int .i64 b2, .slice a2 P2.length c2, .int .i64 l2, .slice d2 M2.length e2]] w fun e w' => e = .returned (.int .i64 z) ∧ Below w.heap.size w w' := by
  have KX := Lib.hid k
  have HB := Lib.hid (((Below.refl w.heap.size w).alloc (Nat.le_refl _) (.cells #[.int .i64 f1, .int .i64 b1, .slice a1 P1.length c1, .int .i64 l1, .slice d1 M1.length e1] 27)).alloc (by simp) (.cells #[.int .i64 f2, .int .i64 b2, .slice a2 P2.length c2, .int .i64 l2, .slice d2 M2.length e2] 27))
  have HM1 := Lib.hid ((hm1.alloc (.cells #[.int .i64 f1, .int .i64 b1, .slice a1 P1.length c1, .int .i64 l1, .slice d1 M1.length e1] 27)).alloc (.cells #[.int .i64 f2, .int .i64 b2, .slice a2 P2.length c2, .int .i64 l2, .slice d2 M2.length e2] 27))
  have HM2 := Lib.hid ((hm2.alloc (.cells #[.int .i64 f1, .int .i64 b1, .slice a1 P1.length c1, .int .i64 l1, .slice d1 M1.length e1] 27)).alloc (.cells #[.int .i64 f2, .int .i64 b2, .slice a2 P2.length c2, .int .i64 l2, .slice d2 M2.length e2] 27))
  have HE := Lib.hid ((hE.alloc (.cells #[.int .i64 f1, .int .i64 b1, .slice a1 P1.length c1, .int .i64 l1, .slice d1 M1.length e1] 27)).alloc (.cells #[.int .i64 f2, .int .i64 b2, .slice a2 P2.length c2, .int .i64 l2, .slice d2 M2.length e2] 27))
  have hA1 := (At5.new w (.int .i64 f1) (.int .i64 b1) (.slice a1 P1.length c1) (.int .i64 l1) (.slice d1 M1.length e1) 27).alloc (.cells #[.int .i64 f2, .int .i64 b2, .slice a2 P2.length c2, .int .i64 l2, .slice d2 M2.length e2] 27)
  have hA2 := At5.new (w.alloc (.cells #[.int .i64 f1, .int .i64 b1, .slice a1 P1.length c1, .int .i64 l1, .slice d1 M1.length e1] 27)) (.int .i64 f2) (.int .i64 b2) (.slice a2 P2.length c2) (.int .i64 l2) (.slice d2 M2.length e2) 27
  simp only [World.size_alloc] at hA2
  have HA1 := Lib.hid hA1
  have HA2 := Lib.hid hA2
  clear hm1 hm2 hE hA1 hA2 k
  go_enter Tryd.func30, Tryd.ntmps30
  go_wp2_with fail
  cases ho : rtOk (f1, b1, P1, l1, M1) with
  | false =>
    have HX := Lib.hid (show 0 = z by rw [← KX.out, rtCmp_no1 ho])
    refine (riok_is f1 b1 a1 c1 P1 l1 d1 e1 M1 ho _ p HM1.out HE.out).mono ?_
    rintro e w1 ⟨rfl, b1⟩
    have R := Lib.hid (next HB.out b1)
    clear b1
    go_wp2_with fail
    go_ret
    exact ⟨ret_int HX.out, R.out⟩
  | true =>
    refine (riok_is f1 b1 a1 c1 P1 l1 d1 e1 M1 ho _ p HM1.out HE.out).mono ?_
    rintro e w1 ⟨rfl, bc⟩
    have R1 := Lib.hid (And.intro (next HB.out bc) (And.intro (HM1.out.below bc) (And.intro (HM2.out.below bc) (And.intro (HE.out.below bc) (And.intro (HA1.out.below bc) (HA2.out.below bc))))))
    clear bc HB HM1 HM2 HE HA1 HA2
    obtain ⟨⟨q0, q1, q2, q3, q4⟩, _⟩ := R1.out.2.2.2.2.2
    go_wp2_with fail
    clear q0 q1 q2 q3 q4
    cases hq : rtOk (f2, b2, P2, l2, M2) with
    | false =>
      have HX := Lib.hid (show 0 = z by rw [← KX.out, rtCmp_no2 hq])
      refine (riok_is f2 b2 a2 c2 P2 l2 d2 e2 M2 hq _ p R1.out.2.2.1 R1.out.2.2.2.1).mono ?_
      rintro e w2 ⟨rfl, b1⟩
      have R := Lib.hid (next R1.out.1 b1)
      clear b1
      go_wp2_with fail
      go_ret
      exact ⟨ret_int HX.out, R.out⟩
    | true =>
      have HX := Lib.hid (show rtCmp0 (f1, b1, P1, l1, M1) (f2, b2, P2, l2, M2) = z by rw [← KX.out, rtCmp_yes ho hq])
      refine (riok_is f2 b2 a2 c2 P2 l2 d2 e2 M2 hq _ p R1.out.2.2.1 R1.out.2.2.2.1).mono ?_
      rintro e w2 ⟨rfl, bc⟩
      have R2 := Lib.hid (And.intro (next R1.out.1 bc) (And.intro (R1.out.2.1.below bc) (And.intro (R1.out.2.2.1.below bc) (And.intro (R1.out.2.2.2.1.below bc) (And.intro (R1.out.2.2.2.2.1.below bc) (R1.out.2.2.2.2.2.below bc))))))
      clear bc R1
      obtain ⟨⟨q0, q1, q2, q3, q4⟩, _⟩ := R2.out.2.2.2.2.1
      obtain ⟨⟨s0, s1, s2, s3, s4⟩, _⟩ := R2.out.2.2.2.2.2
      go_wp2_with fail
      clear q0 q1 q2 q3 q4 s0 s1 s2 s3 s4
      refine (rcompare_is f1 b1 a1 c1 P1 l1 d1 e1 M1 f2 b2 a2 c2 P2 l2 d2 e2 M2 HX.out ((rtOk_iff _).1 ho) ((rtOk_iff _).1 hq) _ p R2.out.2.1 R2.out.2.2.1 R2.out.2.2.2.1).mono ?_
      rintro e w3 ⟨rfl, b3⟩
      have R := Lib.hid (next R2.out.1 b3)
      clear b3
      go_wp2_with fail
      go_ret
      exact ⟨rfl, R.out⟩
end Go.Proofs.YtfjfcdifnfffbaaDoor
