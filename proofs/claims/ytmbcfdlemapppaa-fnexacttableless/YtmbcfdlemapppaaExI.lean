/-
  What the helpers of the exact laws do: comparisons, marks.
-/
import Derived.Test.YtmbcfdlemapppaaExH
namespace Go.Proofs.Ytmbcfdlemapppaa
open Go.RowKit
set_option linter.unusedSimpArgs false

set_option maxHeartbeats 400000 in
theorem eqR_same (f b : Int) (w : World) :
    Calls Try.prog 78 #[.agg #[.int .i64 f, .int .i64 b], .agg #[.int .i64 f, .int .i64 b]] w fun e w' => e = .returned (.bool true) ∧ Below w.heap.size w w' := by
  go_enter Try.func78, Try.ntmps78
  go_wp2
  go_ret
  exact ⟨rfl, alloc2 _ _ _⟩

set_option maxHeartbeats 400000 in
/-- an entry is the same as itself -/
theorem eqE_same (f b v : Int) (w : World) :
    Calls Try.prog 57 #[.agg #[.int .i64 f, .int .i64 b, .int .i64 v], .agg #[.int .i64 f, .int .i64 b, .int .i64 v]] w fun e w' => e = .returned (.bool true) ∧ Below w.heap.size w w' := by
  have hX := (At3.new w f b v 37).alloc (.cells #[.int .i64 f, .int .i64 b, .int .i64 v] 37)
  have hY := At3.new (w.alloc (.cells #[.int .i64 f, .int .i64 b, .int .i64 v] 37)) f b v 37
  have hB := alloc2 w (.cells #[.int .i64 f, .int .i64 b, .int .i64 v] 37) (.cells #[.int .i64 f, .int .i64 b, .int .i64 v] 37)
  simp only [World.size_alloc] at hY
  have HH := Lib.hid (And.intro hX (And.intro hY hB))
  clear hX hY hB
  go_enter Try.func57, Try.ntmps57
  go_wp2_with fail
  generalize (w.alloc (.cells #[.int .i64 f, .int .i64 b, .int .i64 v] 37)).alloc (.cells #[.int .i64 f, .int .i64 b, .int .i64 v] 37) = w0 at *
  refine (eqR_same f b _).mono ?_
  rintro e w1 ⟨rfl, hb1⟩
  obtain ⟨x0, x1, x2⟩ := HH.out.1.below hb1
  obtain ⟨y0, y1, y2⟩ := HH.out.2.1.below hb1
  have HB := Lib.hid (next HH.out.2.2 hb1)
  clear hb1 HH
  go_wp2_with fail
  go_ret
  exact ⟨rfl, HB.out⟩

set_option maxRecDepth 100000 in
set_option maxHeartbeats 2000000 in
/-- a slice is the same as another one of the same entries -/
theorem eqS_same (a a' : Option Addr) (cap cap' : Nat) (T : List E) (w : World) (hA : TabA w a T) (hB : TabA w a' T) (hl : T.length ≤ 2000000) :
    Calls Try.prog 25 #[.slice a T.length cap, .slice a' T.length cap'] w fun e w' => e = .returned (.bool true) ∧ Below w.heap.size w w' := by
  have HA := Lib.hid (And.intro hA hB)
  clear hA hB
  go_enter Try.func25, Try.ntmps25
  go_wp2_with fail
  go_loopw [5] (fun i wr => ∃ k : Nat, k ≤ T.length ∧ i = .int .i64 k ∧ Below w.heap.size w wr) (fun i _ => T.length - (intOf i).toNat)
  case atStart => exact ⟨0, Nat.zero_le _, rfl, Below.refl _ _⟩
  case round =>
    obtain ⟨k, hk, rfl, hb⟩ := hrel
    by_cases hlt : k < T.length
    · obtain ⟨b, off, f, c, v, rfl, hTk, c0, c1, c2⟩ := (HA.out.1.below hb).at hlt
      obtain ⟨b', off', f', c', v', rfl, hTk', d0, d1, d2⟩ := (HA.out.2.below hb).at hlt
      obtain ⟨rfl, rfl, rfl⟩ : f = f' ∧ c = c' ∧ v = v' := by rw [hTk] at hTk'; simpa using hTk'
      have HC := Lib.hid (And.intro c0 (And.intro c1 (And.intro c2 (And.intro d0 (And.intro d1 (And.intro d2 hb))))))
      have j0 : (0 : Int) ≤ (k : Int) := by omega
      have j1 : (k : Int) < (T.length : Int) := by omega
      clear c0 c1 c2 d0 d1 d2 hTk hTk' hb
      go_wp2_with fail
      refine wp_region_held_drew (S := fun W => W.cell? ⟨b, off + k * 3, none⟩ = some (.int .i64 f) ∧ W.cell? ⟨b, off + k * 3 + 1, none⟩ = some (.int .i64 c) ∧ W.cell? ⟨b, off + k * 3 + 2, none⟩ = some (.int .i64 v) ∧ W.cell? ⟨b', off' + k * 3, none⟩ = some (.int .i64 f) ∧ W.cell? ⟨b', off' + k * 3 + 1, none⟩ = some (.int .i64 c) ∧ W.cell? ⟨b', off' + k * 3 + 2, none⟩ = some (.int .i64 v) ∧ Below w.heap.size w W) (by kernel_rfl) ?_ (fun hHeld => ?_)
      · exact ⟨HC.out.1, HC.out.2.1, HC.out.2.2.1, HC.out.2.2.2.1, HC.out.2.2.2.2.1, HC.out.2.2.2.2.2.1, HC.out.2.2.2.2.2.2.drew⟩
      refine takeH (i := 0) (v := ?_) rfl rfl (by kernel_rfl) (by kernel_rfl) (by kernel_rfl) (fun _ _ _ h => h) (by rfl) ?_ (by assumption) ?_
      rotate_left 1
      · intro w hSw
        (try dsimp only at hSw)
        go_simp
        try with_reducible rfl
      try simp only [List.setIfInBounds_toArray, List.set_cons_zero, List.set_cons_succ]
      refine takeH (i := 1) (v := ?_) rfl rfl (by kernel_rfl) (by kernel_rfl) (by kernel_rfl) (fun _ _ _ h => h) (by rfl) ?_ (by assumption) ?_
      rotate_left 1
      · intro w hSw
        (try dsimp only at hSw)
        go_simp
        try with_reducible rfl
      try simp only [List.setIfInBounds_toArray, List.set_cons_zero, List.set_cons_succ]
      refine takeH (i := 2) (v := ?_) rfl rfl (by kernel_rfl) (by kernel_rfl) (by kernel_rfl) (fun _ _ _ h => h) (by rfl) ?_ (by assumption) ?_
      rotate_left 1
      · intro w hSw
        (try dsimp only at hSw)
        go_simp
        try with_reducible rfl
      try simp only [List.setIfInBounds_toArray, List.set_cons_zero, List.set_cons_succ]
      refine takeH (i := 3) (v := ?_) rfl rfl (by kernel_rfl) (by kernel_rfl) (by kernel_rfl) (fun _ _ _ h => h) (by rfl) ?_ (by assumption) ?_
      rotate_left 1
      · intro w hSw
        (try dsimp only at hSw)
        go_simp
        try with_reducible rfl
      try simp only [List.setIfInBounds_toArray, List.set_cons_zero, List.set_cons_succ]
      refine takeH (i := 4) (v := ?_) rfl rfl (by kernel_rfl) (by kernel_rfl) (by kernel_rfl) (fun _ _ _ h => h) (by rfl) ?_ (by assumption) ?_
      rotate_left 1
      · intro w hSw
        (try dsimp only at hSw)
        go_simp
        try with_reducible rfl
      try simp only [List.setIfInBounds_toArray, List.set_cons_zero, List.set_cons_succ]
      refine takeH (i := 5) (v := ?_) rfl rfl (by kernel_rfl) (by kernel_rfl) (by kernel_rfl) (fun _ _ _ h => h) (by rfl) ?_ (by assumption) ?_
      rotate_left 1
      · intro w hSw
        (try dsimp only at hSw)
        go_simp
        try with_reducible rfl
      try simp only [List.setIfInBounds_toArray, List.set_cons_zero, List.set_cons_succ]
      refine takeH (i := 6) (v := ?_) rfl rfl (by kernel_rfl) (by kernel_rfl) (by kernel_rfl) (fun _ _ _ h => h) (by rfl) ?_ (by assumption) ?_
      rotate_left 1
      · intro w hSw
        (try dsimp only at hSw)
        go_simp
        try with_reducible rfl
      try simp only [List.setIfInBounds_toArray, List.set_cons_zero, List.set_cons_succ]
      refine takeH (i := 7) (v := ?_) rfl rfl (by kernel_rfl) (by kernel_rfl) (by kernel_rfl) (fun _ _ _ h => h) (by rfl) ?_ (by assumption) ?_
      rotate_left 1
      · intro w hSw
        (try dsimp only at hSw)
        go_simp
        try with_reducible rfl
      try simp only [List.setIfInBounds_toArray, List.set_cons_zero, List.set_cons_succ]
      refine wpAnyH_ready (rs := [8]) (by kernel_rfl) (by simp) ?_
      refine AllReadyH.cons rfl (fun K hK => ?_) (AllReadyH.nil)
      go_simp
      refine (eqE_same f c v _).mono ?_
      rintro e w2 ⟨rfl, hb2⟩
      go_wp2_with fail
      refine hK.out _ _ ?_ (fun hNew => ?_)
      · exact ⟨cell_later hb2 hHeld.1, cell_later hb2 hHeld.2.1, cell_later hb2 hHeld.2.2.1, cell_later hb2 hHeld.2.2.2.1, cell_later hb2 hHeld.2.2.2.2.1, cell_later hb2 hHeld.2.2.2.2.2.1, hHeld.2.2.2.2.2.2.trans (hb2.mono hHeld.2.2.2.2.2.2.size)⟩
      clear hK K hHeld
      have hHeld := hNew
      clear hNew
      try simp only [Act.put, List.setIfInBounds_toArray, List.set_cons_zero, List.set_cons_succ]
      refine takeH (i := 9) (v := ?_) rfl rfl (by kernel_rfl) (by kernel_rfl) (by kernel_rfl) (fun _ _ _ h => h) (by rfl) ?_ (by assumption) ?_
      rotate_left 1
      · intro w hSw
        (try dsimp only at hSw)
        go_simp
        try with_reducible rfl
      try simp only [List.setIfInBounds_toArray, List.set_cons_zero, List.set_cons_succ]
      refine wpAnyH_done (by kernel_rfl) ?_ _
      have HH := Lib.hid hHeld
      clear hHeld HC
      go_wp2_with fail
      go_roundw
      case rel => exact ⟨k + 1, by omega, by go_num, HH.out.2.2.2.2.2.2⟩
      case measure => simp [intOf]; omega
    · obtain rfl : k = T.length := by omega
      have HB := Lib.hid hb
      clear hb
      go_wp2_with fail
      go_ret
      exact ⟨rfl, HB.out⟩

/-- marked entries -/
def markL (n : Nat) : List E := (List.range n).map fun (i : Nat) => ((i : Int) * 3 + 1, (i : Int) * 3 + 1 + 1, (i : Int) * 3 + 1 + 1 + 1)
theorem markL_len (n : Nat) : (markL n).length = n := by simp [markL]
theorem markL_at {n k : Nat} (h : k < n) : (markL n)[k]? = some ((k : Int) * 3 + 1, (k : Int) * 3 + 1 + 1, (k : Int) * 3 + 1 + 1 + 1) := by
  simp [markL, h]
theorem markL_all {n : Nat} {M : List E} (hM : M.length = n) (h : ∀ j, j < n → M[j]? = (markL n)[j]?) : M = markL n := List.ext_getElem? fun j => by
  by_cases e : j < n
  · exact h j e
  · rw [List.getElem?_eq_none (by omega), List.getElem?_eq_none (by rw [markL_len]; omega)]

set_option maxRecDepth 100000 in
set_option maxHeartbeats 2000000 in
theorem mark_own (g cap : Nat) (L : List E) (R : Nat) (w : World) (ho : Owns w R (.slice (some ⟨g, 0, none⟩) L.length cap) L) (hl : L.length ≤ 2000000) :
    Calls Try.prog 29 #[.slice (some ⟨g, 0, none⟩) L.length cap, .int .i64 1] w fun e w' => e = .returned (.int .i64 ((L.length : Int) * 3 + 1)) ∧ Owns w' R (.slice (some ⟨g, 0, none⟩) L.length cap) (markL L.length) ∧ w.grownBy w' (some g) := by
  have HO := Lib.hid ho
  clear ho
  go_enter Try.func29, Try.ntmps29
  go_wp2_with fail
  go_loopw [1, 5] (fun q i wr => ∃ (k : Nat) (M : List E), k ≤ L.length ∧ i = .int .i64 k ∧ q = .int .i64 ((k : Int) * 3 + 1) ∧ Hid (M.length = L.length) ∧ (∀ j, j < k → M[j]? = (markL L.length)[j]?) ∧ Owns wr R (.slice (some ⟨g, 0, none⟩) M.length cap) M ∧ w.grownBy wr (some g)) (fun _ i _ => L.length - (intOf i).toNat)
  case atStart => exact ⟨0, L, Nat.zero_le _, rfl, rfl, Lib.hid rfl, fun _ h => by omega, HO.out, World.grownBy.refl _ _⟩
  case round =>
    obtain ⟨k, M, hk, rfl, rfl, hM, hj, ho, hg⟩ := hrel
    clear HO
    by_cases hlt : k < L.length
    · have hkM : k < M.length := by rw [hM.out]; exact hlt
      have HP := Lib.hid (Owns.put ho hkM ((k : Int) * 3 + 1) ((k : Int) * 3 + 1 + 1) ((k : Int) * 3 + 1 + 1 + 1))
      obtain ⟨d0, d1, d2⟩ := Owns.cells3 ho (List.getElem?_eq_getElem hkM)
      have f0 := World.ownsRow.frozenAt ho (k * 3)
      have f1 := World.ownsRow.frozenAt ho (k * 3 + 1)
      have f2 := World.ownsRow.frozenAt ho (k * 3 + 2)
      have HJ := Lib.hid hj
      have HG := Lib.hid hg
      have HM := Lib.hid (markL_at hlt)
      have j0 : (0 : Int) ≤ (k : Int) := by omega
      have j1 : (k : Int) < (L.length : Int) := by omega
      generalize M[k] = m at *
      clear ho hj hg
      go_wp2_with fail
      go_roundw
      case rel =>
        refine ⟨k + 1, M.set k ((k : Int) * 3 + 1, (k : Int) * 3 + 1 + 1, (k : Int) * 3 + 1 + 1 + 1), by omega, by go_num, by go_num, Lib.hid (by rw [List.length_set]; exact hM.out), fun j hj => ?_, by rw [List.length_set]; exact HP.out.1, only_on HG.out HP.out.2⟩
        by_cases e : j = k
        · subst e; rw [List.getElem?_set_self hkM]; exact HM.out.symm
        · rw [List.getElem?_set_ne (fun h => e h.symm)]; exact HJ.out j (by omega)
      case measure => simp [intOf]; omega
    · obtain rfl : k = L.length := by omega
      have hML := markL_all hM.out hj
      have R := Lib.hid (And.intro ho hg)
      rw [hML, markL_len] at R
      clear ho hg hj hML
      go_wp2_with fail
      go_ret
      exact ⟨rfl, R.out.1, R.out.2⟩

set_option maxRecDepth 100000 in
set_option maxHeartbeats 2000000 in
theorem held_any (a : Option Addr) (cap n : Nat) (w : World) (hT : TabA w a (markL n)) (hl : n ≤ 2000000) :
    Calls Try.prog 30 #[.slice a n cap, .int .i64 1] w fun e w' => e = .returned (.int .i64 ((n : Int) * 3 + 1)) ∧ w = w' := by
  have HT := Lib.hid hT
  clear hT
  go_enter Try.func30, Try.ntmps30
  go_wp2_with fail
  go_loopw [1, 5] (fun q i wr => ∃ (k : Nat), k ≤ n ∧ i = .int .i64 k ∧ q = .int .i64 ((k : Int) * 3 + 1) ∧ wr = w) (fun _ i _ => n - (intOf i).toNat)
  case atStart => exact ⟨0, Nat.zero_le _, rfl, rfl, rfl⟩
  case round =>
    obtain ⟨k, hk, rfl, rfl, rfl⟩ := hrel
    by_cases hlt : k < n
    · obtain ⟨b, off, f, c, v, rfl, hTk, c0, c1, c2⟩ := HT.out.at (show k < (markL n).length by rw [markL_len]; exact hlt)
      rw [markL_at hlt] at hTk
      obtain ⟨rfl, rfl, rfl⟩ : (k : Int) * 3 + 1 = f ∧ (k : Int) * 3 + 1 + 1 = c ∧ (k : Int) * 3 + 1 + 1 + 1 = v := by simpa using hTk
      have j0 : (0 : Int) ≤ (k : Int) := by omega
      have j1 : (k : Int) < (n : Int) := by omega
      clear hTk
      go_wp2_with fail
      go_roundw
      case rel => exact ⟨k + 1, by omega, by go_num, by go_num, by first | rfl | trivial⟩
      case measure => simp [intOf]; omega
    · obtain rfl : k = n := by omega
      go_wp2_with fail
      go_ret
      exact ⟨rfl, rfl⟩

/-- marks into an own slice, nil or not -/
theorem mark_any (v : Value) (L : List E) (R : Nat) (w : World) (ho : Owns w R v L) (hl : L.length ≤ 2000000) :
    Calls Try.prog 29 #[v, .int .i64 1] w fun e w' => e = .returned (.int .i64 ((L.length : Int) * 3 + 1)) ∧ Owns w' R v (markL L.length) ∧ w.grownBy w' v.ownBlock := by
  obtain ⟨_, h2⟩ := id ho
  rcases h2 with ⟨rfl, h0⟩ | ⟨g, cap, cur, rfl, _⟩
  · have hL : L = [] := List.eq_nil_of_length_eq_zero h0
    subst hL
    have HO := Lib.hid (show Owns w R (.slice none 0 0) (markL 0) from ho)
    clear ho
    go_enter Try.func29, Try.ntmps29
    go_wp2_with fail
    refine wp_loop_rounds 1 ?_
    rw [rounds_succ]
    go_wp2_with fail
    go_ret
    exact ⟨by rfl, HO.out, World.grownBy.refl _ _⟩
  · exact mark_own g cap L R w ho hl
end Go.Proofs.Ytmbcfdlemapppaa
