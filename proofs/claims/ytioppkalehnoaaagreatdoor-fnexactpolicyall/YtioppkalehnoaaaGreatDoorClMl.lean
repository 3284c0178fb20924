/-
  Marks from a great number on: slices of ints, a route, a slice of clauses, a slice of routes; and what is held.
-/
import Derived.Test.YtioppkalehnoaaaGreatDoorClPb
import Derived.Test.YtioppkalehnoaaaGreatDoorClTs
import Derived.Test.YtioppkalehnoaaaGreatDoorRtExA
namespace Go.Proofs.YtioppkalehnoaaaGreatDoor
open Go.RowKit
set_option linter.unusedSimpArgs false
set_option linter.unusedVariables false

set_option maxRecDepth 100000 in
set_option maxHeartbeats 2000000 in
theorem bmark_own (s g cap : Nat) (L : List Int) (R : Nat) (w : World) (ho : OwnI w R (.slice (some ⟨g, 0, none⟩) L.length cap) L) (hl : L.length ≤ 2000000) (hs : s ≤ 4000000000000000) :
    Calls Tryz.prog 40 #[.slice (some ⟨g, 0, none⟩) L.length cap, .int .i64 (s : Int)] w fun e w' => e = .returned (.int .i64 ((s + L.length : Nat) : Int)) ∧ OwnI w' R (.slice (some ⟨g, 0, none⟩) L.length cap) (pmarkG s L.length) ∧ w.grownBy w' (some g) := by
  have HO := Lib.hid ho
  clear ho
  go_enter Tryz.func40, Tryz.ntmps40
  go_wp2_with fail
  go_loopw [1, 5] (fun q i wr => ∃ (k : Nat) (M : List Int), k ≤ L.length ∧ i = .int .i64 k ∧ q = .int .i64 ((s + k : Nat) : Int) ∧ Hid (M.length = L.length) ∧ (∀ j, j < k → M[j]? = (pmarkG s L.length)[j]?) ∧ OwnI wr R (.slice (some ⟨g, 0, none⟩) M.length cap) M ∧ w.grownBy wr (some g)) (fun _ i _ => L.length - (intOf i).toNat)
  case atStart => exact ⟨0, L, Nat.zero_le _, rfl, by simp, Lib.hid rfl, fun _ h => by omega, HO.out, World.grownBy.refl _ _⟩
  case round =>
    obtain ⟨k, M, hk, rfl, rfl, hM, hj, ho, hg⟩ := hrel
    clear HO
    by_cases hlt : k < L.length
    · have hkM : k < M.length := by rw [hM.out]; exact hlt
      have HP := Lib.hid (owni_put (k := k) ho ((s + k : Nat) : Int))
      have d0 := owni_cell ho hkM
      have f0 := World.ownsRow.frozenAt ho k
      have HJ := Lib.hid hj
      have HG := Lib.hid hg
      have HM := Lib.hid (pmarkG_at (s := s) hlt)
      have j0 : (0 : Int) ≤ (k : Int) := by omega
      have j1 : (k : Int) < (L.length : Int) := by omega
      generalize hq : s + k = q at *
      generalize M[k] = m at *
      clear ho hj hg
      go_wp2_with fail
      go_roundw
      case rel =>
        refine ⟨k + 1, M.set k (q : Int), by omega, by go_num, by rw [← Nat.add_assoc, hq]; go_num, Lib.hid (by rw [List.length_set]; exact hM.out), fun j hj => ?_, by rw [List.length_set]; exact HP.out.1, only_on HG.out HP.out.2⟩
        by_cases e : j = k
        · subst e; rw [List.getElem?_set_self hkM]; exact HM.out.symm
        · rw [List.getElem?_set_ne (fun h => e h.symm)]; exact HJ.out j (by omega)
      case measure => simp [intOf]; omega
    · obtain rfl : k = L.length := by omega
      have hML := pmarkG_all hM.out hj
      have R := Lib.hid (And.intro ho hg)
      rw [hML, pmarkG_len] at R
      clear ho hg hj hML
      go_wp2_with fail
      go_ret
      exact ⟨rfl, R.out.1, R.out.2⟩
theorem bmark_any (s : Nat) (v : Value) (L : List Int) (R : Nat) (w : World) (ho : OwnI w R v L) (hl : L.length ≤ 2000000) (hs : s ≤ 4000000000000000) :
    Calls Tryz.prog 40 #[v, .int .i64 (s : Int)] w fun e w' => e = .returned (.int .i64 ((s + L.length : Nat) : Int)) ∧ OwnI w' R v (pmarkG s L.length) ∧ w.grownBy w' v.ownBlock := by
  obtain ⟨_, h2⟩ := id ho
  rcases h2 with ⟨rfl, h0⟩ | ⟨g, cap, cur, rfl, _⟩
  · have hL : L = [] := List.eq_nil_of_length_eq_zero h0
    subst hL
    have HO := Lib.hid (show OwnI w R (.slice none 0 0) (pmarkG s 0) from ho)
    clear ho
    go_enter Tryz.func40, Tryz.ntmps40
    go_wp2_with fail
    refine wp_loop_rounds 1 ?_
    rw [rounds_succ]
    go_wp2_with fail
    go_ret
    exact ⟨by simp, HO.out, World.grownBy.refl _ _⟩
  · exact bmark_own s g cap L R w ho hl hs

set_option maxRecDepth 100000 in
set_option maxHeartbeats 2000000 in
theorem bheld_any (s : Nat) (a : Option Addr) (cap n : Nat) (w : World) (hT : IntA w a (pmarkG s n)) (hl : n ≤ 2000000) (hs : s ≤ 4000000000000000) :
    Calls Tryz.prog 41 #[.slice a n cap, .int .i64 (s : Int)] w fun e w' => e = .returned (.int .i64 ((s + n : Nat) : Int)) ∧ w = w' := by
  have HT := Lib.hid hT
  clear hT
  go_enter Tryz.func41, Tryz.ntmps41
  go_wp2_with fail
  go_loopw [1, 5] (fun q i wr => ∃ (k : Nat), k ≤ n ∧ i = .int .i64 k ∧ q = .int .i64 ((s + k : Nat) : Int) ∧ wr = w) (fun _ i _ => n - (intOf i).toNat)
  case atStart => exact ⟨0, Nat.zero_le _, rfl, by simp, rfl⟩
  case round =>
    obtain ⟨k, hk, rfl, rfl, rfl⟩ := hrel
    by_cases hlt : k < n
    · obtain ⟨b, off, x, rfl, hTk, c0⟩ := HT.out.at (show k < (pmarkG s n).length by rw [pmarkG_len]; exact hlt)
      rw [pmarkG_at hlt] at hTk
      obtain rfl : ((s + k : Nat) : Int) = x := by simpa using hTk
      have j0 : (0 : Int) ≤ (k : Int) := by omega
      have j1 : (k : Int) < (n : Int) := by omega
      clear hTk
      generalize hq : s + k = q at *
      go_wp2_with fail
      go_roundw
      case rel => exact ⟨k + 1, by omega, by go_num, by rw [← Nat.add_assoc, hq]; go_num, by first | rfl | trivial⟩
      case measure => simp [intOf]; omega
    · obtain rfl : k = n := by omega
      go_wp2_with fail
      go_ret
      exact ⟨rfl, rfl⟩

set_option maxHeartbeats 1000000 in
/-- marks into a route of the call's own, from a number on -/
theorem markrt_at (s : Nat) (hs : s ≤ 3000000000000000) (f b l : Int) (a d : Option Addr) (c e : Nat) (P M : List Int) (A S : Nat) (w : World) (hP : OwnI w A (.slice a P.length c) P) (hM : OwnI w S (.slice d M.length e) M)
    (hap : (Value.slice a P.length c).ownBlock = none ∨ (Value.slice a P.length c).ownBlock ≠ (Value.slice d M.length e).ownBlock) (hl1 : P.length ≤ 2000000) (hl2 : M.length ≤ 2000000) :
    Calls Tryz.prog 15 #[.agg #[.int .i64 f, .int .i64 b, .slice a P.length c, .int .i64 l, .slice d M.length e], .int .i64 (s : Int)] w fun en w' => en = .returned (.int .i64 ((s + P.length + M.length : Nat) : Int)) ∧
      OwnI w' A (.slice a P.length c) (pmarkG s P.length) ∧ OwnI w' S (.slice d M.length e) (pmarkG (s + P.length) M.length) ∧ ∃ W0 W1, Below w.heap.size w W0 ∧ W0.grownBy W1 (Value.slice a P.length c).ownBlock ∧ W1.grownBy w' (Value.slice d M.length e).ownBlock := by
  have H0 := Lib.hid (And.intro (hP.alloc (.cells #[.int .i64 f, .int .i64 b, .slice a P.length c, .int .i64 l, .slice d M.length e] 32)) (And.intro (hM.alloc (.cells #[.int .i64 f, .int .i64 b, .slice a P.length c, .int .i64 l, .slice d M.length e] 32)) (And.intro ((Below.refl w.heap.size w).alloc (Nat.le_refl _) (.cells #[.int .i64 f, .int .i64 b, .slice a P.length c, .int .i64 l, .slice d M.length e] 32)) (At5.new w (.int .i64 f) (.int .i64 b) (.slice a P.length c) (.int .i64 l) (.slice d M.length e) 32))))
  have hP' := hP.lt
  have hap' := Lib.hid hap
  have hPl := Lib.hid hP.lt
  clear hP hM hap hP'
  go_enter Tryz.func15, Tryz.ntmps15
  go_wp2_with fail
  generalize w.alloc (.cells #[.int .i64 f, .int .i64 b, .slice a P.length c, .int .i64 l, .slice d M.length e] 32) = W at *
  refine (bmark_any s _ P _ _ H0.out.1 hl1 (by omega)).mono ?_
  rintro en w1 ⟨rfl, o1, g1⟩
  have H1 := Lib.hid (And.intro o1 (And.intro (H0.out.2.1.kept g1 (apart_sym hap'.out)) (And.intro g1 (H0.out.2.2.2.only g1 (fun q => by have := (hPl.out _ q.symm).2; omega)))))
  clear o1 g1
  obtain ⟨⟨q0, q1, q2, q3, q4⟩, _⟩ := H1.out.2.2.2
  go_wp2_with fail
  clear q0 q1 q2 q3 q4
  refine (bmark_any (s + P.length) _ M _ _ H1.out.2.1 hl2 (by omega)).mono ?_
  rintro en w2 ⟨rfl, o2, g2⟩
  have H2 := Lib.hid (And.intro (World.ownsRow.kept H1.out.1 g2 hap'.out) (And.intro o2 g2))
  clear o2 g2
  go_wp2_with fail
  go_ret
  exact ⟨rfl, H2.out.1, H2.out.2.1, _, _, H0.out.2.2.1, H1.out.2.2.1, H2.out.2.2⟩


theorem setAt_len (ys : List Value) (i : Nat) (v : Value) : (ys.set i v).length = ys.length := List.length_set
set_option maxRecDepth 100000 in
set_option maxHeartbeats 4000000 in
theorem markcl_own (g cap n : Nat) (xs : List Value) (w : World) (hx : xs.length = n * 8) (hA : AtL w g 0 xs) (hl : n ≤ 2000000) :
    Calls Tryz.prog 14 #[.slice (some ⟨g, 0, none⟩) n cap, .int .i64 1] w fun e w' => e = .returned (.int .i64 ((1 + n * 8 : Nat) : Int)) ∧ w.grownBy w' (some g) := by
  have HA := Lib.hid hA
  have HX := Lib.hid hx
  clear hA hx
  go_enter Tryz.func14, Tryz.ntmps14
  go_wp2_with fail
  go_loopw [1, 5] (fun q i wr => ∃ (k : Nat) (ys : List Value), k ≤ n ∧ i = .int .i64 k ∧ q = .int .i64 ((1 + k * 8 : Nat) : Int) ∧ Hid (ys.length = n * 8) ∧ Hid (AtL wr g 0 ys) ∧ Hid (w.grownBy wr (some g))) (fun _ i _ => n - (intOf i).toNat)
  case atStart => exact ⟨0, xs, Nat.zero_le _, rfl, rfl, HX, HA, Lib.hid (World.grownBy.refl _ _)⟩
  case round =>
    clear HA HX
    obtain ⟨k, ys, hk, rfl, rfl, HX, HA, HG⟩ := hrel
    by_cases hlt : k < n
    · have j0 : (0 : Int) ≤ (k : Int) := by omega
      have j1 : (k : Int) < (n : Int) := by omega
      generalize hq : 1 + k * 8 = q at *
      have hq2 : q ≤ 20000000 := by omega
      have HQ := Lib.hid hq
      clear hq
      go_wp2_with (refine wpList_st1 rfl 3 _ _ rfl g (k * 8) _ rfl rfl rfl rfl infoI1 _ HA.out (by have := HX.out; (try simp only [setAt_len]); omega) ?_)
      intro w1 a1 g1
      have HA1 := Lib.hid a1
      have HG1 := Lib.hid (only_on HG.out g1)
      clear a1 g1
      go_wp2_with (refine wpList_st1 rfl 3 _ _ rfl g (k * 8 + 1) _ rfl rfl rfl rfl infoI1 _ HA1.out (by have := HX.out; (try simp only [setAt_len]); omega) ?_)
      intro w2 a2 g2
      have HA2 := Lib.hid a2
      have HG2 := Lib.hid (only_on HG1.out g2)
      clear a2 g2
      go_wp2_with (refine wpList_st1 rfl 3 _ _ rfl g (k * 8 + 2) _ rfl rfl rfl rfl infoI1 _ HA2.out (by have := HX.out; (try simp only [setAt_len]); omega) ?_)
      intro w3 a3 g3
      have HA3 := Lib.hid a3
      have HG3 := Lib.hid (only_on HG2.out g3)
      clear a3 g3
      go_wp2_with (refine wpList_st1 rfl 3 _ _ rfl g (k * 8 + 3) _ rfl rfl rfl rfl infoI1 _ HA3.out (by have := HX.out; (try simp only [setAt_len]); omega) ?_)
      intro w4 a4 g4
      have HA4 := Lib.hid a4
      have HG4 := Lib.hid (only_on HG3.out g4)
      clear a4 g4
      go_wp2_with (refine wpList_st1 rfl 4 _ _ rfl g (k * 8 + 4) _ rfl rfl rfl rfl infoB1 _ HA4.out (by have := HX.out; (try simp only [setAt_len]); omega) ?_)
      intro w5 a5 g5
      have HA5 := Lib.hid a5
      have HG5 := Lib.hid (only_on HG4.out g5)
      clear a5 g5
      go_wp2_with (refine wpList_st1 rfl 3 _ _ rfl g (k * 8 + 5) _ rfl rfl rfl rfl infoI1 _ HA5.out (by have := HX.out; (try simp only [setAt_len]); omega) ?_)
      intro w6 a6 g6
      have HA6 := Lib.hid a6
      have HG6 := Lib.hid (only_on HG5.out g6)
      clear a6 g6
      go_wp2_with (refine wpList_st1 rfl 3 _ _ rfl g (k * 8 + 6) _ rfl rfl rfl rfl infoI1 _ HA6.out (by have := HX.out; (try simp only [setAt_len]); omega) ?_)
      intro w7 a7 g7
      have HA7 := Lib.hid a7
      have HG7 := Lib.hid (only_on HG6.out g7)
      clear a7 g7
      go_wp2_with (refine wpList_st1 rfl 3 _ _ rfl g (k * 8 + 7) _ rfl rfl rfl rfl infoI1 _ HA7.out (by have := HX.out; (try simp only [setAt_len]); omega) ?_)
      intro w8 a8 g8
      have HA8 := Lib.hid a8
      have HG8 := Lib.hid (only_on HG7.out g8)
      clear a8 g8
      go_wp2_with fail
      go_roundw
      case rel => exact ⟨k + 1, _, by omega, by go_num, by have := HQ.out; rw [show 1 + (k + 1) * 8 = q + 8 by omega]; go_num, Lib.hid (by simp only [setAt_len]; exact HX.out), HA8, HG8⟩
      case measure => simp [intOf]; omega
    · obtain rfl : k = n := by omega
      go_wp2_with fail
      go_ret
      exact ⟨rfl, HG.out⟩
theorem markcl_any (v : Value) (L : List CL) (R : Nat) (w : World) (ho : OwnC w R v L) (hl : L.length ≤ 2000000) :
    Calls Tryz.prog 14 #[v, .int .i64 1] w fun e w' => e = .returned (.int .i64 ((1 + L.length * 8 : Nat) : Int)) ∧ w.grownBy w' v.ownBlock := by
  obtain ⟨_, h2⟩ := id ho
  rcases h2 with ⟨rfl, h0⟩ | ⟨g, cap, cur, rfl, _⟩
  · have hL : L = [] := List.eq_nil_of_length_eq_zero h0
    subst hL
    go_enter Tryz.func14, Tryz.ntmps14
    go_wp2_with fail
    refine wp_loop_rounds 1 ?_
    rw [rounds_succ]
    go_wp2_with fail
    go_ret
    exact ⟨by simp, World.grownBy.refl _ _⟩
  · refine markcl_own g cap L.length (cells8 L) w (cells8_len L) (fun j u hj => ?_) hl
    have := World.ownsRow.cells ho (g := g) rfl j u hj
    rw [Addr.add_mid, Nat.zero_add] at this
    rw [Nat.zero_add]
    exact ⟨this, World.ownsRow.frozenAt ho j⟩
theorem vcell_f2 {B : Nat} {w w' : World} (h : Below B w w') {a : Addr} {v : Value} (ha : a.block < B) (hc : w.cell? a = some v) : w'.cell? a = some v := by rw [h.cell ha]; exact hc
end Go.Proofs.YtioppkalehnoaaaGreatDoor
