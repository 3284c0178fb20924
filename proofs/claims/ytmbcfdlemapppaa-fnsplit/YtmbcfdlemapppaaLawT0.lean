/-
  Helpers of the laws of chapter 2: whether tables are the same; a range of a number.
-/
import Derived.Test.YtmbcfdlemapppaaDrawTabp
import Derived.Test.YtmbcfdlemapppaaMathU
namespace Go.Proofs.Ytmbcfdlemapppaa
open Go.RowKit
set_option linter.unusedSimpArgs false
set_option linter.unusedVariables false

set_option maxRecDepth 100000 in
set_option maxHeartbeats 2000000 in
theorem ly_same (a a' : Option Addr) (cap cap' : Nat) (T : List E) (w : World) (hA : TabA w a T) (hB : TabA w a' T) (hl : T.length ≤ 2000000) :
    Calls Try.prog 44 #[.slice a T.length cap, .slice a' T.length cap'] w fun e w' => e = .returned (.bool true) ∧ Below w.heap.size w w' := by
  have HA := Lib.hid (And.intro hA hB)
  clear hA hB
  go_enter Try.func44, Try.ntmps44
  go_wp2_with fail
  go_loopw [5] (fun i wr => ∃ k : Nat, k ≤ T.length ∧ i = .int .i64 k ∧ Below w.heap.size w wr) (fun i _ => T.length - (intOf i).toNat)
  case atStart => exact ⟨0, Nat.zero_le _, rfl, Below.refl _ _⟩
  case round =>
    obtain ⟨k, hk, rfl, hb⟩ := hrel
    by_cases hlt : k < T.length
    · obtain ⟨b, off, f, c, v, rfl, hTk, c0, c1, c2⟩ := (HA.out.1.below hb).at hlt
      obtain ⟨b', off', f', c', v', rfl, hTk', d0, d1, d2⟩ := (HA.out.2.below hb).at hlt
      obtain ⟨rfl, rfl, rfl⟩ : f = f' ∧ c = c' ∧ v = v' := by rw [hTk] at hTk'; simpa using hTk'
      have HB := Lib.hid hb
      have hq : ∀ W, (binOp .neq 37 (.agg #[.int .i64 f, .int .i64 c, .int .i64 v]) (.agg #[.int .i64 f, .int .i64 c, .int .i64 v])).run Try.prog W = .ok (.bool false) W := fun W => by
        have := neqE (f, c, v) (f, c, v) W
        simpa using this
      have j0 : (0 : Int) ≤ (k : Int) := by omega
      have j1 : (k : Int) < (T.length : Int) := by omega
      clear hTk hTk' hb
      go_wp2_with fail
      go_quiet (fail)
      go_wp2_with fail
      go_roundw
      case rel => exact ⟨k + 1, by omega, by go_num, below_drewN HB.out _⟩
      case measure => simp [intOf]; omega
    · obtain rfl : k = T.length := by omega
      have HB := Lib.hid hb
      clear hb
      go_wp2_with fail
      go_ret
      exact ⟨rfl, HB.out⟩

set_option maxRecDepth 100000 in
set_option maxHeartbeats 1000000 in
theorem lyR_any (n : Nat) (w : World) (hn : n ≤ 1048576) :
    Calls Try.prog 45 #[.int .i64 n] w fun e w' => ∃ f b, okB f b = true ∧ e = .returned (.agg #[.int .i64 f, .int .i64 b]) ∧ Below w.heap.size w w' := by
  have HA := Lib.hid (At.new w 0 0 35)
  have HB := Lib.hid ((Below.refl w.heap.size w).alloc (Nat.le_refl _) (.cells #[.int .i64 0, .int .i64 0] 35))
  have t1 : (n : Int).tmod 9 = ((n % 9 : Nat) : Int) := by rw [Int.tmod_eq_emod_of_nonneg (by omega)]; omega
  have hm9 : n % 9 ≤ 8 := by omega
  generalize hmm : n % 9 = m at *
  clear hmm
  go_enter Try.func45, Try.ntmps45
  go_wp2_with fail
  go_loop [4, 5] (fun v i => ∃ k : Nat, k ≤ m ∧ i = .int .i64 k ∧ v = .int .i64 ((256 / 2 ^ k : Nat) : Int)) (fun _ i => m - (intOf i).toNat)
  case atStart => exact ⟨0, Nat.zero_le _, rfl, rfl⟩
  case round =>
    obtain ⟨k, hk, rfl, rfl⟩ := hrel
    have hq : 256 / 2 ^ k ≤ 256 := Nat.div_le_self _ _
    have HS := Lib.hid (sz_step k)
    generalize hx : 256 / 2 ^ k = x at *
    have HX := Lib.hid hx
    clear hx
    by_cases hlt : k < m
    · go_wp2_with fail
      go_round
      case rel => exact ⟨k + 1, by omega, by go_num, by rw [← HS.out]⟩
      case measure => simp [intOf]; omega
    · obtain rfl : k = m := by omega
      have hsz : (x : Int) = sz (k : Int) := by rw [← HX.out]; rfl
      have sb := sz_bd (b := (k : Int)) (by omega) (by omega)
      have x1 : 1 ≤ x := by omega
      have x0 : ¬ (x : Int) = 0 := by omega
      have HZ := Lib.hid hsz
      clear hsz sb HX HS
      obtain ⟨z0, z1, zf0, zf1⟩ := id HA.out
      go_wp2_with fail
      have hy0 : 0 ≤ (n : Int) * 37 % 256 := by omega
      have hy1 : (n : Int) * 37 % 256 ≤ 255 := by omega
      have hok := pre_ok (a := (n : Int) * 37 % 256) (d := (k : Int)) (by omega) (by omega) hy0 hy1
      have hp : (n : Int) * 37 % 256 / (x : Int) * (x : Int) = pre ((n : Int) * 37 % 256) k := by rw [HZ.out]; rfl
      have hb := (okB_iff _ _).1 hok
      have hw : wrap64 ((n : Int) * 37 % 256 / (x : Int) * (x : Int)) = pre ((n : Int) * 37 % 256) k := by
        rw [hp]
        generalize pre ((n : Int) * 37 % 256) k = y at *
        unfold wrap64; omega
      refine bodyPost_ret (v := .agg #[.int .i64 (pre ((n : Int) * 37 % 256) k), .int .i64 k]) (by simp [results, Try.results45, go_sem, hw]) rfl ⟨_, _, hok, rfl, (Below.refl _ _).alloc (Nat.le_refl _) _⟩
end Go.Proofs.Ytmbcfdlemapppaa
