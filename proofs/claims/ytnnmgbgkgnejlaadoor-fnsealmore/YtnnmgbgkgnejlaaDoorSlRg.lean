/-
  A range of a number: it is one.
-/
import Derived.Test.YtnnmgbgkgnejlaaDoorJ1
namespace Go.Proofs.YtnnmgbgkgnejlaaDoor
open Go.RowKit
set_option linter.unusedSimpArgs false
set_option linter.unusedVariables false

def preR (a : Int) (d : Int) : Int := a / sz d * sz d
theorem preR_ok {a d : Int} (d0 : 0 ≤ d) (d8 : d ≤ 8) (a0 : 0 ≤ a) (a1 : a ≤ 255) : okB (preR a d) d = true := by
  unfold preR
  rcases sz_cases d0 d8 with h | h | h | h | h | h | h | h | h <;> obtain ⟨rfl, e⟩ := h <;> refine okB_of (by omega) (by omega) ?_ ?_ ?_ <;> rw [e] <;> omega
set_option maxRecDepth 100000 in
set_option maxHeartbeats 1000000 in
theorem lyR_ok (n : Nat) (w : World) (hn : n ≤ 1048576) :
    Calls Tryd.prog 34 #[.int .i64 n] w fun e w' => ∃ f b, okB f b = true ∧ e = .returned (.agg #[.int .i64 f, .int .i64 b]) ∧ Below w.heap.size w w' := by
  have HA := Lib.hid (At.new w 0 0 24)
  have HB := Lib.hid ((Below.refl w.heap.size w).alloc (Nat.le_refl _) (.cells #[.int .i64 0, .int .i64 0] 24))
  have t1 : (n : Int).tmod 9 = ((n % 9 : Nat) : Int) := by rw [Int.tmod_eq_emod_of_nonneg (by omega)]; omega
  have hm9 : n % 9 ≤ 8 := by omega
  generalize hmm : n % 9 = m at *
  clear hmm
  go_enter Tryd.func34, Tryd.ntmps34
  go_wp2_with fail
  go_loop [4, 5] (fun v i => ∃ k : Nat, k ≤ m ∧ i = .int .i64 k ∧ v = .int .i64 ((256 / 2 ^ k : Nat) : Int)) (fun _ i => m - (intOf i).toNat)
  case atStart => exact ⟨0, Nat.zero_le _, rfl, rfl⟩
  case round =>
    obtain ⟨k, hk, rfl, rfl⟩ := hrel
    have hq : 256 / 2 ^ k ≤ 256 := Nat.div_le_self _ _
    have HS := Lib.hid (sz_step k)
    generalize hx : 256 / 2 ^ k = x at *
    have HX := Lib.hid hx
    clear hx
    by_cases hlt : k < m
    · go_wp2_with fail
      go_round
      case rel => exact ⟨k + 1, by omega, by go_num, by rw [← HS.out]⟩
      case measure => simp [intOf]; omega
    · obtain rfl : k = m := by omega
      have hsz : (x : Int) = sz (k : Int) := by rw [← HX.out]; rfl
      have sb := sz_bd (b := (k : Int)) (by omega) (by omega)
      have x1 : 1 ≤ x := by omega
      have x0 : ¬ (x : Int) = 0 := by omega
      have HZ := Lib.hid hsz
      clear hsz sb HX HS
      obtain ⟨z0, z1, zf0, zf1⟩ := id HA.out
      go_wp2_with fail
      have hy0 : 0 ≤ (n : Int) * 37 % 256 := by omega
      have hy1 : (n : Int) * 37 % 256 ≤ 255 := by omega
      have hok := preR_ok (a := (n : Int) * 37 % 256) (d := (k : Int)) (by omega) (by omega) hy0 hy1
      have hp : (n : Int) * 37 % 256 / (x : Int) * (x : Int) = preR ((n : Int) * 37 % 256) k := by rw [HZ.out]; rfl
      have hb := (okB_iff _ _).1 hok
      have hw : wrap64 ((n : Int) * 37 % 256 / (x : Int) * (x : Int)) = preR ((n : Int) * 37 % 256) k := by
        rw [hp]
        generalize preR ((n : Int) * 37 % 256) k = y at *
        unfold wrap64; omega
      refine bodyPost_ret (v := .agg #[.int .i64 (preR ((n : Int) * 37 % 256) k), .int .i64 k]) (by simp [results, Tryd.results34, go_sem, hw]) rfl ⟨_, _, hok, rfl, (Below.refl _ _).alloc (Nat.le_refl _) _⟩
end Go.Proofs.YtnnmgbgkgnejlaaDoor
