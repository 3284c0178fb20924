/-
  Which of two ranges stands ahead; a range made of a number.
-/
import Derived.Test.YtglmoacgaacmeaaLawC0
namespace Go.Proofs.Ytglmoacgaacmeaa
open Go.RowKit
set_option linter.unusedSimpArgs false

theorem cmp3 (f b g c : Int) : cmpI f b g c = -1 ∨ cmpI f b g c = 0 ∨ cmpI f b g c = 1 := by
  unfold cmpI; repeat (first | split | omega)
theorem cmp_neg (f b g c : Int) : cmpI g c f b = - cmpI f b g c := by
  unfold cmpI; repeat (first | split | omega)
theorem cmp_zero {f b g c : Int} (h : cmpI f b g c = 0) : f = g ∧ b = c := by
  unfold cmpI at h; repeat (first | split at h | omega)
theorem cmp_self (f b : Int) : cmpI f b f b = 0 := by simp [cmpI]
theorem cmp_trans {f b g c h d : Int} (h1 : cmpI f b g c = -1) (h2 : cmpI g c h d = -1) : cmpI f b h d = -1 := by
  unfold cmpI at *; repeat (first | split at h1 | split at h2 | split | omega)
theorem cmp_in {f b g c : Int} (hf : okB f b = true) (hg : okB g c = true) (h : inB f b g c = true) : cmpI f b g c ≠ -1 := by
  have k1 := (in_iff hf hg).1 h
  have k2 := ((inB_iff f b g c).1 h).2.2
  unfold cmpI; repeat (first | split | omega)
theorem rcmp_is {f b g c v : Int} (h : cmpOk f b g c = v) (w : World) :
    Calls Try.prog 33 #[.agg #[.int .i64 f, .int .i64 b], .agg #[.int .i64 g, .int .i64 c]] w fun e w' => e = .returned (.int .i64 v) ∧ Below w.heap.size w w' := by
  rw [← h]; exact rcmp_any f b g c w
theorem scmp_is {f b g c v : Int} (h : cmpOk f b g c = v) (w : World) :
    Calls Try.prog 32 #[.agg #[.int .i64 f, .int .i64 b], .agg #[.int .i64 g, .int .i64 c]] w fun e w' => e = .returned (.int .i64 v) ∧ Below w.heap.size w w' := by
  rw [← h]; exact scmp_any f b g c w

def Lied (w : World) (e : Ending) (w' : World) : Prop := ∃ h d : Int, e = .returned (.agg #[.int .i64 h, .int .i64 d]) ∧ Below w.heap.size w w'

set_option maxHeartbeats 800000 in
theorem ly_any (n : Nat) (w : World) (hn : n ≤ 1048576) : Calls Try.prog 37 #[.int .i64 (n : Int)] w (Lied w) := by
  have r0 := At.new w 0 0 25
  have m0 : 0 ≤ (n : Int) % 9 := by omega
  have m8 : (n : Int) % 9 ≤ 8 := by omega
  obtain ⟨m, hm⟩ := Int.eq_ofNat_of_zero_le m0
  have HM := Lib.hid hm
  clear hm
  go_enter Try.func37, Try.ntmps37
  go_wp2_with fail
  rw [HM.out]
  have hm8 : m ≤ 8 := by have := HM.out; omega
  clear m0 m8
  have B0 : Below w.heap.size w (w.alloc (.cells #[.int .i64 0, .int .i64 0] 25)) := (Below.refl _ _).alloc (Nat.le_refl _) _
  generalize w.alloc (.cells #[.int .i64 0, .int .i64 0] 25) = W at *
  go_loop [4, 5] (fun v i => ∃ j : Nat, j ≤ m ∧ i = .int .i64 j ∧ v = .int .i64 ((256 / 2 ^ j : Nat) : Int)) (fun _ i => m - (intOf i).toNat)
  case atStart => exact ⟨0, Nat.zero_le _, rfl, rfl⟩
  case round =>
    obtain ⟨j, hj, rfl, rfl⟩ := hrel
    have hq : 256 / 2 ^ j ≤ 256 := Nat.div_le_self _ _
    have HQ := Lib.hid (sz_step j)
    have hq1 : 1 ≤ 256 / 2 ^ j := by
      have := (sz_bd (b := (j : Int)) (by omega) (by omega)).1
      simp only [sz, Int.toNat_natCast] at this
      omega
    generalize hx : 256 / 2 ^ j = x at *
    have HX := Lib.hid hx
    clear hx
    by_cases hlt : j < m
    · go_wp2
      go_round
      case rel => exact ⟨j + 1, by omega, by go_num, by rw [← HQ.out]⟩
      case measure => simp [intOf]; omega
    · obtain ⟨k0, k1, k2, k3⟩ := id r0
      have hx0 : ¬ x = 0 := by omega
      have hx1 : ¬ (x : Int) = 0 := by omega
      go_wp2
      generalize wrap64 ((n : Int) * 37 % 256 / x * x) = F
      obtain ⟨d0, d1, _, _⟩ := r0.put F m
      have B1 := below_set2 B0 (.int .i64 F) (.int .i64 m) (Nat.le_refl _)
      exact bodyPost_ret (v := .agg #[.int .i64 F, .int .i64 m]) (by simp [results, Try.results37, go_sem, d0, d1]) rfl ⟨_, _, rfl, B1⟩

end Go.Proofs.Ytglmoacgaacmeaa
