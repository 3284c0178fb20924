/-
  What the small functions of chapter 1 do: contracts, one a function (the program's own and the model's).
-/
import Derived.Test.YthkaaamgkmmeeaaDoorProg
import Derived.Test.YthkaaamgkmmeeaaDoorMath
import Derived.Test.YthkaaamgkmmeeaaDoorBase
namespace Go.Proofs.YthkaaamgkmmeeaaDoor
open Go.RowKit

/-- a number is between two others -/
def inR (n lo hi : Int) : Bool := decide (lo ≤ n ∧ n ≤ hi)
theorem inR_yes {n lo hi : Int} (h1 : lo ≤ n) (h2 : n ≤ hi) : inR n lo hi = true := by simp [inR]; omega
theorem inR_no {n lo hi : Int} (h : ¬ (lo ≤ n ∧ n ≤ hi)) : inR n lo hi = false := by simp [inR]; omega

set_option maxHeartbeats 400000 in
theorem in_any (n lo hi : Int) (w : World) :
    Calls Tryd.prog 44 #[.int .i64 n, .int .i64 lo, .int .i64 hi] w fun e w' => e = .returned (.bool (inR n lo hi)) ∧ w = w' := by
  by_cases h1 : lo ≤ n
  · by_cases h2 : n ≤ hi
    · go_enter Tryd.func44, Tryd.ntmps44
      go_wp2
      go_ret
      exact ⟨ret_bool (inR_yes h1 h2).symm, rfl⟩
    · go_enter Tryd.func44, Tryd.ntmps44
      go_wp2
      go_ret
      exact ⟨ret_bool (inR_no (by omega)).symm, rfl⟩
  · go_enter Tryd.func44, Tryd.ntmps44
    go_wp2
    go_ret
    exact ⟨ret_bool (inR_no (by omega)).symm, rfl⟩

theorem sz_step (k : Nat) : (((256 / 2 ^ k : Nat) : Int) / 2) = ((256 / 2 ^ (k + 1) : Nat) : Int) := by
  rw [Nat.pow_succ, ← Nat.div_div_eq_div_mul]; omega

set_option maxHeartbeats 400000 in
theorem size_any (b : Int) (w : World) (h0 : 0 ≤ b) (h8 : b ≤ 8) :
    Calls Tryd.prog 81 #[.int .i64 b] w fun e w' => e = .returned (.int .i64 (sz b)) ∧ w = w' := by
  obtain ⟨n, rfl⟩ := Int.eq_ofNat_of_zero_le h0
  go_enter Tryd.func81, Tryd.ntmps81
  go_wp2
  go_loop [3, 4] (fun v i => ∃ k : Nat, k ≤ n ∧ i = .int .i64 k ∧ v = .int .i64 ((256 / 2 ^ k : Nat) : Int)) (fun _ i => n - (intOf i).toNat)
  case atStart => exact ⟨0, Nat.zero_le _, rfl, rfl⟩
  case round =>
    obtain ⟨k, hk, rfl, rfl⟩ := hrel
    have hq : 256 / 2 ^ k ≤ 256 := Nat.div_le_self _ _
    have HS := Lib.hid (sz_step k)
    generalize hx : 256 / 2 ^ k = x at *
    have HX := Lib.hid hx
    clear hx
    by_cases hlt : k < n
    · go_wp2
      go_round
      case rel => exact ⟨k + 1, by omega, by go_num, by rw [← HS.out]⟩
      case measure => simp [intOf]; omega
    · go_wp2
      go_ret
      exact ⟨ret_int (by have : k = n := by omega
                         subst this; rw [← HX.out]; rfl), rfl⟩

theorem shl_sz {b : Int} (h0 : 0 ≤ b) (h8 : b ≤ 8) : wrap64 (2 ^ (8 - b).toNat) = sz b := by
  have h : b = 0 ∨ b = 1 ∨ b = 2 ∨ b = 3 ∨ b = 4 ∨ b = 5 ∨ b = 6 ∨ b = 7 ∨ b = 8 := by omega
  rcases h with rfl | rfl | rfl | rfl | rfl | rfl | rfl | rfl | rfl <;> simp [sz, wrap64]

set_option maxHeartbeats 400000 in
theorem isize_any (f b : Int) (w : World) (h0 : 0 ≤ b) (h8 : b ≤ 8) :
    Calls Tryd.prog 82 #[.agg #[.int .i64 f, .int .i64 b]] w fun e w' => e = .returned (.int .i64 (sz b)) ∧ Below w.heap.size w w' := by
  go_enter Tryd.func82, Tryd.ntmps82
  go_wp2
  go_ret
  exact ⟨ret_int (shl_sz h0 h8), (Below.refl _ _).alloc (Nat.le_refl _) _⟩

set_option maxHeartbeats 400000 in
theorem iok_any (f b : Int) (w : World) :
    Calls Tryd.prog 49 #[.agg #[.int .i64 f, .int .i64 b]] w fun e w' => e = .returned (.bool (okB f b)) ∧ Below w.heap.size w w' := by
  by_cases b0 : b < 0
  · go_enter Tryd.func49, Tryd.ntmps49
    go_wp2
    go_ret
    exact ⟨ret_bool (okB_no (by omega)).symm, (Below.refl _ _).alloc (Nat.le_refl _) _⟩
  by_cases b8 : 8 < b
  · go_enter Tryd.func49, Tryd.ntmps49
    go_wp2
    go_ret
    exact ⟨ret_bool (okB_no (by omega)).symm, (Below.refl _ _).alloc (Nat.le_refl _) _⟩
  by_cases f0 : f < 0
  · have hd : decide (0 ≤ f) = false := by simp; omega
    go_enter Tryd.func49, Tryd.ntmps49
    go_wp2_with fail
    go_quiet (fail)
    go_wp2
    go_ret
    exact ⟨ret_bool (okB_no (by omega)).symm, below_drewN ((Below.refl _ _).alloc (Nat.le_refl _) _) _⟩
  by_cases f1 : 255 < f
  · have hd : decide (f ≤ 255) = false := by simp; omega
    go_enter Tryd.func49, Tryd.ntmps49
    go_wp2_with fail
    go_quiet (fail)
    go_wp2
    go_ret
    exact ⟨ret_bool (okB_no (by omega)).symm, below_drewN ((Below.refl _ _).alloc (Nat.le_refl _) _) _⟩
  have b0' : 0 ≤ b := by omega
  have b8' : b ≤ 8 := by omega
  have f0' : 0 ≤ f := by omega
  have f1' : f ≤ 255 := by omega
  clear b0 b8 f0 f1
  obtain ⟨s1, s2⟩ := sz_bd b0' b8'
  have s0 : ¬ sz b = 0 := by omega
  go_enter Tryd.func49, Tryd.ntmps49
  go_wp2_with fail
  go_region_held3 (fun w' => w'.cell? ⟨w.heap.size, 0, none⟩ = some (.int .i64 f) ∧ w'.cell? ⟨w.heap.size, 1, none⟩ = some (.int .i64 b) ∧ Below w.heap.size w w')
    (first | exact ⟨cell_later hb1 (by simp), cell_later hb1 (by simp), below_on (((Below.refl _ _).alloc (Nat.le_refl _) _).drew) hb1 (by simp)⟩ | exact ⟨by simp, by simp, ((Below.refl _ _).alloc (Nat.le_refl _) _).drew⟩)
    (first | (go_at_call 82; refine (isize_any _ _ _ b0' b8').mono ?_; rintro e w1 ⟨rfl, hb1⟩))
  go_wp2
  go_ret
  exact ⟨ret_bool (by rw [Int.tmod_eq_emod_of_nonneg f0']; exact okB_mod b0' b8' f0' f1'), (show _ ∧ _ ∧ Below w.heap.size w w1 by assumption).2.2⟩

set_option maxHeartbeats 400000 in
theorem sok_yes (f b : Int) (w : World) (b0 : 0 ≤ b) (b8 : b ≤ 8) (f0 : 0 ≤ f) (f1 : f ≤ 255) :
    Calls Tryd.prog 45 #[.agg #[.int .i64 f, .int .i64 b]] w fun e w' => e = .returned (.bool (okB f b)) ∧ Below w.heap.size w w' := by
  have i1 := inR_yes b0 b8
  obtain ⟨s1, s2⟩ := sz_bd b0 b8
  have s0 : ¬ sz b = 0 := by omega
  have i2 := inR_yes f0 f1
  go_enter Tryd.func45, Tryd.ntmps45
  go_wp2_with fail
  go_region_held3 (fun w' => w'.cell? ⟨w.heap.size, 0, none⟩ = some (.int .i64 f) ∧ w'.cell? ⟨w.heap.size, 1, none⟩ = some (.int .i64 b) ∧ Below w.heap.size w w')
    (first | assumption | exact ⟨by simp, by simp, ((Below.refl _ _).alloc (Nat.le_refl _) _).drew⟩)
    (first | (go_at_call 44; refine (in_any _ _ _ _).mono ?_; rintro e w1 ⟨rfl, rfl⟩) | (go_at_call 81; refine (size_any _ _ b0 b8).mono ?_; rintro e w1 ⟨rfl, rfl⟩))
  go_wp2
  go_ret
  exact ⟨ret_bool (by rw [Int.tmod_eq_emod_of_nonneg f0]; exact okB_mod b0 b8 f0 f1), (show _ ∧ _ ∧ Below w.heap.size w _ by assumption).2.2⟩

set_option maxHeartbeats 400000 in
theorem sok_nf (f b : Int) (w : World) (b0 : 0 ≤ b) (b8 : b ≤ 8) (hf : ¬ (0 ≤ f ∧ f ≤ 255)) :
    Calls Tryd.prog 45 #[.agg #[.int .i64 f, .int .i64 b]] w fun e w' => e = .returned (.bool (okB f b)) ∧ Below w.heap.size w w' := by
  have i1 := inR_yes b0 b8
  have i2 := inR_no hf
  have hr : okB f b = false := okB_no (by omega)
  clear hf b0 b8
  go_enter Tryd.func45, Tryd.ntmps45
  go_wp2_with fail
  go_quiet (first | (go_at_call 44; exact quietL (in_any _ _ _ _)))
  go_wp2
  go_ret
  exact ⟨ret_bool hr.symm, below_drewN ((Below.refl _ _).alloc (Nat.le_refl _) _) _⟩

set_option maxHeartbeats 400000 in
theorem sok_nb (f b : Int) (w : World) (hb : ¬ (0 ≤ b ∧ b ≤ 8)) :
    Calls Tryd.prog 45 #[.agg #[.int .i64 f, .int .i64 b]] w fun e w' => e = .returned (.bool (okB f b)) ∧ Below w.heap.size w w' := by
  have i1 := inR_no hb
  have hr : okB f b = false := okB_no (by omega)
  clear hb
  go_enter Tryd.func45, Tryd.ntmps45
  go_wp2_with fail
  go_quiet (first | (go_at_call 44; exact quietL (in_any _ _ _ _)))
  go_wp2
  go_ret
  exact ⟨ret_bool hr.symm, below_drewN ((Below.refl _ _).alloc (Nat.le_refl _) _) _⟩

theorem sok_any (f b : Int) (w : World) :
    Calls Tryd.prog 45 #[.agg #[.int .i64 f, .int .i64 b]] w fun e w' => e = .returned (.bool (okB f b)) ∧ Below w.heap.size w w' := by
  by_cases hb : 0 ≤ b ∧ b ≤ 8
  · by_cases hf : 0 ≤ f ∧ f ≤ 255
    · exact sok_yes f b w hb.1 hb.2 hf.1 hf.2
    · exact sok_nf f b w hb.1 hb.2 hf
  · exact sok_nb f b w hb

theorem iok_is {f b : Int} {v : Bool} (h : okB f b = v) (w : World) :
    Calls Tryd.prog 49 #[.agg #[.int .i64 f, .int .i64 b]] w fun e w' => e = .returned (.bool v) ∧ Below w.heap.size w w' := by
  rw [← h]; exact iok_any f b w
theorem sok_is {f b : Int} {v : Bool} (h : okB f b = v) (w : World) :
    Calls Tryd.prog 45 #[.agg #[.int .i64 f, .int .i64 b]] w fun e w' => e = .returned (.bool v) ∧ Below w.heap.size w w' := by
  rw [← h]; exact sok_any f b w
theorem in_is {n lo hi : Int} {v : Bool} (h : inR n lo hi = v) (w : World) :
    Calls Tryd.prog 44 #[.int .i64 n, .int .i64 lo, .int .i64 hi] w fun e w' => e = .returned (.bool v) ∧ w = w' := by
  rw [← h]; exact in_any n lo hi w

end Go.Proofs.YthkaaamgkmmeeaaDoor
