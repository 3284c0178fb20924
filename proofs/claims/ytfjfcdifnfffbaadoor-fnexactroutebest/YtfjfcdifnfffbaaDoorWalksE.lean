/-
  Which of two ranges stands ahead; whether two are the same; the laws 'the program answers as the model does' of chapter 1 (but for halves).
-/
import Derived.Test.YtfjfcdifnfffbaaDoorWalksD
namespace Go.Proofs.YtfjfcdifnfffbaaDoor
open Go.RowKit
set_option linter.unusedSimpArgs false

/-- -1, 0, 1 -/
def cmp2 (x y : Int) : Int := if x < y then -1 else if y < x then 1 else 0

set_option maxHeartbeats 400000 in
theorem nan_any (x : Int) (w : World) :
    Calls Tryd.prog 109 #[.int .i64 x] w fun e w' => e = .returned (.bool false) ∧ w = w' := by
  have hx : (x != x) = false := by simp
  go_enter Tryd.func109, Tryd.ntmps109
  go_wp2
  go_ret
  exact ⟨by simp, rfl⟩

set_option maxHeartbeats 400000 in
theorem compare_any (x y : Int) (w : World) :
    Calls Tryd.prog 69 #[.int .i64 x, .int .i64 y] w fun e w' => e = .returned (.int .i64 (cmp2 x y)) ∧ w = w' := by
  by_cases h1 : x < y
  · have hr : cmp2 x y = -1 := by simp [cmp2, h1]
    rw [hr]; clear hr
    go_enter Tryd.func69, Tryd.ntmps69
    go_wp2_with (go_at_call 109; refine (nan_any _ _).mono ?_; rintro e w' ⟨rfl, rfl⟩)
    go_ret
    exact ⟨rfl, rfl⟩
  · by_cases h2 : y < x
    · have hr : cmp2 x y = 1 := by simp [cmp2, h1, h2]
      rw [hr]; clear hr
      go_enter Tryd.func69, Tryd.ntmps69
      go_wp2_with (go_at_call 109; refine (nan_any _ _).mono ?_; rintro e w' ⟨rfl, rfl⟩)
      go_ret
      exact ⟨rfl, rfl⟩
    · have hr : cmp2 x y = 0 := by simp [cmp2, h1, h2]
      rw [hr]; clear hr
      go_enter Tryd.func69, Tryd.ntmps69
      go_wp2_with (go_at_call 109; refine (nan_any _ _).mono ?_; rintro e w' ⟨rfl, rfl⟩)
      go_ret
      exact ⟨rfl, rfl⟩

set_option maxHeartbeats 800000 in
theorem lcmp_any (f b g c : Int) (w : World) :
    Calls Tryd.prog 103 #[.agg #[.int .i64 f, .int .i64 b], .agg #[.int .i64 g, .int .i64 c]] w fun e w' => e = .returned (.int .i64 (cmpI f b g c)) ∧ Below w.heap.size w w' := by
  by_cases h1 : f < g
  · have hr : cmpI f b g c = -1 := by simp [cmpI, h1]
    rw [hr]; clear hr
    go_enter Tryd.func103, Tryd.ntmps103
    go_wp2
    go_ret
    exact ⟨rfl, alloc2 _ _ _⟩
  by_cases h2 : g < f
  · have hr : cmpI f b g c = 1 := by simp [cmpI, h1, h2]
    rw [hr]; clear hr
    go_enter Tryd.func103, Tryd.ntmps103
    go_wp2
    go_ret
    exact ⟨rfl, alloc2 _ _ _⟩
  by_cases h3 : b < c
  · have hr : cmpI f b g c = -1 := by simp [cmpI, h1, h2, h3]
    rw [hr]; clear hr
    go_enter Tryd.func103, Tryd.ntmps103
    go_wp2
    go_ret
    exact ⟨rfl, alloc2 _ _ _⟩
  by_cases h4 : c < b
  · have hr : cmpI f b g c = 1 := by simp [cmpI, h1, h2, h3, h4]
    rw [hr]; clear hr
    go_enter Tryd.func103, Tryd.ntmps103
    go_wp2
    go_ret
    exact ⟨rfl, alloc2 _ _ _⟩
  have hr : cmpI f b g c = 0 := by simp [cmpI, h1, h2, h3, h4]
  rw [hr]; clear hr
  go_enter Tryd.func103, Tryd.ntmps103
  go_wp2
  go_ret
  exact ⟨rfl, alloc2 _ _ _⟩

theorem cmpOk_no1 {f b g c : Int} (h : okB f b = false) : cmpOk f b g c = 0 := by simp [cmpOk, h]
theorem cmpOk_no2 {f b g c : Int} (h : okB g c = false) : cmpOk f b g c = 0 := by simp [cmpOk, h]
theorem cmpOk_yes {f b g c : Int} (h : okB f b = true) (k : okB g c = true) : cmpOk f b g c = cmpI f b g c := by simp [cmpOk, h, k]
theorem cmpI_ne {f b g c : Int} (h : f ≠ g) : cmpI f b g c = cmp2 f g := by
  unfold cmpI cmp2
  by_cases h1 : f < g
  · simp [h1]
  · have h2 : g < f := by omega
    simp [h1, h2]
theorem cmpI_eq {f b g c : Int} (h : f = g) : cmpI f b g c = cmp2 b c := by
  subst h; simp [cmpI, cmp2]

set_option maxHeartbeats 800000 in
theorem rcmp_any (f b g c : Int) (w : World) :
    Calls Tryd.prog 101 #[.agg #[.int .i64 f, .int .i64 b], .agg #[.int .i64 g, .int .i64 c]] w fun e w' => e = .returned (.int .i64 (cmpOk f b g c)) ∧ Below w.heap.size w w' := by
  by_cases ho : okB f b = true
  · by_cases hg : okB g c = true
    · rw [cmpOk_yes ho hg]
      by_cases hfg : f = g
      · rw [cmpI_eq hfg]
        have hd : (f != g) = false := by simp [hfg]
        clear hfg
        go_enter Tryd.func101, Tryd.ntmps101
        go_wp2_with fail
        refine (iok_is ho _).mono ?_
        rintro e w1 ⟨rfl, hb1⟩
        have k0 := cell_later (a := ⟨w.heap.size, 0, none⟩) (v := .int .i64 f) hb1 (by simp)
        have k1 := cell_later (a := ⟨w.heap.size, 1, none⟩) (v := .int .i64 b) hb1 (by simp)
        have k2 := cell_later (a := ⟨w.heap.size + 1, 0, none⟩) (v := .int .i64 g) hb1 (by simp)
        have k3 := cell_later (a := ⟨w.heap.size + 1, 1, none⟩) (v := .int .i64 c) hb1 (by simp)
        go_wp2_with fail
        refine (iok_is hg _).mono ?_
        rintro e w2 ⟨rfl, hb2⟩
        replace k0 := cell_later hb2 k0
        replace k1 := cell_later hb2 k1
        replace k2 := cell_later hb2 k2
        replace k3 := cell_later hb2 k3
        go_wp2_with fail
        refine (compare_any b c _).mono ?_
        rintro e w3 ⟨rfl, rfl⟩
        go_wp2
        go_ret
        exact ⟨rfl, next (next (alloc2 _ _ _) hb1) hb2⟩
      · rw [cmpI_ne hfg]
        have hd : (f != g) = true := by simp [hfg]
        clear hfg
        go_enter Tryd.func101, Tryd.ntmps101
        go_wp2_with fail
        refine (iok_is ho _).mono ?_
        rintro e w1 ⟨rfl, hb1⟩
        have k0 := cell_later (a := ⟨w.heap.size, 0, none⟩) (v := .int .i64 f) hb1 (by simp)
        have k1 := cell_later (a := ⟨w.heap.size, 1, none⟩) (v := .int .i64 b) hb1 (by simp)
        have k2 := cell_later (a := ⟨w.heap.size + 1, 0, none⟩) (v := .int .i64 g) hb1 (by simp)
        have k3 := cell_later (a := ⟨w.heap.size + 1, 1, none⟩) (v := .int .i64 c) hb1 (by simp)
        go_wp2_with fail
        refine (iok_is hg _).mono ?_
        rintro e w2 ⟨rfl, hb2⟩
        replace k0 := cell_later hb2 k0
        replace k1 := cell_later hb2 k1
        replace k2 := cell_later hb2 k2
        replace k3 := cell_later hb2 k3
        go_wp2_with fail
        refine (compare_any f g _).mono ?_
        rintro e w3 ⟨rfl, rfl⟩
        go_wp2
        go_ret
        exact ⟨rfl, next (next (alloc2 _ _ _) hb1) hb2⟩
    · have hg' : okB g c = false := by simpa using hg
      rw [cmpOk_no2 hg']
      clear hg
      go_enter Tryd.func101, Tryd.ntmps101
      go_wp2_with fail
      refine (iok_is ho _).mono ?_
      rintro e w1 ⟨rfl, hb1⟩
      have k2 := cell_later (a := ⟨w.heap.size + 1, 0, none⟩) (v := .int .i64 g) hb1 (by simp)
      have k3 := cell_later (a := ⟨w.heap.size + 1, 1, none⟩) (v := .int .i64 c) hb1 (by simp)
      go_wp2_with fail
      refine (iok_is hg' _).mono ?_
      rintro e w2 ⟨rfl, hb2⟩
      go_wp2
      go_ret
      exact ⟨rfl, next (next (alloc2 _ _ _) hb1) hb2⟩
  · have ho' : okB f b = false := by simpa using ho
    rw [cmpOk_no1 ho']
    clear ho
    go_enter Tryd.func101, Tryd.ntmps101
    go_wp2_with fail
    refine (iok_is ho' _).mono ?_
    rintro e w1 ⟨rfl, hb1⟩
    go_wp2
    go_ret
    exact ⟨rfl, next (alloc2 _ _ _) hb1⟩

end Go.Proofs.YtfjfcdifnfffbaaDoor
