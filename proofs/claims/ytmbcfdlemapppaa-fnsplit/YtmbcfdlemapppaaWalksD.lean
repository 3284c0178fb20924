/-
  Which range is in which; how many addresses one has; which stands ahead.
-/
import Derived.Test.YtmbcfdlemapppaaWalksC
namespace Go.Proofs.Ytmbcfdlemapppaa
open Go.RowKit
set_option linter.unusedSimpArgs false

theorem alloc2 (w : World) (o o' : Obj) : Below w.heap.size w ((w.alloc o).alloc o') := ((Below.refl _ _).alloc (Nat.le_refl _) _).alloc (by simp) _

set_option maxHeartbeats 400000 in
theorem rin_any (f b g c : Int) (w : World) :
    Calls Try.prog 42 #[.agg #[.int .i64 f, .int .i64 b], .agg #[.int .i64 g, .int .i64 c]] w fun e w' => e = .returned (.bool (inB f b g c)) ∧ Below w.heap.size w w' := by
  by_cases ho : okB f b = true
  · obtain ⟨b0, b8, f0, f1, hm⟩ := (okB_iff f b).1 ho
    clear hm
    have f2 : f ≤ 9223372036854775807 := by omega
    by_cases hg : hasB g c f = true
    · have hr : inB f b g c = decide (c ≤ b) := by rw [Bool.eq_iff_iff, inB_iff]; simp [ho, hg]
      rw [hr]
      clear hr
      go_enter Try.func42, Try.ntmps42
      go_wp2_with fail
      refine (iok_is ho _).mono ?_
      rintro e w1 ⟨rfl, hb1⟩
      have k0 := cell_later (a := ⟨w.heap.size, 0, none⟩) (v := .int .i64 f) hb1 (by simp)
      have k1 := cell_later (a := ⟨w.heap.size, 1, none⟩) (v := .int .i64 b) hb1 (by simp)
      have k2 := cell_later (a := ⟨w.heap.size + 1, 0, none⟩) (v := .int .i64 g) hb1 (by simp)
      have k3 := cell_later (a := ⟨w.heap.size + 1, 1, none⟩) (v := .int .i64 c) hb1 (by simp)
      go_wp2_with fail
      refine (ihas_is hg _ f2).mono ?_
      rintro e w2 ⟨rfl, hb2⟩
      replace k0 := cell_later hb2 k0
      replace k1 := cell_later hb2 k1
      replace k2 := cell_later hb2 k2
      replace k3 := cell_later hb2 k3
      go_wp2
      go_ret
      exact ⟨rfl, next (next (alloc2 _ _ _) hb1) hb2⟩
    · have hg' : hasB g c f = false := by simpa using hg
      rw [inB_no (by simp [hg])]
      clear hg
      go_enter Try.func42, Try.ntmps42
      go_wp2_with fail
      refine (iok_is ho _).mono ?_
      rintro e w1 ⟨rfl, hb1⟩
      have k0 := cell_later (a := ⟨w.heap.size, 0, none⟩) (v := .int .i64 f) hb1 (by simp)
      have k1 := cell_later (a := ⟨w.heap.size, 1, none⟩) (v := .int .i64 b) hb1 (by simp)
      have k2 := cell_later (a := ⟨w.heap.size + 1, 0, none⟩) (v := .int .i64 g) hb1 (by simp)
      have k3 := cell_later (a := ⟨w.heap.size + 1, 1, none⟩) (v := .int .i64 c) hb1 (by simp)
      go_wp2_with fail
      refine (ihas_is hg' _ f2).mono ?_
      rintro e w2 ⟨rfl, hb2⟩
      go_wp2
      go_ret
      exact ⟨rfl, next (next (alloc2 _ _ _) hb1) hb2⟩
  · have ho' : okB f b = false := by simpa using ho
    rw [inB_no (by simp [ho])]
    clear ho
    go_enter Try.func42, Try.ntmps42
    go_wp2_with fail
    refine (iok_is ho' _).mono ?_
    rintro e w1 ⟨rfl, hb1⟩
    go_wp2
    go_ret
    exact ⟨rfl, next (alloc2 _ _ _) hb1⟩

/-- how many addresses -/
def manyI (f b : Int) : Int := if okB f b = true then sz b else 0

set_option maxHeartbeats 400000 in
theorem rmany_any (f b : Int) (w : World) :
    Calls Try.prog 52 #[.agg #[.int .i64 f, .int .i64 b]] w fun e w' => e = .returned (.int .i64 (manyI f b)) ∧ Below w.heap.size w w' := by
  by_cases ho : okB f b = true
  · obtain ⟨b0, b8, f0, f1, hm⟩ := (okB_iff f b).1 ho
    clear hm
    have hr : manyI f b = sz b := by simp [manyI, ho]
    rw [hr]
    clear hr
    go_enter Try.func52, Try.ntmps52
    go_wp2_with fail
    refine (iok_is ho _).mono ?_
    rintro e w1 ⟨rfl, hb1⟩
    have k0 := cell_later (a := ⟨w.heap.size, 0, none⟩) (v := .int .i64 f) hb1 (by simp)
    have k1 := cell_later (a := ⟨w.heap.size, 1, none⟩) (v := .int .i64 b) hb1 (by simp)
    go_wp2_with fail
    refine (isize_any f b _ b0 b8).mono ?_
    rintro e w2 ⟨rfl, hb2⟩
    go_wp2
    go_ret
    exact ⟨rfl, next (below_box hb1 (by simp)) hb2⟩
  · have ho' : okB f b = false := by simpa using ho
    have hr : manyI f b = 0 := by simp [manyI, ho]
    rw [hr]
    clear hr ho
    go_enter Try.func52, Try.ntmps52
    go_wp2_with fail
    refine (iok_is ho' _).mono ?_
    rintro e w1 ⟨rfl, hb1⟩
    go_wp2
    go_ret
    exact ⟨rfl, below_box hb1 (by simp)⟩

end Go.Proofs.Ytmbcfdlemapppaa
