/-
  Which range is in which; how many addresses one has; which stands ahead.
-/
import Derived.Test.YthkaaamgkmmeeaaDoorWalksC
namespace Go.Proofs.YthkaaamgkmmeeaaDoor
open Go.RowKit
set_option linter.unusedSimpArgs false

theorem alloc2 (w : World) (o o' : Obj) : Below w.heap.size w ((w.alloc o).alloc o') := ((Below.refl _ _).alloc (Nat.le_refl _) _).alloc (by simp) _

set_option maxHeartbeats 400000 in
theorem lin_any (f b g c : Int) (w : World) (ho : okB f b = true) (hg : okB g c = true) :
    Calls Tryd.prog 79 #[.agg #[.int .i64 f, .int .i64 b], .agg #[.int .i64 g, .int .i64 c]] w fun e w' => e = .returned (.bool (inB f b g c)) ∧ Below w.heap.size w w' := by
  obtain ⟨b0, b8, f0, f1, hm⟩ := (okB_iff f b).1 ho
  obtain ⟨c0, c8, g0, g1, hn⟩ := (okB_iff g c).1 hg
  clear hm hn
  by_cases hbc : c ≤ b
  · have hin : inB f b g c = hasB g c f := by rw [Bool.eq_iff_iff, inB_iff]; simp [ho, hbc]
    have HD := Lib.hid (hasB_div hg f0 f1)
    rw [hin]
    clear hin
    go_enter Tryd.func79, Tryd.ntmps79
    go_wp2_with fail
    refine (lhas_any g c f _ c0 c8 g0 f0 g1 f1).mono ?_
    rintro e w1 ⟨rfl, hb1⟩
    go_wp2
    go_ret
    exact ⟨ret_bool HD.out, next (alloc2 _ _ _) hb1⟩
  · rw [inB_no (by simp [hbc])]
    go_enter Tryd.func79, Tryd.ntmps79
    go_wp2
    go_ret
    exact ⟨rfl, alloc2 _ _ _⟩

set_option maxHeartbeats 400000 in
theorem rin_any (f b g c : Int) (w : World) :
    Calls Tryd.prog 17 #[.agg #[.int .i64 f, .int .i64 b], .agg #[.int .i64 g, .int .i64 c]] w fun e w' => e = .returned (.bool (inB f b g c)) ∧ Below w.heap.size w w' := by
  by_cases ho : okB f b = true
  · obtain ⟨b0, b8, f0, f1, hm⟩ := (okB_iff f b).1 ho
    clear hm
    have f2 : f ≤ 9223372036854775807 := by omega
    by_cases hg : hasB g c f = true
    · have hr : inB f b g c = decide (c ≤ b) := by rw [Bool.eq_iff_iff, inB_iff]; simp [ho, hg]
      rw [hr]
      clear hr
      go_enter Tryd.func17, Tryd.ntmps17
      go_wp2_with fail
      refine (iok_is ho _).mono ?_
      rintro e w1 ⟨rfl, hb1⟩
      have k0 := cell_later (a := ⟨w.heap.size, 0, none⟩) (v := .int .i64 f) hb1 (by simp)
      have k1 := cell_later (a := ⟨w.heap.size, 1, none⟩) (v := .int .i64 b) hb1 (by simp)
      have k2 := cell_later (a := ⟨w.heap.size + 1, 0, none⟩) (v := .int .i64 g) hb1 (by simp)
      have k3 := cell_later (a := ⟨w.heap.size + 1, 1, none⟩) (v := .int .i64 c) hb1 (by simp)
      go_wp2_with fail
      refine (ihas_is hg _ f2).mono ?_
      rintro e w2 ⟨rfl, hb2⟩
      replace k0 := cell_later hb2 k0
      replace k1 := cell_later hb2 k1
      replace k2 := cell_later hb2 k2
      replace k3 := cell_later hb2 k3
      go_wp2
      go_ret
      exact ⟨rfl, next (next (alloc2 _ _ _) hb1) hb2⟩
    · have hg' : hasB g c f = false := by simpa using hg
      rw [inB_no (by simp [hg])]
      clear hg
      go_enter Tryd.func17, Tryd.ntmps17
      go_wp2_with fail
      refine (iok_is ho _).mono ?_
      rintro e w1 ⟨rfl, hb1⟩
      have k0 := cell_later (a := ⟨w.heap.size, 0, none⟩) (v := .int .i64 f) hb1 (by simp)
      have k1 := cell_later (a := ⟨w.heap.size, 1, none⟩) (v := .int .i64 b) hb1 (by simp)
      have k2 := cell_later (a := ⟨w.heap.size + 1, 0, none⟩) (v := .int .i64 g) hb1 (by simp)
      have k3 := cell_later (a := ⟨w.heap.size + 1, 1, none⟩) (v := .int .i64 c) hb1 (by simp)
      go_wp2_with fail
      refine (ihas_is hg' _ f2).mono ?_
      rintro e w2 ⟨rfl, hb2⟩
      go_wp2
      go_ret
      exact ⟨rfl, next (next (alloc2 _ _ _) hb1) hb2⟩
  · have ho' : okB f b = false := by simpa using ho
    rw [inB_no (by simp [ho])]
    clear ho
    go_enter Tryd.func17, Tryd.ntmps17
    go_wp2_with fail
    refine (iok_is ho' _).mono ?_
    rintro e w1 ⟨rfl, hb1⟩
    go_wp2
    go_ret
    exact ⟨rfl, next (alloc2 _ _ _) hb1⟩

/-- how many addresses -/
def manyI (f b : Int) : Int := if okB f b = true then sz b else 0

end Go.Proofs.YthkaaamgkmmeeaaDoor
