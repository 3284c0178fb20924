/-
  Which range is in which; how many addresses one has; which stands ahead.
-/
import Derived.Test.YtglmoacgaacmeaaWalksC
namespace Go.Proofs.Ytglmoacgaacmeaa
open Go.RowKit
set_option linter.unusedSimpArgs false

theorem alloc2 (w : World) (o o' : Obj) : Below w.heap.size w ((w.alloc o).alloc o') := ((Below.refl _ _).alloc (Nat.le_refl _) _).alloc (by simp) _

set_option maxHeartbeats 400000 in
theorem shas_any (f b a : Int) (w : World) :
    Calls Try.prog 23 #[.agg #[.int .i64 f, .int .i64 b], .int .i64 a] w fun e w' => e = .returned (.bool (hasB f b a)) ∧ Below w.heap.size w w' := by
  by_cases ho : okB f b = true
  · obtain ⟨b0, b8, f0, f1, hm⟩ := (okB_iff f b).1 ho
    clear hm
    by_cases ha : 0 ≤ a ∧ a ≤ 255
    · obtain ⟨a0, a1⟩ := ha
      have HD := Lib.hid (hasB_div ho a0 a1)
      have hi := inR_yes a0 a1
      go_enter Try.func23, Try.ntmps23
      go_wp2_with fail
      refine (sok_is ho _).mono ?_
      rintro e w1 ⟨rfl, hb1⟩
      have c0 := cell_later (a := ⟨w.heap.size, 0, none⟩) (v := .int .i64 f) hb1 (by simp)
      have c1 := cell_later (a := ⟨w.heap.size, 1, none⟩) (v := .int .i64 b) hb1 (by simp)
      go_wp2_with fail
      refine (in_is hi _).mono ?_
      rintro e w2 ⟨rfl, rfl⟩
      go_wp2_with fail
      refine (lhas_any f b a _ b0 b8 f0 a0 f1 a1).mono ?_
      rintro e w3 ⟨rfl, hb3⟩
      go_wp2
      go_ret
      exact ⟨ret_bool HD.out, next (below_box hb1 (by simp)) hb3⟩
    · have hr : hasB f b a = false := by
        by_cases h : hasB f b a = true
        · exact absurd (hasB_addr h) ha
        · simpa using h
      have hi := inR_no ha
      rw [hr]
      clear hr ha
      go_enter Try.func23, Try.ntmps23
      go_wp2_with fail
      refine (sok_is ho _).mono ?_
      rintro e w1 ⟨rfl, hb1⟩
      go_wp2_with fail
      refine (in_is hi _).mono ?_
      rintro e w2 ⟨rfl, rfl⟩
      go_wp2
      go_ret
      exact ⟨rfl, below_box hb1 (by simp)⟩
  · have ho' : okB f b = false := by simpa using ho
    rw [hasB_no (by simp [ho])]
    clear ho
    go_enter Try.func23, Try.ntmps23
    go_wp2_with fail
    refine (sok_is ho' _).mono ?_
    rintro e w1 ⟨rfl, hb1⟩
    go_wp2
    go_ret
    exact ⟨rfl, below_box hb1 (by simp)⟩


set_option maxHeartbeats 400000 in
theorem lin_any (f b g c : Int) (w : World) (ho : okB f b = true) (hg : okB g c = true) :
    Calls Try.prog 46 #[.agg #[.int .i64 f, .int .i64 b], .agg #[.int .i64 g, .int .i64 c]] w fun e w' => e = .returned (.bool (inB f b g c)) ∧ Below w.heap.size w w' := by
  obtain ⟨b0, b8, f0, f1, hm⟩ := (okB_iff f b).1 ho
  obtain ⟨c0, c8, g0, g1, hn⟩ := (okB_iff g c).1 hg
  clear hm hn
  by_cases hbc : c ≤ b
  · have hin : inB f b g c = hasB g c f := by rw [Bool.eq_iff_iff, inB_iff]; simp [ho, hbc]
    have HD := Lib.hid (hasB_div hg f0 f1)
    rw [hin]
    clear hin
    go_enter Try.func46, Try.ntmps46
    go_wp2_with fail
    refine (lhas_any g c f _ c0 c8 g0 f0 g1 f1).mono ?_
    rintro e w1 ⟨rfl, hb1⟩
    go_wp2
    go_ret
    exact ⟨ret_bool HD.out, next (alloc2 _ _ _) hb1⟩
  · rw [inB_no (by simp [hbc])]
    go_enter Try.func46, Try.ntmps46
    go_wp2
    go_ret
    exact ⟨rfl, alloc2 _ _ _⟩

set_option maxHeartbeats 400000 in
theorem sin_any (f b g c : Int) (w : World) :
    Calls Try.prog 25 #[.agg #[.int .i64 f, .int .i64 b], .agg #[.int .i64 g, .int .i64 c]] w fun e w' => e = .returned (.bool (inB f b g c)) ∧ Below w.heap.size w w' := by
  by_cases ho : okB f b = true
  · by_cases hg : okB g c = true
    · go_enter Try.func25, Try.ntmps25
      go_wp2_with fail
      refine (sok_is ho _).mono ?_
      rintro e w1 ⟨rfl, hb1⟩
      have k0 := cell_later (a := ⟨w.heap.size, 0, none⟩) (v := .int .i64 f) hb1 (by simp)
      have k1 := cell_later (a := ⟨w.heap.size, 1, none⟩) (v := .int .i64 b) hb1 (by simp)
      have k2 := cell_later (a := ⟨w.heap.size + 1, 0, none⟩) (v := .int .i64 g) hb1 (by simp)
      have k3 := cell_later (a := ⟨w.heap.size + 1, 1, none⟩) (v := .int .i64 c) hb1 (by simp)
      go_wp2_with fail
      refine (sok_is hg _).mono ?_
      rintro e w2 ⟨rfl, hb2⟩
      replace k0 := cell_later hb2 k0
      replace k1 := cell_later hb2 k1
      replace k2 := cell_later hb2 k2
      replace k3 := cell_later hb2 k3
      go_wp2_with fail
      refine (lin_any f b g c _ ho hg).mono ?_
      rintro e w3 ⟨rfl, hb3⟩
      go_wp2
      go_ret
      exact ⟨rfl, next (next (next (alloc2 _ _ _) hb1) hb2) hb3⟩
    · have hg' : okB g c = false := by simpa using hg
      have hr : inB f b g c = false := inB_no (fun h => hg ((hasB_iff g c f).1 h.2.1).1)
      rw [hr]
      clear hr hg
      go_enter Try.func25, Try.ntmps25
      go_wp2_with fail
      refine (sok_is ho _).mono ?_
      rintro e w1 ⟨rfl, hb1⟩
      have k0 := cell_later (a := ⟨w.heap.size, 0, none⟩) (v := .int .i64 f) hb1 (by simp)
      have k1 := cell_later (a := ⟨w.heap.size, 1, none⟩) (v := .int .i64 b) hb1 (by simp)
      have k2 := cell_later (a := ⟨w.heap.size + 1, 0, none⟩) (v := .int .i64 g) hb1 (by simp)
      have k3 := cell_later (a := ⟨w.heap.size + 1, 1, none⟩) (v := .int .i64 c) hb1 (by simp)
      go_wp2_with fail
      refine (sok_is hg' _).mono ?_
      rintro e w2 ⟨rfl, hb2⟩
      go_wp2
      go_ret
      exact ⟨rfl, next (next (alloc2 _ _ _) hb1) hb2⟩
  · have ho' : okB f b = false := by simpa using ho
    rw [inB_no (by simp [ho])]
    clear ho
    go_enter Try.func25, Try.ntmps25
    go_wp2_with fail
    refine (sok_is ho' _).mono ?_
    rintro e w1 ⟨rfl, hb1⟩
    go_wp2
    go_ret
    exact ⟨rfl, next (alloc2 _ _ _) hb1⟩

set_option maxHeartbeats 400000 in
theorem rin_any (f b g c : Int) (w : World) :
    Calls Try.prog 26 #[.agg #[.int .i64 f, .int .i64 b], .agg #[.int .i64 g, .int .i64 c]] w fun e w' => e = .returned (.bool (inB f b g c)) ∧ Below w.heap.size w w' := by
  by_cases ho : okB f b = true
  · obtain ⟨b0, b8, f0, f1, hm⟩ := (okB_iff f b).1 ho
    clear hm
    have f2 : f ≤ 9223372036854775807 := by omega
    by_cases hg : hasB g c f = true
    · have hr : inB f b g c = decide (c ≤ b) := by rw [Bool.eq_iff_iff, inB_iff]; simp [ho, hg]
      rw [hr]
      clear hr
      go_enter Try.func26, Try.ntmps26
      go_wp2_with fail
      refine (iok_is ho _).mono ?_
      rintro e w1 ⟨rfl, hb1⟩
      have k0 := cell_later (a := ⟨w.heap.size, 0, none⟩) (v := .int .i64 f) hb1 (by simp)
      have k1 := cell_later (a := ⟨w.heap.size, 1, none⟩) (v := .int .i64 b) hb1 (by simp)
      have k2 := cell_later (a := ⟨w.heap.size + 1, 0, none⟩) (v := .int .i64 g) hb1 (by simp)
      have k3 := cell_later (a := ⟨w.heap.size + 1, 1, none⟩) (v := .int .i64 c) hb1 (by simp)
      go_wp2_with fail
      refine (ihas_is hg _ f2).mono ?_
      rintro e w2 ⟨rfl, hb2⟩
      replace k0 := cell_later hb2 k0
      replace k1 := cell_later hb2 k1
      replace k2 := cell_later hb2 k2
      replace k3 := cell_later hb2 k3
      go_wp2
      go_ret
      exact ⟨rfl, next (next (alloc2 _ _ _) hb1) hb2⟩
    · have hg' : hasB g c f = false := by simpa using hg
      rw [inB_no (by simp [hg])]
      clear hg
      go_enter Try.func26, Try.ntmps26
      go_wp2_with fail
      refine (iok_is ho _).mono ?_
      rintro e w1 ⟨rfl, hb1⟩
      have k0 := cell_later (a := ⟨w.heap.size, 0, none⟩) (v := .int .i64 f) hb1 (by simp)
      have k1 := cell_later (a := ⟨w.heap.size, 1, none⟩) (v := .int .i64 b) hb1 (by simp)
      have k2 := cell_later (a := ⟨w.heap.size + 1, 0, none⟩) (v := .int .i64 g) hb1 (by simp)
      have k3 := cell_later (a := ⟨w.heap.size + 1, 1, none⟩) (v := .int .i64 c) hb1 (by simp)
      go_wp2_with fail
      refine (ihas_is hg' _ f2).mono ?_
      rintro e w2 ⟨rfl, hb2⟩
      go_wp2
      go_ret
      exact ⟨rfl, next (next (alloc2 _ _ _) hb1) hb2⟩
  · have ho' : okB f b = false := by simpa using ho
    rw [inB_no (by simp [ho])]
    clear ho
    go_enter Try.func26, Try.ntmps26
    go_wp2_with fail
    refine (iok_is ho' _).mono ?_
    rintro e w1 ⟨rfl, hb1⟩
    go_wp2
    go_ret
    exact ⟨rfl, next (alloc2 _ _ _) hb1⟩

/-- how many addresses -/
def manyI (f b : Int) : Int := if okB f b = true then sz b else 0

set_option maxHeartbeats 400000 in
theorem smany_any (f b : Int) (w : World) :
    Calls Try.prog 30 #[.agg #[.int .i64 f, .int .i64 b]] w fun e w' => e = .returned (.int .i64 (manyI f b)) ∧ Below w.heap.size w w' := by
  by_cases ho : okB f b = true
  · obtain ⟨b0, b8, f0, f1, hm⟩ := (okB_iff f b).1 ho
    clear hm
    have hr : manyI f b = sz b := by simp [manyI, ho]
    rw [hr]
    clear hr
    go_enter Try.func30, Try.ntmps30
    go_wp2_with fail
    refine (sok_is ho _).mono ?_
    rintro e w1 ⟨rfl, hb1⟩
    have k1 := cell_later (a := ⟨w.heap.size, 1, none⟩) (v := .int .i64 b) hb1 (by simp)
    go_wp2_with fail
    refine (size_any b _ b0 b8).mono ?_
    rintro e w2 ⟨rfl, rfl⟩
    go_wp2
    go_ret
    exact ⟨rfl, below_box hb1 (by simp)⟩
  · have ho' : okB f b = false := by simpa using ho
    have hr : manyI f b = 0 := by simp [manyI, ho]
    rw [hr]
    clear hr ho
    go_enter Try.func30, Try.ntmps30
    go_wp2_with fail
    refine (sok_is ho' _).mono ?_
    rintro e w1 ⟨rfl, hb1⟩
    go_wp2
    go_ret
    exact ⟨rfl, below_box hb1 (by simp)⟩

set_option maxHeartbeats 400000 in
theorem rmany_any (f b : Int) (w : World) :
    Calls Try.prog 31 #[.agg #[.int .i64 f, .int .i64 b]] w fun e w' => e = .returned (.int .i64 (manyI f b)) ∧ Below w.heap.size w w' := by
  by_cases ho : okB f b = true
  · obtain ⟨b0, b8, f0, f1, hm⟩ := (okB_iff f b).1 ho
    clear hm
    have hr : manyI f b = sz b := by simp [manyI, ho]
    rw [hr]
    clear hr
    go_enter Try.func31, Try.ntmps31
    go_wp2_with fail
    refine (iok_is ho _).mono ?_
    rintro e w1 ⟨rfl, hb1⟩
    have k0 := cell_later (a := ⟨w.heap.size, 0, none⟩) (v := .int .i64 f) hb1 (by simp)
    have k1 := cell_later (a := ⟨w.heap.size, 1, none⟩) (v := .int .i64 b) hb1 (by simp)
    go_wp2_with fail
    refine (isize_any f b _ b0 b8).mono ?_
    rintro e w2 ⟨rfl, hb2⟩
    go_wp2
    go_ret
    exact ⟨rfl, next (below_box hb1 (by simp)) hb2⟩
  · have ho' : okB f b = false := by simpa using ho
    have hr : manyI f b = 0 := by simp [manyI, ho]
    rw [hr]
    clear hr ho
    go_enter Try.func31, Try.ntmps31
    go_wp2_with fail
    refine (iok_is ho' _).mono ?_
    rintro e w1 ⟨rfl, hb1⟩
    go_wp2
    go_ret
    exact ⟨rfl, below_box hb1 (by simp)⟩

end Go.Proofs.Ytglmoacgaacmeaa
