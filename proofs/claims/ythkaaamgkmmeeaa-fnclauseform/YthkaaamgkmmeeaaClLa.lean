/-
  The law that a clause says what it must: the walk.
-/
import Derived.Test.YthkaaamgkmmeeaaClDs
namespace Go.Proofs.Ythkaaamgkmmeeaa
open Go.RowKit
set_option linter.unusedSimpArgs false
set_option linter.unusedVariables false

set_option maxRecDepth 100000 in
set_option maxHeartbeats 2000000 in
theorem lawClauseForm (a0 : Option Addr) (len0 cap0 : Nat) (zs0 : List Int) (w : World) (h0 : IsRow w a0 len0 cap0 zs0) :
    Calls Try.prog 3 #[.slice a0 len0 cap0] w fun e w' => e = .returned (.bool true) ∧ Below w.heap.size w w' := by
  have H0 := Lib.hid h0
  clear h0
  by_cases hl0 : (1048576 : Int) < (len0 : Int)
  · go_enter Try.func3, Try.ntmps3
    go_wp2_with fail
    go_ret
    exact ⟨rfl, Below.refl _ _⟩
  go_enter Try.func3, Try.ntmps3
  go_wp2_with fail
  refine (dClauseOk_any a0 len0 cap0 zs0 _ H0.out).mono ?_
  rintro en w1 ⟨c, rfl, b1⟩
  have HB1 := Lib.hid (b1.alloc b1.size (.cells (clA c) 26))
  have HA1 := Lib.hid (AtL.new w1 c 26)
  clear b1
  go_wp2_with fail
  change Calls Try.prog _ _ (w1.alloc (.cells (clA c) 26)) _
  generalize w1.alloc (.cells (clA c) 26) = w2 at *
  generalize hRR : w1.heap.size = R at *
  cases hu : clOk c with
  | false =>
    refine (iclok_is c hu _).mono ?_
    rintro en w3 ⟨rfl, b3⟩
    have HB3 := Lib.hid (next HB1.out b3)
    have HA3 := Lib.hid (HA1.out.below b3)
    clear b3 HB1 HA1
    obtain ⟨⟨q0, q1, q2, q3, q4, q5, q6, q7⟩, _⟩ := HA3.out.z8
    go_wp2_with fail
    clear q0 q1 q2 q3 q4 q5 q6 q7
    refine (sclok_is c hu _).mono ?_
    rintro en w4 ⟨rfl, b4⟩
    have HB4 := Lib.hid (next HB3.out b4)
    have HA4 := Lib.hid (HA3.out.below b4)
    clear b4 HB3 HA3
    obtain ⟨⟨q0, q1, q2, q3, q4, q5, q6, q7⟩, _⟩ := HA4.out.z8
    go_wp2_with fail
    clear q0 q1 q2 q3 q4 q5 q6 q7
    refine (sclok_is c hu _).mono ?_
    rintro en w5 ⟨rfl, b5⟩
    have HB5 := Lib.hid (next HB4.out b5)
    clear b5 HB4 HA4
    go_wp2_with fail
    go_ret
    exact ⟨rfl, HB5.out⟩
  | true =>
    have hG := clOk_good hu
    have hA : clOk ⟨6, c.n, c.f, c.b, c.x, c.l, c.m, c.k⟩ = false := by simp [clOk, condOk]
    have hB : clOk ⟨c.i, c.n, c.f, c.b, c.x, 10, c.m, c.k⟩ = false := by simp [clOk, doOk]
    have HAA := Lib.hid hA
    have HBB := Lib.hid hB
    have HG := Lib.hid hG
    clear hA hB hG
    refine (iclok_is c hu _).mono ?_
    rintro en w3 ⟨rfl, b3⟩
    have HB3 := Lib.hid (next HB1.out b3)
    have HA3 := Lib.hid (HA1.out.below b3)
    clear b3 HB1 HA1
    obtain ⟨⟨q0, q1, q2, q3, q4, q5, q6, q7⟩, _⟩ := HA3.out.z8
    go_wp2_with fail
    clear q0 q1 q2 q3 q4 q5 q6 q7
    refine (sclok_is c hu _).mono ?_
    rintro en w4 ⟨rfl, b4⟩
    have HB4 := Lib.hid (next HB3.out b4)
    have HA4 := Lib.hid (HA3.out.below b4)
    clear b4 HB3 HA3
    have lt4 : R < w4.heap.size := HA4.out.lt (by show 0 < 8; omega)
    have ne4 : ¬ R = w4.heap.size := by omega
    have ne5 : ¬ R = w4.heap.size + 1 := by omega
    have HA6 := Lib.hid ((HA4.out.alloc (.cells #[.int .i64 6, .int .i64 c.n, .int .i64 c.f, .int .i64 c.b, .bool c.x, .int .i64 c.l, .int .i64 c.m, .int .i64 c.k] 26)).alloc (.cells #[.int .i64 c.i, .int .i64 c.n, .int .i64 c.f, .int .i64 c.b, .bool c.x, .int .i64 10, .int .i64 c.m, .int .i64 c.k] 26))
    have hX6 := (AtL.new w4 ⟨6, c.n, c.f, c.b, c.x, c.l, c.m, c.k⟩ 26).alloc (.cells #[.int .i64 c.i, .int .i64 c.n, .int .i64 c.f, .int .i64 c.b, .bool c.x, .int .i64 10, .int .i64 c.m, .int .i64 c.k] 26)
    have hY6 := AtL.new (w4.alloc (.cells #[.int .i64 6, .int .i64 c.n, .int .i64 c.f, .int .i64 c.b, .bool c.x, .int .i64 c.l, .int .i64 c.m, .int .i64 c.k] 26)) ⟨c.i, c.n, c.f, c.b, c.x, 10, c.m, c.k⟩ 26
    simp only [World.size_alloc] at hY6
    have HX6 := Lib.hid (And.intro hX6 hY6)
    have HB6 := Lib.hid ((HB4.out.alloc HB4.out.size (.cells #[.int .i64 6, .int .i64 c.n, .int .i64 c.f, .int .i64 c.b, .bool c.x, .int .i64 c.l, .int .i64 c.m, .int .i64 c.k] 26)).alloc (by have := HB4.out.size; simp; omega) (.cells #[.int .i64 c.i, .int .i64 c.n, .int .i64 c.f, .int .i64 c.b, .bool c.x, .int .i64 10, .int .i64 c.m, .int .i64 c.k] 26))
    clear hX6 hY6
    obtain ⟨⟨q0, q1, q2, q3, q4, q5, q6, q7⟩, _⟩ := HA4.out.z8
    go_wp2_with fail
    clear q0 q1 q2 q3 q4 q5 q6 q7 HA4 HB4
    generalize (w4.alloc (.cells #[.int .i64 6, .int .i64 c.n, .int .i64 c.f, .int .i64 c.b, .bool c.x, .int .i64 c.l, .int .i64 c.m, .int .i64 c.k] 26)).alloc (.cells #[.int .i64 c.i, .int .i64 c.n, .int .i64 c.f, .int .i64 c.b, .bool c.x, .int .i64 10, .int .i64 c.m, .int .i64 c.k] 26) = w6 at *
    refine (iclok_is ⟨6, c.n, c.f, c.b, c.x, c.l, c.m, c.k⟩ HAA.out _).mono ?_
    rintro en w7 ⟨rfl, b7⟩
    have HB7 := Lib.hid (next HB6.out b7)
    have HA7 := Lib.hid (HA6.out.below b7)
    have HY7 : Hid (AtL w7 (w4.heap.size + 1) 0 [.int .i64 c.i, .int .i64 c.n, .int .i64 c.f, .int .i64 c.b, .bool c.x, .int .i64 10, .int .i64 c.m, .int .i64 c.k]) := Lib.hid (AtL.below HX6.out.2 b7)
    clear b7 HB6 HA6 HX6
    obtain ⟨⟨q0, q1, q2, q3, q4, q5, q6, q7⟩, _⟩ := HY7.out.z8
    go_wp2_with fail
    clear q0 q1 q2 q3 q4 q5 q6 q7 HY7
    refine (iclok_is ⟨c.i, c.n, c.f, c.b, c.x, 10, c.m, c.k⟩ HBB.out _).mono ?_
    rintro en w8 ⟨rfl, b8⟩
    have HB8 := Lib.hid (next HB7.out b8)
    have HA8 := Lib.hid (HA7.out.below b8)
    clear b8 HB7 HA7
    have HQ := eqlCR c.f c.b 0 0
    by_cases hi : c.i = 2
    · have e2 : (c.i == 2) = true := by simp [hi]
      have e3 : (c.i != 2) = false := by simp [hi]
      have en : (c.n == 0) = true := by simp [HG.out.num hi]
      clear hi
      obtain ⟨⟨q0, q1, q2, q3, q4, q5, q6, q7⟩, _⟩ := HA8.out.z8
      go_wp2_with fail
      go_ret
      exact ⟨rfl, HB8.out⟩
    · have e2 : (c.i == 2) = false := by simp [hi]
      have e3 : (c.i != 2) = true := by simp [hi]
      have hd : decide (c.f = 0 ∧ c.b = 0) = true := decide_eq_true (HG.out.range hi)
      simp only [hd] at HQ
      clear hi hd
      obtain ⟨⟨q0, q1, q2, q3, q4, q5, q6, q7⟩, _⟩ := HA8.out.z8
      go_wp2_with fail
      go_ret
      exact ⟨rfl, HB8.out⟩
end Go.Proofs.Ythkaaamgkmmeeaa
