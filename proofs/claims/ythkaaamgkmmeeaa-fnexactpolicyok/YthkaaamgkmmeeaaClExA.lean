/-
  The exact laws of ClauseOk and PolicyOk: the walks.
-/
import Derived.Test.YthkaaamgkmmeeaaClTs
namespace Go.Proofs.Ythkaaamgkmmeeaa
open Go.RowKit
set_option linter.unusedSimpArgs false
set_option linter.unusedVariables false

set_option maxHeartbeats 1000000 in
theorem exactClauseOk_walk (c : CL) (w : World) :
    Calls Try.prog 5 #[clV c] w fun e w' => e = .returned (.bool true) ∧ Below w.heap.size w w' := by
  have HB := Lib.hid ((Below.refl w.heap.size w).alloc (Nat.le_refl _) (.cells (clA c) 36))
  have HA := Lib.hid (AtL.new w c 36)
  obtain ⟨u, hu⟩ : ∃ u, clOk c = u := ⟨_, rfl⟩
  have HU := Lib.hid hu
  have huu : (u != u) = false := by simp
  clear hu
  go_enter Try.func5, Try.ntmps5
  go_wp2_with fail
  refine (tocl_is c _).mono ?_
  rintro e w1 ⟨rfl, b1⟩
  have HB1 := Lib.hid (next HB.out b1)
  have HA1 := Lib.hid (HA.out.below b1)
  clear b1 HB HA
  go_wp2_with fail
  refine (sclok_is c HU.out _).mono ?_
  rintro e w2 ⟨rfl, b2⟩
  have HB2 := Lib.hid (next HB1.out b2)
  have HA2 := Lib.hid (HA1.out.below b2)
  clear b2 HB1 HA1
  obtain ⟨⟨q0, q1, q2, q3, q4, q5, q6, q7⟩, _⟩ := HA2.out.z8
  go_wp2_with fail
  clear q0 q1 q2 q3 q4 q5 q6 q7
  refine (tocl_is c _).mono ?_
  rintro e w3 ⟨rfl, b3⟩
  have HB3 := Lib.hid (next HB2.out b3)
  clear b3 HB2 HA2
  go_wp2_with fail
  refine (iclok_is c HU.out _).mono ?_
  rintro e w4 ⟨rfl, b4⟩
  have HB4 := Lib.hid (next HB3.out b4)
  clear b4 HB3
  go_wp2_with fail
  go_ret
  exact ⟨rfl, HB4.out⟩

set_option maxHeartbeats 1000000 in
theorem exactPolicyOk_walk (a : Option Addr) (n cap : Nat) (L : List CL) (w : World) (hn : n = L.length) (hA : CsA w a L) (hl : n ≤ 9223372036854775807) :
    Calls Try.prog 6 #[.slice a n cap] w fun e w' => e = .returned (.bool true) ∧ Below w.heap.size w w' := by
  subst hn
  have HA := Lib.hid hA
  clear hA
  by_cases hbig : (1048576 : Int) < L.length
  · have hz : szC 1048576 L.length = -1 := by rw [szC, if_pos hbig]
    go_enter Try.func6, Try.ntmps6
    go_wp2_with fail
    refine (szcl_is hz (by omega) (by omega) hl a cap _).mono ?_
    rintro e w1 ⟨rfl, rfl⟩
    go_wp2_with fail
    go_ret
    exact ⟨rfl, Below.refl _ _⟩
  have hz : szC 1048576 L.length = 1048576 - (L.length : Int) := by rw [szC, if_neg hbig]
  have hz0 : ¬ (1048576 : Int) - (L.length : Int) < 0 := by omega
  obtain ⟨u, hu⟩ : ∃ u, polOk L = u := ⟨_, rfl⟩
  have HU := Lib.hid hu
  have huu : (u != u) = false := by simp
  clear hu
  go_enter Try.func6, Try.ntmps6
  go_wp2_with fail
  refine (szcl_is hz (by omega) (by omega) hl a cap _).mono ?_
  rintro e w1 ⟨rfl, rfl⟩
  go_wp2_with fail
  refine (tocls_any L a cap _ _ rfl HA.out (by omega)).mono ?_
  rintro e w1 ⟨v1, rfl, o1, b1⟩
  obtain ⟨a1, c1, rfl, _, t1⟩ := OwnC.tab o1
  have HB1 := Lib.hid b1
  have HA1 := Lib.hid (HA.out.below b1)
  have HT1 := Lib.hid t1
  clear b1 o1 t1 HA
  go_wp2_with fail
  refine (spolok_is L HU.out a1 c1 _ _ rfl HT1.out (by omega)).mono ?_
  rintro e w2 ⟨rfl, b2⟩
  have HB2 := Lib.hid (next HB1.out b2)
  have HA2 := Lib.hid (HA1.out.below b2)
  clear b2 HB1 HA1 HT1
  go_wp2_with fail
  refine (tocls_any L a cap _ _ rfl HA2.out (by omega)).mono ?_
  rintro e w3 ⟨v3, rfl, o3, b3⟩
  obtain ⟨a3, c3, rfl, _, t3⟩ := OwnC.tab o3
  have HB3 := Lib.hid (next HB2.out b3)
  have HA3 := Lib.hid (HA2.out.below b3)
  have HT3 := Lib.hid t3
  clear b3 o3 t3 HA2 HB2
  go_wp2_with fail
  refine (ipolok_is L HU.out a3 c3 _ _ rfl HT3.out (by omega)).mono ?_
  rintro e w4 ⟨rfl, b4⟩
  have HB4 := Lib.hid (next HB3.out b4)
  have HA4 := Lib.hid (HA3.out.below b4)
  have HT4 := Lib.hid (HT3.out.below b4)
  clear b4 HB3 HA3 HT3
  go_wp2_with fail
  refine (tocls_any L a cap _ _ rfl HA4.out (by omega)).mono ?_
  rintro e w5 ⟨v5, rfl, o5, b5⟩
  obtain ⟨a5, c5, rfl, _, t5⟩ := OwnC.tab o5
  have HB5 := Lib.hid (next HB4.out b5)
  have HT5 := Lib.hid (And.intro (HT4.out.below b5) t5)
  clear b5 o5 t5 HA4 HB4 HT4
  go_wp2_with fail
  refine (eqcls_is L a3 a5 c3 c5 _ _ _ rfl rfl HT5.out.1 HT5.out.2 (by omega)).mono ?_
  rintro e w6 ⟨rfl, b6⟩
  have HB6 := Lib.hid (next HB5.out b6)
  clear b6
  go_wp2_with fail
  go_ret
  exact ⟨rfl, HB6.out⟩
end Go.Proofs.Ythkaaamgkmmeeaa
