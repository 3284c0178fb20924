/-
  Clauses and policies by the document's model: which are valid.
-/
import Derived.Test.YtioppkalehnoaaaGreatDoorClMem
import Derived.Test.YtioppkalehnoaaaGreatDoorJ2
namespace Go.Proofs.YtioppkalehnoaaaGreatDoor
open Go.RowKit
set_option linter.unusedSimpArgs false
set_option linter.unusedVariables false

theorem clOk_eq (c : CL) : clOk c = (condOk c && (inR c.l (-1) 9 && inR c.m 0 9 && inR c.k 0 9)) := rfl
theorem eqlCR (g c f b : Int) (w : World) : (binOp .eql 30 (.agg #[.int .i64 g, .int .i64 c]) (.agg #[.int .i64 f, .int .i64 b])).run Tryz.prog w = .ok (.bool (decide (g = f ∧ c = b))) w := by
  by_cases h1 : g = f
  · subst h1
    by_cases h2 : c = b
    · subst h2
      go_simp
    · go_simp
  · go_simp
set_option maxHeartbeats 2000000 in
theorem sclok_is (c : CL) {x : Bool} (k : clOk c = x) (w : World) :
    Calls Tryz.prog 48 #[clV c] w fun e w' => e = .returned (.bool x) ∧ Below w.heap.size w w' := by
  have KX := Lib.hid k
  have HB := Lib.hid ((Below.refl w.heap.size w).alloc (Nat.le_refl _) (.cells (clA c) 59))
  clear k
  cases h1 : inR c.l (-1) 9 with
  | false =>
    have HX := Lib.hid (show false = x by rw [← KX.out]; simp [clOk_eq, condOk, noR, h1])
    go_enter Tryz.func48, Tryz.ntmps48
    go_wp2_with fail
    refine (in_is h1 _).mono ?_
    rintro e w1 ⟨rfl, rfl⟩
    go_wp2_with fail
    go_ret
    exact ⟨ret_bool HX.out, HB.out⟩
  | true =>
    cases h2 : inR c.m 0 9 with
    | false =>
      have HX := Lib.hid (show false = x by rw [← KX.out]; simp [clOk_eq, condOk, noR, h1, h2])
      go_enter Tryz.func48, Tryz.ntmps48
      go_wp2_with fail
      refine (in_is h1 _).mono ?_
      rintro e w1 ⟨rfl, rfl⟩
      go_wp2_with fail
      refine (in_is h2 _).mono ?_
      rintro e w1 ⟨rfl, rfl⟩
      go_wp2_with fail
      go_ret
      exact ⟨ret_bool HX.out, HB.out⟩
    | true =>
      cases h3 : inR c.k 0 9 with
      | false =>
        have HX := Lib.hid (show false = x by rw [← KX.out]; simp [clOk_eq, condOk, noR, h1, h2, h3])
        go_enter Tryz.func48, Tryz.ntmps48
        go_wp2_with fail
        refine (in_is h1 _).mono ?_
        rintro e w1 ⟨rfl, rfl⟩
        go_wp2_with fail
        refine (in_is h2 _).mono ?_
        rintro e w1 ⟨rfl, rfl⟩
        go_wp2_with fail
        refine (in_is h3 _).mono ?_
        rintro e w1 ⟨rfl, rfl⟩
        go_wp2_with fail
        go_ret
        exact ⟨ret_bool HX.out, HB.out⟩
      | true =>
        have HQ := eqlCR c.f c.b 0 0
        by_cases hi1 : c.i = 1
        · have e1 : (c.i == 1) = true := by simp [hi1]
          by_cases hn : c.n = 0
          · have en : (c.n == 0) = true := by simp [hn]
            by_cases hr : c.f = 0 ∧ c.b = 0
            · have hd : decide (c.f = 0 ∧ c.b = 0) = true := decide_eq_true hr
              simp only [hd] at HQ
              have HX := Lib.hid (show true = x by rw [← KX.out]; simp [clOk_eq, condOk, noR, h1, h2, h3, hi1, hn, hr.1, hr.2])
              clear hi1 hn hr hd
              go_enter Tryz.func48, Tryz.ntmps48
              go_wp2_with fail
              refine (in_is h1 _).mono ?_
              rintro e w1 ⟨rfl, rfl⟩
              go_wp2_with fail
              refine (in_is h2 _).mono ?_
              rintro e w1 ⟨rfl, rfl⟩
              go_wp2_with fail
              refine (in_is h3 _).mono ?_
              rintro e w1 ⟨rfl, rfl⟩
              go_wp2_with fail
              go_ret
              exact ⟨ret_bool HX.out, HB.out⟩
            · have hd : decide (c.f = 0 ∧ c.b = 0) = false := decide_eq_false hr
              simp only [hd] at HQ
              have hr2 : (decide (c.f = 0) && decide (c.b = 0)) = false := by rw [← Bool.decide_and]; exact hd
              have HX := Lib.hid (show false = x by rw [← KX.out]; simp [clOk_eq, condOk, noR, h1, h2, h3, hi1, hn, hr2])
              clear hi1 hn hr hd hr2
              go_enter Tryz.func48, Tryz.ntmps48
              go_wp2_with fail
              refine (in_is h1 _).mono ?_
              rintro e w1 ⟨rfl, rfl⟩
              go_wp2_with fail
              refine (in_is h2 _).mono ?_
              rintro e w1 ⟨rfl, rfl⟩
              go_wp2_with fail
              refine (in_is h3 _).mono ?_
              rintro e w1 ⟨rfl, rfl⟩
              go_wp2_with fail
              go_ret
              exact ⟨ret_bool HX.out, HB.out⟩
          · have en : (c.n == 0) = false := by simp [hn]
            have HX := Lib.hid (show false = x by rw [← KX.out]; simp [clOk_eq, condOk, noR, h1, h2, h3, hi1, hn])
            clear hi1 hn
            go_enter Tryz.func48, Tryz.ntmps48
            go_wp2_with fail
            refine (in_is h1 _).mono ?_
            rintro e w1 ⟨rfl, rfl⟩
            go_wp2_with fail
            refine (in_is h2 _).mono ?_
            rintro e w1 ⟨rfl, rfl⟩
            go_wp2_with fail
            refine (in_is h3 _).mono ?_
            rintro e w1 ⟨rfl, rfl⟩
            go_wp2_with fail
            go_ret
            exact ⟨ret_bool HX.out, HB.out⟩
        by_cases hi2 : c.i = 2
        · have e2 : (c.i == 2) = true := by simp [hi2]
          have e1 : (c.i == 1) = false := by simp [hi1]
          by_cases hn : c.n = 0
          · have en : (c.n == 0) = true := by simp [hn]
            cases ho : okB c.f c.b with
            | false =>
              have HX := Lib.hid (show false = x by rw [← KX.out]; simp [clOk_eq, condOk, noR, h1, h2, h3, hi2, hn, ho])
              clear hi1 hi2 hn
              go_enter Tryz.func48, Tryz.ntmps48
              go_wp2_with fail
              refine (in_is h1 _).mono ?_
              rintro e w1 ⟨rfl, rfl⟩
              go_wp2_with fail
              refine (in_is h2 _).mono ?_
              rintro e w1 ⟨rfl, rfl⟩
              go_wp2_with fail
              refine (in_is h3 _).mono ?_
              rintro e w1 ⟨rfl, rfl⟩
              go_wp2_with fail
              refine (sok_is ho _).mono ?_
              rintro e w2 ⟨rfl, b2⟩
              have HB2 := Lib.hid (next HB.out b2)
              clear b2
              go_wp2_with fail
              go_ret
              exact ⟨ret_bool HX.out, HB2.out⟩
            | true =>
              have HX := Lib.hid (show true = x by rw [← KX.out]; simp [clOk_eq, condOk, noR, h1, h2, h3, hi2, hn, ho])
              clear hi1 hi2 hn
              go_enter Tryz.func48, Tryz.ntmps48
              go_wp2_with fail
              refine (in_is h1 _).mono ?_
              rintro e w1 ⟨rfl, rfl⟩
              go_wp2_with fail
              refine (in_is h2 _).mono ?_
              rintro e w1 ⟨rfl, rfl⟩
              go_wp2_with fail
              refine (in_is h3 _).mono ?_
              rintro e w1 ⟨rfl, rfl⟩
              go_wp2_with fail
              refine (sok_is ho _).mono ?_
              rintro e w2 ⟨rfl, b2⟩
              have HB2 := Lib.hid (next HB.out b2)
              clear b2
              go_wp2_with fail
              go_ret
              exact ⟨ret_bool HX.out, HB2.out⟩
          · have en : (c.n == 0) = false := by simp [hn]
            have HX := Lib.hid (show false = x by rw [← KX.out]; simp [clOk_eq, condOk, noR, h1, h2, h3, hi2, hn])
            clear hi1 hi2 hn
            go_enter Tryz.func48, Tryz.ntmps48
            go_wp2_with fail
            refine (in_is h1 _).mono ?_
            rintro e w1 ⟨rfl, rfl⟩
            go_wp2_with fail
            refine (in_is h2 _).mono ?_
            rintro e w1 ⟨rfl, rfl⟩
            go_wp2_with fail
            refine (in_is h3 _).mono ?_
            rintro e w1 ⟨rfl, rfl⟩
            go_wp2_with fail
            go_ret
            exact ⟨ret_bool HX.out, HB.out⟩
        by_cases hi3 : c.i = 3
        · have e3 : (c.i == 3) = true := by simp [hi3]
          have e1 : (c.i == 1) = false := by simp [hi1]
          have e2 : (c.i == 2) = false := by simp [hi2]
          cases ho : isM c.n with
          | false =>
            have HX := Lib.hid (show false = x by rw [← KX.out]; simp [clOk_eq, condOk, noR, h1, h2, h3, hi3, ho])
            clear hi1 hi2 hi3
            go_enter Tryz.func48, Tryz.ntmps48
            go_wp2_with fail
            refine (in_is h1 _).mono ?_
            rintro e w1 ⟨rfl, rfl⟩
            go_wp2_with fail
            refine (in_is h2 _).mono ?_
            rintro e w1 ⟨rfl, rfl⟩
            go_wp2_with fail
            refine (in_is h3 _).mono ?_
            rintro e w1 ⟨rfl, rfl⟩
            go_wp2_with fail
            have ho' : inR c.n 1 9 = false := ho
            refine (in_is ho' _).mono ?_
            rintro e w2 ⟨rfl, rfl⟩
            go_wp2_with fail
            go_ret
            exact ⟨ret_bool HX.out, HB.out⟩
          | true =>
            by_cases hr : c.f = 0 ∧ c.b = 0
            · have hd : decide (c.f = 0 ∧ c.b = 0) = true := decide_eq_true hr
              simp only [hd] at HQ
              have HX := Lib.hid (show true = x by rw [← KX.out]; simp [clOk_eq, condOk, noR, h1, h2, h3, hi3, ho, hr.1, hr.2])
              clear hi1 hi2 hi3 hr hd
              go_enter Tryz.func48, Tryz.ntmps48
              go_wp2_with fail
              refine (in_is h1 _).mono ?_
              rintro e w1 ⟨rfl, rfl⟩
              go_wp2_with fail
              refine (in_is h2 _).mono ?_
              rintro e w1 ⟨rfl, rfl⟩
              go_wp2_with fail
              refine (in_is h3 _).mono ?_
              rintro e w1 ⟨rfl, rfl⟩
              go_wp2_with fail
              have ho' : inR c.n 1 9 = true := ho
              refine (in_is ho' _).mono ?_
              rintro e w2 ⟨rfl, rfl⟩
              go_wp2_with fail
              go_ret
              exact ⟨ret_bool HX.out, HB.out⟩
            · have hd : decide (c.f = 0 ∧ c.b = 0) = false := decide_eq_false hr
              simp only [hd] at HQ
              have hr2 : (decide (c.f = 0) && decide (c.b = 0)) = false := by rw [← Bool.decide_and]; exact hd
              have HX := Lib.hid (show false = x by rw [← KX.out]; simp [clOk_eq, condOk, noR, h1, h2, h3, hi3, ho, hr2])
              clear hi1 hi2 hi3 hr hd hr2
              go_enter Tryz.func48, Tryz.ntmps48
              go_wp2_with fail
              refine (in_is h1 _).mono ?_
              rintro e w1 ⟨rfl, rfl⟩
              go_wp2_with fail
              refine (in_is h2 _).mono ?_
              rintro e w1 ⟨rfl, rfl⟩
              go_wp2_with fail
              refine (in_is h3 _).mono ?_
              rintro e w1 ⟨rfl, rfl⟩
              go_wp2_with fail
              have ho' : inR c.n 1 9 = true := ho
              refine (in_is ho' _).mono ?_
              rintro e w2 ⟨rfl, rfl⟩
              go_wp2_with fail
              go_ret
              exact ⟨ret_bool HX.out, HB.out⟩
        by_cases hi4 : c.i = 4
        · have e4 : (c.i == 4) = true := by simp [hi4]
          have e1 : (c.i == 1) = false := by simp [hi1]
          have e2 : (c.i == 2) = false := by simp [hi2]
          have e3 : (c.i == 3) = false := by simp [hi3]
          cases ho : isH c.n with
          | false =>
            have HX := Lib.hid (show false = x by rw [← KX.out]; simp [clOk_eq, condOk, noR, h1, h2, h3, hi4, ho])
            clear hi1 hi2 hi3 hi4
            go_enter Tryz.func48, Tryz.ntmps48
            go_wp2_with fail
            refine (in_is h1 _).mono ?_
            rintro e w1 ⟨rfl, rfl⟩
            go_wp2_with fail
            refine (in_is h2 _).mono ?_
            rintro e w1 ⟨rfl, rfl⟩
            go_wp2_with fail
            refine (in_is h3 _).mono ?_
            rintro e w1 ⟨rfl, rfl⟩
            go_wp2_with fail
            refine (shouse_is ho _).mono ?_
            rintro e w2 ⟨rfl, rfl⟩
            go_wp2_with fail
            go_ret
            exact ⟨ret_bool HX.out, HB.out⟩
          | true =>
            by_cases hr : c.f = 0 ∧ c.b = 0
            · have hd : decide (c.f = 0 ∧ c.b = 0) = true := decide_eq_true hr
              simp only [hd] at HQ
              have HX := Lib.hid (show true = x by rw [← KX.out]; simp [clOk_eq, condOk, noR, h1, h2, h3, hi4, ho, hr.1, hr.2])
              clear hi1 hi2 hi3 hi4 hr hd
              go_enter Tryz.func48, Tryz.ntmps48
              go_wp2_with fail
              refine (in_is h1 _).mono ?_
              rintro e w1 ⟨rfl, rfl⟩
              go_wp2_with fail
              refine (in_is h2 _).mono ?_
              rintro e w1 ⟨rfl, rfl⟩
              go_wp2_with fail
              refine (in_is h3 _).mono ?_
              rintro e w1 ⟨rfl, rfl⟩
              go_wp2_with fail
              refine (shouse_is ho _).mono ?_
              rintro e w2 ⟨rfl, rfl⟩
              go_wp2_with fail
              go_ret
              exact ⟨ret_bool HX.out, HB.out⟩
            · have hd : decide (c.f = 0 ∧ c.b = 0) = false := decide_eq_false hr
              simp only [hd] at HQ
              have hr2 : (decide (c.f = 0) && decide (c.b = 0)) = false := by rw [← Bool.decide_and]; exact hd
              have HX := Lib.hid (show false = x by rw [← KX.out]; simp [clOk_eq, condOk, noR, h1, h2, h3, hi4, ho, hr2])
              clear hi1 hi2 hi3 hi4 hr hd hr2
              go_enter Tryz.func48, Tryz.ntmps48
              go_wp2_with fail
              refine (in_is h1 _).mono ?_
              rintro e w1 ⟨rfl, rfl⟩
              go_wp2_with fail
              refine (in_is h2 _).mono ?_
              rintro e w1 ⟨rfl, rfl⟩
              go_wp2_with fail
              refine (in_is h3 _).mono ?_
              rintro e w1 ⟨rfl, rfl⟩
              go_wp2_with fail
              refine (shouse_is ho _).mono ?_
              rintro e w2 ⟨rfl, rfl⟩
              go_wp2_with fail
              go_ret
              exact ⟨ret_bool HX.out, HB.out⟩
        by_cases hi5 : c.i = 5
        · have e5 : (c.i == 5) = true := by simp [hi5]
          have e1 : (c.i == 1) = false := by simp [hi1]
          have e2 : (c.i == 2) = false := by simp [hi2]
          have e3 : (c.i == 3) = false := by simp [hi3]
          have e4 : (c.i == 4) = false := by simp [hi4]
          cases ho : isH c.n with
          | false =>
            have HX := Lib.hid (show false = x by rw [← KX.out]; simp [clOk_eq, condOk, noR, h1, h2, h3, hi5, ho])
            clear hi1 hi2 hi3 hi4 hi5
            go_enter Tryz.func48, Tryz.ntmps48
            go_wp2_with fail
            refine (in_is h1 _).mono ?_
            rintro e w1 ⟨rfl, rfl⟩
            go_wp2_with fail
            refine (in_is h2 _).mono ?_
            rintro e w1 ⟨rfl, rfl⟩
            go_wp2_with fail
            refine (in_is h3 _).mono ?_
            rintro e w1 ⟨rfl, rfl⟩
            go_wp2_with fail
            refine (shouse_is ho _).mono ?_
            rintro e w2 ⟨rfl, rfl⟩
            go_wp2_with fail
            go_ret
            exact ⟨ret_bool HX.out, HB.out⟩
          | true =>
            by_cases hr : c.f = 0 ∧ c.b = 0
            · have hd : decide (c.f = 0 ∧ c.b = 0) = true := decide_eq_true hr
              simp only [hd] at HQ
              have HX := Lib.hid (show true = x by rw [← KX.out]; simp [clOk_eq, condOk, noR, h1, h2, h3, hi5, ho, hr.1, hr.2])
              clear hi1 hi2 hi3 hi4 hi5 hr hd
              go_enter Tryz.func48, Tryz.ntmps48
              go_wp2_with fail
              refine (in_is h1 _).mono ?_
              rintro e w1 ⟨rfl, rfl⟩
              go_wp2_with fail
              refine (in_is h2 _).mono ?_
              rintro e w1 ⟨rfl, rfl⟩
              go_wp2_with fail
              refine (in_is h3 _).mono ?_
              rintro e w1 ⟨rfl, rfl⟩
              go_wp2_with fail
              refine (shouse_is ho _).mono ?_
              rintro e w2 ⟨rfl, rfl⟩
              go_wp2_with fail
              go_ret
              exact ⟨ret_bool HX.out, HB.out⟩
            · have hd : decide (c.f = 0 ∧ c.b = 0) = false := decide_eq_false hr
              simp only [hd] at HQ
              have hr2 : (decide (c.f = 0) && decide (c.b = 0)) = false := by rw [← Bool.decide_and]; exact hd
              have HX := Lib.hid (show false = x by rw [← KX.out]; simp [clOk_eq, condOk, noR, h1, h2, h3, hi5, ho, hr2])
              clear hi1 hi2 hi3 hi4 hi5 hr hd hr2
              go_enter Tryz.func48, Tryz.ntmps48
              go_wp2_with fail
              refine (in_is h1 _).mono ?_
              rintro e w1 ⟨rfl, rfl⟩
              go_wp2_with fail
              refine (in_is h2 _).mono ?_
              rintro e w1 ⟨rfl, rfl⟩
              go_wp2_with fail
              refine (in_is h3 _).mono ?_
              rintro e w1 ⟨rfl, rfl⟩
              go_wp2_with fail
              refine (shouse_is ho _).mono ?_
              rintro e w2 ⟨rfl, rfl⟩
              go_wp2_with fail
              go_ret
              exact ⟨ret_bool HX.out, HB.out⟩
        have e1 : (c.i == 1) = false := by simp [hi1]
        have e2 : (c.i == 2) = false := by simp [hi2]
        have e3 : (c.i == 3) = false := by simp [hi3]
        have e4 : (c.i == 4) = false := by simp [hi4]
        have e5 : (c.i == 5) = false := by simp [hi5]
        have HX := Lib.hid (show false = x by rw [← KX.out]; simp [clOk_eq, condOk, noR, h1, h2, h3, hi1, hi2, hi3, hi4, hi5])
        clear hi1 hi2 hi3 hi4 hi5
        go_enter Tryz.func48, Tryz.ntmps48
        go_wp2_with fail
        refine (in_is h1 _).mono ?_
        rintro e w1 ⟨rfl, rfl⟩
        go_wp2_with fail
        refine (in_is h2 _).mono ?_
        rintro e w1 ⟨rfl, rfl⟩
        go_wp2_with fail
        refine (in_is h3 _).mono ?_
        rintro e w1 ⟨rfl, rfl⟩
        go_wp2_with fail
        go_ret
        exact ⟨ret_bool HX.out, HB.out⟩

set_option maxHeartbeats 2000000 in
theorem spolok_is (L : List CL) {x : Bool} (k : polOk L = x) (a : Option Addr) (cap n : Nat) (w : World) (hn : n = L.length) (hA : CsA w a L) (hl : L.length ≤ 2000000) :
    Calls Tryz.prog 26 #[.slice a n cap] w fun e w' => e = .returned (.bool x) ∧ Below w.heap.size w w' := by
  subst hn
  have KX := Lib.hid k
  have HA := Lib.hid hA
  clear k hA
  go_enter Tryz.func26, Tryz.ntmps26
  go_wp2_with fail
  go_loopw [3] (fun i wr => ∃ k : Nat, k ≤ L.length ∧ i = .int .i64 k ∧ Hid (∀ (j : Nat) c, j < k → L[j]? = some c → clOk c = true) ∧ Hid (Below w.heap.size w wr)) (fun i _ => L.length - (intOf i).toNat)
  case atStart => exact ⟨0, Nat.zero_le _, rfl, Lib.hid (fun j c hj => by omega), Lib.hid (Below.refl _ _)⟩
  case round =>
    obtain ⟨k, hk, rfl, HN, HB⟩ := hrel
    by_cases hlt : k < L.length
    · obtain ⟨c, hc⟩ : ∃ c, L[k]? = some c := ⟨_, List.getElem?_eq_getElem hlt⟩
      have HC := Lib.hid hc
      obtain ⟨b, off, rfl, q0, q1, q2, q3, q4, q5, q6, q7⟩ := (HA.out.below HB.out).at hc
      have i0 : (0 : Int) ≤ (k : Int) := by omega
      have i1 : (k : Int) < (L.length : Int) := by omega
      clear hc
      cases ho : clOk c with
      | false =>
        have HX := Lib.hid (show false = x by rw [← KX.out]; exact (polOk_bad (List.mem_of_getElem? HC.out) ho).symm)
        go_wp2_with fail
        refine (sclok_is c ho _).mono ?_
        rintro e w2 ⟨rfl, b2⟩
        have HB2 := Lib.hid (next HB.out b2)
        clear b2
        go_wp2_with fail
        go_ret
        exact ⟨ret_bool HX.out, HB2.out⟩
      | true =>
        have HN2 : Hid (∀ (j : Nat) d, j < k + 1 → L[j]? = some d → clOk d = true) := Lib.hid (fun j d hj hd => by
          by_cases e : j = k
          · subst e; rw [HC.out] at hd; cases hd; exact ho
          · exact HN.out j d (by omega) hd)
        go_wp2_with fail
        refine (sclok_is c ho _).mono ?_
        rintro e w2 ⟨rfl, b2⟩
        have HB2 := Lib.hid (next HB.out b2)
        clear b2 q0 q1 q2 q3 q4 q5 q6 q7
        go_wp2_with fail
        go_roundw
        case rel => exact ⟨k + 1, by omega, by go_num, HN2, HB2⟩
        case measure => simp [intOf]; omega
    · obtain rfl : k = L.length := by omega
      have hall : ∀ c ∈ L, clOk c = true := fun c hc => by
        obtain ⟨j, hj⟩ := List.mem_iff_getElem?.1 hc
        exact HN.out j c (List.getElem?_eq_some_iff.1 hj).1 hj
      have HX := Lib.hid (show decide ((L.length : Int) ≤ 5) = x by
        rw [← KX.out, Bool.eq_iff_iff, polOk_iff, decide_eq_true_eq]
        exact ⟨fun h => ⟨by omega, hall⟩, fun h => by omega⟩)
      clear hall
      go_wp2_with fail
      go_ret
      exact ⟨ret_bool HX.out, HB.out⟩
end Go.Proofs.YtioppkalehnoaaaGreatDoor
