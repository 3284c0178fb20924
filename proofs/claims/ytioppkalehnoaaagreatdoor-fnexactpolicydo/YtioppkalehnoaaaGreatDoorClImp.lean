/-
  Clauses and policies by the program: which are valid.
-/
import Derived.Test.YtioppkalehnoaaaGreatDoorClSpec
namespace Go.Proofs.YtioppkalehnoaaaGreatDoor
open Go.RowKit
set_option linter.unusedSimpArgs false
set_option linter.unusedVariables false

theorem icond1_is (c : CL) (h1 : (c.i == 1) = true) (w : World) :
    Calls Tryz.prog 63 #[clV c] w fun e w' => e = .returned (.iface 105 (.agg #[])) ∧ Below w.heap.size w w' := by
  have HB := Lib.hid ((Below.refl w.heap.size w).alloc (Nat.le_refl _) (.cells (clA c) 59))
  go_enter Tryz.func63, Tryz.ntmps63
  go_wp2_with fail
  go_ret
  exact ⟨rfl, HB.out⟩
theorem icond2_is (c : CL) (h1 : (c.i == 1) = false) (h2 : (c.i == 2) = true) (w : World) :
    Calls Tryz.prog 63 #[clV c] w fun e w' => e = .returned (.iface 107 (.agg #[.int .i64 c.f, .int .i64 c.b])) ∧ Below w.heap.size w w' := by
  have HB := Lib.hid ((Below.refl w.heap.size w).alloc (Nat.le_refl _) (.cells (clA c) 59))
  go_enter Tryz.func63, Tryz.ntmps63
  go_wp2_with fail
  go_ret
  exact ⟨rfl, HB.out⟩
theorem icond3_is (c : CL) (h1 : (c.i == 1) = false) (h2 : (c.i == 2) = false) (h3 : (c.i == 3) = true) (w : World) :
    Calls Tryz.prog 63 #[clV c] w fun e w' => e = .returned (.iface 109 (.agg #[.int .i64 c.n])) ∧ Below w.heap.size w w' := by
  have HB := Lib.hid ((Below.refl w.heap.size w).alloc (Nat.le_refl _) (.cells (clA c) 59))
  go_enter Tryz.func63, Tryz.ntmps63
  go_wp2_with fail
  go_ret
  exact ⟨rfl, HB.out⟩
theorem icond4_is (c : CL) (h1 : (c.i == 1) = false) (h2 : (c.i == 2) = false) (h3 : (c.i == 3) = false) (h4 : (c.i == 4) = true) (w : World) :
    Calls Tryz.prog 63 #[clV c] w fun e w' => e = .returned (.iface 111 (.agg #[.int .i64 c.n])) ∧ Below w.heap.size w w' := by
  have HB := Lib.hid ((Below.refl w.heap.size w).alloc (Nat.le_refl _) (.cells (clA c) 59))
  go_enter Tryz.func63, Tryz.ntmps63
  go_wp2_with fail
  go_ret
  exact ⟨rfl, HB.out⟩
theorem icond5_is (c : CL) (h1 : (c.i == 1) = false) (h2 : (c.i == 2) = false) (h3 : (c.i == 3) = false) (h4 : (c.i == 4) = false) (h5 : (c.i == 5) = true) (w : World) :
    Calls Tryz.prog 63 #[clV c] w fun e w' => e = .returned (.iface 113 (.agg #[.int .i64 c.n])) ∧ Below w.heap.size w w' := by
  have HB := Lib.hid ((Below.refl w.heap.size w).alloc (Nat.le_refl _) (.cells (clA c) 59))
  go_enter Tryz.func63, Tryz.ntmps63
  go_wp2_with fail
  go_ret
  exact ⟨rfl, HB.out⟩
theorem icond0_is (c : CL) (h1 : (c.i == 1) = false) (h2 : (c.i == 2) = false) (h3 : (c.i == 3) = false) (h4 : (c.i == 4) = false) (h5 : (c.i == 5) = false) (w : World) :
    Calls Tryz.prog 63 #[clV c] w fun e w' => e = .returned (.nilIface) ∧ Below w.heap.size w w' := by
  have HB := Lib.hid ((Below.refl w.heap.size w).alloc (Nat.le_refl _) (.cells (clA c) 59))
  go_enter Tryz.func63, Tryz.ntmps63
  go_wp2_with fail
  go_ret
  exact ⟨rfl, HB.out⟩
theorem ta11 (v : Value) (w : World) : (Instr.typeAssert (.iface 105 v) 83 105 true).run Tryz.prog w = .ok (.tuple #[v, .bool true]) w := by kernel_rfl
theorem ta21 (v : Value) (w : World) : (Instr.typeAssert (.iface 107 v) 83 105 true).run Tryz.prog w = .ok (.tuple #[.agg #[], .bool false]) w := by kernel_rfl
theorem ta22 (v : Value) (w : World) : (Instr.typeAssert (.iface 107 v) 83 107 true).run Tryz.prog w = .ok (.tuple #[v, .bool true]) w := by kernel_rfl
theorem ta31 (v : Value) (w : World) : (Instr.typeAssert (.iface 109 v) 83 105 true).run Tryz.prog w = .ok (.tuple #[.agg #[], .bool false]) w := by kernel_rfl
theorem ta32 (v : Value) (w : World) : (Instr.typeAssert (.iface 109 v) 83 107 true).run Tryz.prog w = .ok (.tuple #[.agg #[.int .i64 0, .int .i64 0], .bool false]) w := by kernel_rfl
theorem ta33 (v : Value) (w : World) : (Instr.typeAssert (.iface 109 v) 83 109 true).run Tryz.prog w = .ok (.tuple #[v, .bool true]) w := by kernel_rfl
theorem ta41 (v : Value) (w : World) : (Instr.typeAssert (.iface 111 v) 83 105 true).run Tryz.prog w = .ok (.tuple #[.agg #[], .bool false]) w := by kernel_rfl
theorem ta42 (v : Value) (w : World) : (Instr.typeAssert (.iface 111 v) 83 107 true).run Tryz.prog w = .ok (.tuple #[.agg #[.int .i64 0, .int .i64 0], .bool false]) w := by kernel_rfl
theorem ta43 (v : Value) (w : World) : (Instr.typeAssert (.iface 111 v) 83 109 true).run Tryz.prog w = .ok (.tuple #[.agg #[.int .i64 0], .bool false]) w := by kernel_rfl
theorem ta44 (v : Value) (w : World) : (Instr.typeAssert (.iface 111 v) 83 111 true).run Tryz.prog w = .ok (.tuple #[v, .bool true]) w := by kernel_rfl
theorem ta51 (v : Value) (w : World) : (Instr.typeAssert (.iface 113 v) 83 105 true).run Tryz.prog w = .ok (.tuple #[.agg #[], .bool false]) w := by kernel_rfl
theorem ta52 (v : Value) (w : World) : (Instr.typeAssert (.iface 113 v) 83 107 true).run Tryz.prog w = .ok (.tuple #[.agg #[.int .i64 0, .int .i64 0], .bool false]) w := by kernel_rfl
theorem ta53 (v : Value) (w : World) : (Instr.typeAssert (.iface 113 v) 83 109 true).run Tryz.prog w = .ok (.tuple #[.agg #[.int .i64 0], .bool false]) w := by kernel_rfl
theorem ta54 (v : Value) (w : World) : (Instr.typeAssert (.iface 113 v) 83 111 true).run Tryz.prog w = .ok (.tuple #[.agg #[.int .i64 0], .bool false]) w := by kernel_rfl
theorem ta55 (v : Value) (w : World) : (Instr.typeAssert (.iface 113 v) 83 113 true).run Tryz.prog w = .ok (.tuple #[v, .bool true]) w := by kernel_rfl
theorem ta01 (w : World) : (Instr.typeAssert .nilIface 83 105 true).run Tryz.prog w = .ok (.tuple #[.agg #[], .bool false]) w := by kernel_rfl
theorem ta02 (w : World) : (Instr.typeAssert .nilIface 83 107 true).run Tryz.prog w = .ok (.tuple #[.agg #[.int .i64 0, .int .i64 0], .bool false]) w := by kernel_rfl
theorem ta03 (w : World) : (Instr.typeAssert .nilIface 83 109 true).run Tryz.prog w = .ok (.tuple #[.agg #[.int .i64 0], .bool false]) w := by kernel_rfl
theorem ta04 (w : World) : (Instr.typeAssert .nilIface 83 111 true).run Tryz.prog w = .ok (.tuple #[.agg #[.int .i64 0], .bool false]) w := by kernel_rfl
theorem ta05 (w : World) : (Instr.typeAssert .nilIface 83 113 true).run Tryz.prog w = .ok (.tuple #[.agg #[.int .i64 0], .bool false]) w := by kernel_rfl
theorem cmark_is {h : Int} {x : Bool} (k : isM h = x) (w : World) :
    Calls Tryz.prog 80 #[.int .i64 h] w fun e w' => e = .returned (.bool x) ∧ w = w' := by
  by_cases h1 : 1 ≤ h
  · have hr := Lib.hid (show decide (h ≤ 9) = x by rw [← k]; simp [isM, h1])
    clear k
    go_enter Tryz.func80, Tryz.ntmps80
    go_wp2
    go_ret
    exact ⟨ret_bool hr.out, rfl⟩
  · have hr := Lib.hid (show false = x by rw [← k]; simp [isM, h1])
    clear k
    go_enter Tryz.func80, Tryz.ntmps80
    go_wp2
    go_ret
    exact ⟨ret_bool hr.out, rfl⟩
theorem chouse_is {h : Int} {x : Bool} (k : isH h = x) (w : World) :
    Calls Tryz.prog 88 #[.int .i64 h] w fun e w' => e = .returned (.bool x) ∧ w = w' := by
  by_cases h1 : 1 ≤ h
  · have hr := Lib.hid (show decide (h ≤ 5) = x by rw [← k]; simp [isH, h1])
    clear k
    go_enter Tryz.func88, Tryz.ntmps88
    go_wp2
    go_ret
    exact ⟨ret_bool hr.out, rfl⟩
  · have hr := Lib.hid (show false = x by rw [← k]; simp [isH, h1])
    clear k
    go_enter Tryz.func88, Tryz.ntmps88
    go_wp2
    go_ret
    exact ⟨ret_bool hr.out, rfl⟩
theorem isM0_or (m : Int) : isM0 m = (decide (m = 0) || isM m) := by
  rw [Bool.eq_iff_iff, isM0_iff]
  simp only [isM, Bool.or_eq_true, decide_eq_true_eq]
  omega
theorem cmark0_is {m : Int} {x : Bool} (k : isM0 m = x) (w : World) :
    Calls Tryz.prog 76 #[.int .i64 m] w fun e w' => e = .returned (.bool x) ∧ w = w' := by
  rw [isM0_or] at k
  by_cases h0 : m = 0
  · have hr := Lib.hid (show true = x by rw [← k]; simp [h0])
    have e0 : (m == 0) = true := by simp [h0]
    clear k h0
    go_enter Tryz.func76, Tryz.ntmps76
    go_wp2_with fail
    go_ret
    exact ⟨ret_bool hr.out, rfl⟩
  · have hr := Lib.hid (show isM m = x by rw [← k]; simp [h0])
    have e0 : (m == 0) = false := by simp [h0]
    clear k h0
    go_enter Tryz.func76, Tryz.ntmps76
    go_wp2_with fail
    refine (cmark_is hr.out _).mono ?_
    rintro e w1 ⟨rfl, rfl⟩
    go_wp2_with fail
    go_ret
    exact ⟨rfl, rfl⟩
set_option maxRecDepth 100000 in
set_option maxHeartbeats 4000000 in
theorem icok_is (c : CL) {x : Bool} (k : condOk c = x) (w : World) :
    Calls Tryz.prog 75 #[clV c] w fun e w' => e = .returned (.bool x) ∧ Below w.heap.size w w' := by
  have KX := Lib.hid k
  have HB := Lib.hid ((Below.refl w.heap.size w).alloc (Nat.le_refl _) (.cells (clA c) 59))
  have HA := Lib.hid (AtL.new w c 59)
  have HQ := eqlCR c.f c.b 0 0
  clear k
  by_cases hi1 : c.i = 1
  · have e1 : (c.i == 1) = true := by simp [hi1]
    by_cases hr : c.f = 0 ∧ c.b = 0
    · have hd : decide (c.f = 0 ∧ c.b = 0) = true := decide_eq_true hr
      simp only [hd] at HQ
      by_cases hn : c.n = 0
      · have en : (c.n == 0) = true := by simp [hn]
        have HX := Lib.hid (show true = x by rw [← KX.out]; simp [condOk, noR, hi1, hr.1, hr.2, hn])
        clear hi1 hr hd hn
        have T1 := ta11 (.agg #[])
        go_enter Tryz.func75, Tryz.ntmps75
        go_wp2_with fail
        refine (icond1_is c e1 _).mono ?_
        rintro e w1 ⟨rfl, b1⟩
        have HB1 := Lib.hid (next HB.out b1)
        have HA1 := Lib.hid (HA.out.below b1)
        have lt1 : w.heap.size < w1.heap.size := HA1.out.lt (by show 0 < 8; omega)
        have ne1 : ¬ w.heap.size = w1.heap.size := by omega
        have hs1 := HB1.out.size
        clear b1
        obtain ⟨⟨q0, q1, q2, q3, q4, q5, q6, q7⟩, _⟩ := HA1.out.z8
        have HB2 := Lib.hid (HB1.out.alloc hs1 (.cells #[] 105))
        go_wp2_with fail
        go_ret
        exact ⟨ret_bool HX.out, HB2.out⟩
      · have en : (c.n == 0) = false := by simp [hn]
        have HX := Lib.hid (show false = x by rw [← KX.out]; simp [condOk, noR, hi1, hr.1, hr.2, hn])
        clear hi1 hr hd hn
        have T1 := ta11 (.agg #[])
        go_enter Tryz.func75, Tryz.ntmps75
        go_wp2_with fail
        refine (icond1_is c e1 _).mono ?_
        rintro e w1 ⟨rfl, b1⟩
        have HB1 := Lib.hid (next HB.out b1)
        have HA1 := Lib.hid (HA.out.below b1)
        have lt1 : w.heap.size < w1.heap.size := HA1.out.lt (by show 0 < 8; omega)
        have ne1 : ¬ w.heap.size = w1.heap.size := by omega
        have hs1 := HB1.out.size
        clear b1
        obtain ⟨⟨q0, q1, q2, q3, q4, q5, q6, q7⟩, _⟩ := HA1.out.z8
        have HB2 := Lib.hid (HB1.out.alloc hs1 (.cells #[] 105))
        go_wp2_with fail
        go_ret
        exact ⟨ret_bool HX.out, HB2.out⟩
    · have hd : decide (c.f = 0 ∧ c.b = 0) = false := decide_eq_false hr
      simp only [hd] at HQ
      have hr2 : (decide (c.f = 0) && decide (c.b = 0)) = false := by rw [← Bool.decide_and]; exact hd
      have HX := Lib.hid (show false = x by rw [← KX.out]; simp [condOk, noR, hi1, hr2])
      clear hi1 hr hd hr2
      have T1 := ta11 (.agg #[])
      go_enter Tryz.func75, Tryz.ntmps75
      go_wp2_with fail
      refine (icond1_is c e1 _).mono ?_
      rintro e w1 ⟨rfl, b1⟩
      have HB1 := Lib.hid (next HB.out b1)
      have HA1 := Lib.hid (HA.out.below b1)
      have lt1 : w.heap.size < w1.heap.size := HA1.out.lt (by show 0 < 8; omega)
      have ne1 : ¬ w.heap.size = w1.heap.size := by omega
      have hs1 := HB1.out.size
      clear b1
      obtain ⟨⟨q0, q1, q2, q3, q4, q5, q6, q7⟩, _⟩ := HA1.out.z8
      have HB2 := Lib.hid (HB1.out.alloc hs1 (.cells #[] 105))
      go_wp2_with fail
      go_ret
      exact ⟨ret_bool HX.out, HB2.out⟩
  by_cases hi2 : c.i = 2
  · have e2 : (c.i == 2) = true := by simp [hi2]
    have e1 : (c.i == 1) = false := by simp [hi1]
    cases ho : okB c.f c.b with
    | false =>
      have HX := Lib.hid (show false = x by rw [← KX.out]; simp [condOk, noR, hi2, ho])
      clear hi1 hi2
      have T1 := ta21 (.agg #[.int .i64 c.f, .int .i64 c.b])
      have T2 := ta22 (.agg #[.int .i64 c.f, .int .i64 c.b])
      go_enter Tryz.func75, Tryz.ntmps75
      go_wp2_with fail
      refine (icond2_is c e1 e2 _).mono ?_
      rintro e w1 ⟨rfl, b1⟩
      have HB1 := Lib.hid (next HB.out b1)
      have HA1 := Lib.hid (HA.out.below b1)
      have lt1 : w.heap.size < w1.heap.size := HA1.out.lt (by show 0 < 8; omega)
      have ne1 : ¬ w.heap.size = w1.heap.size := by omega
      have hs1 := HB1.out.size
      clear b1
      obtain ⟨⟨q0, q1, q2, q3, q4, q5, q6, q7⟩, _⟩ := HA1.out.z8
      have HB2 := Lib.hid (HB1.out.alloc hs1 (.cells #[.int .i64 c.f, .int .i64 c.b] 107))
      go_wp2_with fail
      refine (iok_is ho _).mono ?_
      rintro e w2 ⟨rfl, b2⟩
      have HB3 := Lib.hid (next HB2.out b2)
      clear b2
      go_wp2_with fail
      go_ret
      exact ⟨ret_bool HX.out, HB3.out⟩
    | true =>
      by_cases hn : c.n = 0
      · have en : (c.n == 0) = true := by simp [hn]
        have HX := Lib.hid (show true = x by rw [← KX.out]; simp [condOk, noR, hi2, ho, hn])
        clear hi1 hi2 hn
        have T1 := ta21 (.agg #[.int .i64 c.f, .int .i64 c.b])
        have T2 := ta22 (.agg #[.int .i64 c.f, .int .i64 c.b])
        go_enter Tryz.func75, Tryz.ntmps75
        go_wp2_with fail
        refine (icond2_is c e1 e2 _).mono ?_
        rintro e w1 ⟨rfl, b1⟩
        have HB1 := Lib.hid (next HB.out b1)
        have HA1 := Lib.hid (HA.out.below b1)
        have lt1 : w.heap.size < w1.heap.size := HA1.out.lt (by show 0 < 8; omega)
        have ne1 : ¬ w.heap.size = w1.heap.size := by omega
        have hs1 := HB1.out.size
        clear b1
        obtain ⟨⟨q0, q1, q2, q3, q4, q5, q6, q7⟩, _⟩ := HA1.out.z8
        have HB2 := Lib.hid (HB1.out.alloc hs1 (.cells #[.int .i64 c.f, .int .i64 c.b] 107))
        have HA2 := Lib.hid (HA1.out.alloc (.cells #[.int .i64 c.f, .int .i64 c.b] 107))
        go_wp2_with fail
        refine (iok_is ho _).mono ?_
        rintro e w2 ⟨rfl, b2⟩
        have HB3 := Lib.hid (next HB2.out b2)
        have HA3 := Lib.hid (HA2.out.below b2)
        clear b2 q0 q1 q2 q3 q4 q5 q6 q7
        obtain ⟨⟨q0, q1, q2, q3, q4, q5, q6, q7⟩, _⟩ := HA3.out.z8
        go_wp2_with fail
        go_ret
        exact ⟨ret_bool HX.out, HB3.out⟩
      · have en : (c.n == 0) = false := by simp [hn]
        have HX := Lib.hid (show false = x by rw [← KX.out]; simp [condOk, noR, hi2, ho, hn])
        clear hi1 hi2 hn
        have T1 := ta21 (.agg #[.int .i64 c.f, .int .i64 c.b])
        have T2 := ta22 (.agg #[.int .i64 c.f, .int .i64 c.b])
        go_enter Tryz.func75, Tryz.ntmps75
        go_wp2_with fail
        refine (icond2_is c e1 e2 _).mono ?_
        rintro e w1 ⟨rfl, b1⟩
        have HB1 := Lib.hid (next HB.out b1)
        have HA1 := Lib.hid (HA.out.below b1)
        have lt1 : w.heap.size < w1.heap.size := HA1.out.lt (by show 0 < 8; omega)
        have ne1 : ¬ w.heap.size = w1.heap.size := by omega
        have hs1 := HB1.out.size
        clear b1
        obtain ⟨⟨q0, q1, q2, q3, q4, q5, q6, q7⟩, _⟩ := HA1.out.z8
        have HB2 := Lib.hid (HB1.out.alloc hs1 (.cells #[.int .i64 c.f, .int .i64 c.b] 107))
        have HA2 := Lib.hid (HA1.out.alloc (.cells #[.int .i64 c.f, .int .i64 c.b] 107))
        go_wp2_with fail
        refine (iok_is ho _).mono ?_
        rintro e w2 ⟨rfl, b2⟩
        have HB3 := Lib.hid (next HB2.out b2)
        have HA3 := Lib.hid (HA2.out.below b2)
        clear b2 q0 q1 q2 q3 q4 q5 q6 q7
        obtain ⟨⟨q0, q1, q2, q3, q4, q5, q6, q7⟩, _⟩ := HA3.out.z8
        go_wp2_with fail
        go_ret
        exact ⟨ret_bool HX.out, HB3.out⟩
  by_cases hi3 : c.i = 3
  · have e3 : (c.i == 3) = true := by simp [hi3]
    have e1 : (c.i == 1) = false := by simp [hi1]
    have e2 : (c.i == 2) = false := by simp [hi2]
    by_cases hr : c.f = 0 ∧ c.b = 0
    · have hd : decide (c.f = 0 ∧ c.b = 0) = true := decide_eq_true hr
      simp only [hd] at HQ
      cases ho : isM c.n with
      | false =>
        have HX := Lib.hid (show false = x by rw [← KX.out]; simp [condOk, noR, hi3, hr.1, hr.2, ho])
        clear hi1 hi2 hi3 hr hd
        have T1 := ta31 (.agg #[.int .i64 c.n])
        have T2 := ta32 (.agg #[.int .i64 c.n])
        have T3 := ta33 (.agg #[.int .i64 c.n])
        go_enter Tryz.func75, Tryz.ntmps75
        go_wp2_with fail
        refine (icond3_is c e1 e2 e3 _).mono ?_
        rintro e w1 ⟨rfl, b1⟩
        have HB1 := Lib.hid (next HB.out b1)
        have HA1 := Lib.hid (HA.out.below b1)
        have lt1 : w.heap.size < w1.heap.size := HA1.out.lt (by show 0 < 8; omega)
        have ne1 : ¬ w.heap.size = w1.heap.size := by omega
        have hs1 := HB1.out.size
        clear b1
        obtain ⟨⟨q0, q1, q2, q3, q4, q5, q6, q7⟩, _⟩ := HA1.out.z8
        have HB2 := Lib.hid (HB1.out.alloc hs1 (.cells #[.int .i64 c.n] 109))
        go_wp2_with fail
        refine (cmark_is ho _).mono ?_
        rintro e w2 ⟨rfl, rfl⟩
        go_wp2_with fail
        go_ret
        exact ⟨ret_bool HX.out, HB2.out⟩
      | true =>
        have HX := Lib.hid (show true = x by rw [← KX.out]; simp [condOk, noR, hi3, hr.1, hr.2, ho])
        clear hi1 hi2 hi3 hr hd
        have T1 := ta31 (.agg #[.int .i64 c.n])
        have T2 := ta32 (.agg #[.int .i64 c.n])
        have T3 := ta33 (.agg #[.int .i64 c.n])
        go_enter Tryz.func75, Tryz.ntmps75
        go_wp2_with fail
        refine (icond3_is c e1 e2 e3 _).mono ?_
        rintro e w1 ⟨rfl, b1⟩
        have HB1 := Lib.hid (next HB.out b1)
        have HA1 := Lib.hid (HA.out.below b1)
        have lt1 : w.heap.size < w1.heap.size := HA1.out.lt (by show 0 < 8; omega)
        have ne1 : ¬ w.heap.size = w1.heap.size := by omega
        have hs1 := HB1.out.size
        clear b1
        obtain ⟨⟨q0, q1, q2, q3, q4, q5, q6, q7⟩, _⟩ := HA1.out.z8
        have HB2 := Lib.hid (HB1.out.alloc hs1 (.cells #[.int .i64 c.n] 109))
        go_wp2_with fail
        refine (cmark_is ho _).mono ?_
        rintro e w2 ⟨rfl, rfl⟩
        go_wp2_with fail
        go_ret
        exact ⟨ret_bool HX.out, HB2.out⟩
    · have hd : decide (c.f = 0 ∧ c.b = 0) = false := decide_eq_false hr
      simp only [hd] at HQ
      have hr2 : (decide (c.f = 0) && decide (c.b = 0)) = false := by rw [← Bool.decide_and]; exact hd
      have HX := Lib.hid (show false = x by rw [← KX.out]; simp [condOk, noR, hi3, hr2])
      clear hi1 hi2 hi3 hr hd hr2
      have T1 := ta31 (.agg #[.int .i64 c.n])
      have T2 := ta32 (.agg #[.int .i64 c.n])
      have T3 := ta33 (.agg #[.int .i64 c.n])
      go_enter Tryz.func75, Tryz.ntmps75
      go_wp2_with fail
      refine (icond3_is c e1 e2 e3 _).mono ?_
      rintro e w1 ⟨rfl, b1⟩
      have HB1 := Lib.hid (next HB.out b1)
      have HA1 := Lib.hid (HA.out.below b1)
      have lt1 : w.heap.size < w1.heap.size := HA1.out.lt (by show 0 < 8; omega)
      have ne1 : ¬ w.heap.size = w1.heap.size := by omega
      have hs1 := HB1.out.size
      clear b1
      obtain ⟨⟨q0, q1, q2, q3, q4, q5, q6, q7⟩, _⟩ := HA1.out.z8
      have HB2 := Lib.hid (HB1.out.alloc hs1 (.cells #[.int .i64 c.n] 109))
      go_wp2_with fail
      go_ret
      exact ⟨ret_bool HX.out, HB2.out⟩
  by_cases hi4 : c.i = 4
  · have e4 : (c.i == 4) = true := by simp [hi4]
    have e1 : (c.i == 1) = false := by simp [hi1]
    have e2 : (c.i == 2) = false := by simp [hi2]
    have e3 : (c.i == 3) = false := by simp [hi3]
    by_cases hr : c.f = 0 ∧ c.b = 0
    · have hd : decide (c.f = 0 ∧ c.b = 0) = true := decide_eq_true hr
      simp only [hd] at HQ
      cases ho : isH c.n with
      | false =>
        have HX := Lib.hid (show false = x by rw [← KX.out]; simp [condOk, noR, hi4, hr.1, hr.2, ho])
        clear hi1 hi2 hi3 hi4 hr hd
        have T1 := ta41 (.agg #[.int .i64 c.n])
        have T2 := ta42 (.agg #[.int .i64 c.n])
        have T3 := ta43 (.agg #[.int .i64 c.n])
        have T4 := ta44 (.agg #[.int .i64 c.n])
        go_enter Tryz.func75, Tryz.ntmps75
        go_wp2_with fail
        refine (icond4_is c e1 e2 e3 e4 _).mono ?_
        rintro e w1 ⟨rfl, b1⟩
        have HB1 := Lib.hid (next HB.out b1)
        have HA1 := Lib.hid (HA.out.below b1)
        have lt1 : w.heap.size < w1.heap.size := HA1.out.lt (by show 0 < 8; omega)
        have ne1 : ¬ w.heap.size = w1.heap.size := by omega
        have hs1 := HB1.out.size
        clear b1
        obtain ⟨⟨q0, q1, q2, q3, q4, q5, q6, q7⟩, _⟩ := HA1.out.z8
        have HB2 := Lib.hid (HB1.out.alloc hs1 (.cells #[.int .i64 c.n] 111))
        go_wp2_with fail
        refine (chouse_is ho _).mono ?_
        rintro e w2 ⟨rfl, rfl⟩
        go_wp2_with fail
        go_ret
        exact ⟨ret_bool HX.out, HB2.out⟩
      | true =>
        have HX := Lib.hid (show true = x by rw [← KX.out]; simp [condOk, noR, hi4, hr.1, hr.2, ho])
        clear hi1 hi2 hi3 hi4 hr hd
        have T1 := ta41 (.agg #[.int .i64 c.n])
        have T2 := ta42 (.agg #[.int .i64 c.n])
        have T3 := ta43 (.agg #[.int .i64 c.n])
        have T4 := ta44 (.agg #[.int .i64 c.n])
        go_enter Tryz.func75, Tryz.ntmps75
        go_wp2_with fail
        refine (icond4_is c e1 e2 e3 e4 _).mono ?_
        rintro e w1 ⟨rfl, b1⟩
        have HB1 := Lib.hid (next HB.out b1)
        have HA1 := Lib.hid (HA.out.below b1)
        have lt1 : w.heap.size < w1.heap.size := HA1.out.lt (by show 0 < 8; omega)
        have ne1 : ¬ w.heap.size = w1.heap.size := by omega
        have hs1 := HB1.out.size
        clear b1
        obtain ⟨⟨q0, q1, q2, q3, q4, q5, q6, q7⟩, _⟩ := HA1.out.z8
        have HB2 := Lib.hid (HB1.out.alloc hs1 (.cells #[.int .i64 c.n] 111))
        go_wp2_with fail
        refine (chouse_is ho _).mono ?_
        rintro e w2 ⟨rfl, rfl⟩
        go_wp2_with fail
        go_ret
        exact ⟨ret_bool HX.out, HB2.out⟩
    · have hd : decide (c.f = 0 ∧ c.b = 0) = false := decide_eq_false hr
      simp only [hd] at HQ
      have hr2 : (decide (c.f = 0) && decide (c.b = 0)) = false := by rw [← Bool.decide_and]; exact hd
      have HX := Lib.hid (show false = x by rw [← KX.out]; simp [condOk, noR, hi4, hr2])
      clear hi1 hi2 hi3 hi4 hr hd hr2
      have T1 := ta41 (.agg #[.int .i64 c.n])
      have T2 := ta42 (.agg #[.int .i64 c.n])
      have T3 := ta43 (.agg #[.int .i64 c.n])
      have T4 := ta44 (.agg #[.int .i64 c.n])
      go_enter Tryz.func75, Tryz.ntmps75
      go_wp2_with fail
      refine (icond4_is c e1 e2 e3 e4 _).mono ?_
      rintro e w1 ⟨rfl, b1⟩
      have HB1 := Lib.hid (next HB.out b1)
      have HA1 := Lib.hid (HA.out.below b1)
      have lt1 : w.heap.size < w1.heap.size := HA1.out.lt (by show 0 < 8; omega)
      have ne1 : ¬ w.heap.size = w1.heap.size := by omega
      have hs1 := HB1.out.size
      clear b1
      obtain ⟨⟨q0, q1, q2, q3, q4, q5, q6, q7⟩, _⟩ := HA1.out.z8
      have HB2 := Lib.hid (HB1.out.alloc hs1 (.cells #[.int .i64 c.n] 111))
      go_wp2_with fail
      go_ret
      exact ⟨ret_bool HX.out, HB2.out⟩
  by_cases hi5 : c.i = 5
  · have e5 : (c.i == 5) = true := by simp [hi5]
    have e1 : (c.i == 1) = false := by simp [hi1]
    have e2 : (c.i == 2) = false := by simp [hi2]
    have e3 : (c.i == 3) = false := by simp [hi3]
    have e4 : (c.i == 4) = false := by simp [hi4]
    by_cases hr : c.f = 0 ∧ c.b = 0
    · have hd : decide (c.f = 0 ∧ c.b = 0) = true := decide_eq_true hr
      simp only [hd] at HQ
      by_cases hn1 : 1 ≤ c.n
      · by_cases hn2 : c.n ≤ 5
        · have ho : isH c.n = true := (isH_iff _).2 ⟨hn1, hn2⟩
          have HX := Lib.hid (show true = x by rw [← KX.out]; simp [condOk, noR, hi5, hr.1, hr.2, ho])
          clear hi1 hi2 hi3 hi4 hi5 hr hd ho
          have T1 := ta51 (.agg #[.int .i64 c.n])
          have T2 := ta52 (.agg #[.int .i64 c.n])
          have T3 := ta53 (.agg #[.int .i64 c.n])
          have T4 := ta54 (.agg #[.int .i64 c.n])
          have T5 := ta55 (.agg #[.int .i64 c.n])
          go_enter Tryz.func75, Tryz.ntmps75
          go_wp2_with fail
          refine (icond5_is c e1 e2 e3 e4 e5 _).mono ?_
          rintro e w1 ⟨rfl, b1⟩
          have HB1 := Lib.hid (next HB.out b1)
          have HA1 := Lib.hid (HA.out.below b1)
          have lt1 : w.heap.size < w1.heap.size := HA1.out.lt (by show 0 < 8; omega)
          have ne1 : ¬ w.heap.size = w1.heap.size := by omega
          have hs1 := HB1.out.size
          clear b1
          obtain ⟨⟨q0, q1, q2, q3, q4, q5, q6, q7⟩, _⟩ := HA1.out.z8
          have HB2 := Lib.hid (HB1.out.alloc hs1 (.cells #[.int .i64 c.n] 113))
          go_wp2_with fail
          go_ret
          exact ⟨ret_bool HX.out, HB2.out⟩
        · have ho : isH c.n = false := by simp [isH, hn2]
          have HX := Lib.hid (show false = x by rw [← KX.out]; simp [condOk, noR, hi5, hr.1, hr.2, ho])
          clear hi1 hi2 hi3 hi4 hi5 hr hd ho
          have T1 := ta51 (.agg #[.int .i64 c.n])
          have T2 := ta52 (.agg #[.int .i64 c.n])
          have T3 := ta53 (.agg #[.int .i64 c.n])
          have T4 := ta54 (.agg #[.int .i64 c.n])
          have T5 := ta55 (.agg #[.int .i64 c.n])
          go_enter Tryz.func75, Tryz.ntmps75
          go_wp2_with fail
          refine (icond5_is c e1 e2 e3 e4 e5 _).mono ?_
          rintro e w1 ⟨rfl, b1⟩
          have HB1 := Lib.hid (next HB.out b1)
          have HA1 := Lib.hid (HA.out.below b1)
          have lt1 : w.heap.size < w1.heap.size := HA1.out.lt (by show 0 < 8; omega)
          have ne1 : ¬ w.heap.size = w1.heap.size := by omega
          have hs1 := HB1.out.size
          clear b1
          obtain ⟨⟨q0, q1, q2, q3, q4, q5, q6, q7⟩, _⟩ := HA1.out.z8
          have HB2 := Lib.hid (HB1.out.alloc hs1 (.cells #[.int .i64 c.n] 113))
          go_wp2_with fail
          go_ret
          exact ⟨ret_bool (by rw [← HX.out]; simp [hn2]), HB2.out⟩
      · have ho : isH c.n = false := by simp [isH, hn1]
        have HX := Lib.hid (show false = x by rw [← KX.out]; simp [condOk, noR, hi5, hr.1, hr.2, ho])
        clear hi1 hi2 hi3 hi4 hi5 hr hd ho
        have T1 := ta51 (.agg #[.int .i64 c.n])
        have T2 := ta52 (.agg #[.int .i64 c.n])
        have T3 := ta53 (.agg #[.int .i64 c.n])
        have T4 := ta54 (.agg #[.int .i64 c.n])
        have T5 := ta55 (.agg #[.int .i64 c.n])
        go_enter Tryz.func75, Tryz.ntmps75
        go_wp2_with fail
        refine (icond5_is c e1 e2 e3 e4 e5 _).mono ?_
        rintro e w1 ⟨rfl, b1⟩
        have HB1 := Lib.hid (next HB.out b1)
        have HA1 := Lib.hid (HA.out.below b1)
        have lt1 : w.heap.size < w1.heap.size := HA1.out.lt (by show 0 < 8; omega)
        have ne1 : ¬ w.heap.size = w1.heap.size := by omega
        have hs1 := HB1.out.size
        clear b1
        obtain ⟨⟨q0, q1, q2, q3, q4, q5, q6, q7⟩, _⟩ := HA1.out.z8
        have HB2 := Lib.hid (HB1.out.alloc hs1 (.cells #[.int .i64 c.n] 113))
        go_wp2_with fail
        go_ret
        exact ⟨ret_bool HX.out, HB2.out⟩
    · have hd : decide (c.f = 0 ∧ c.b = 0) = false := decide_eq_false hr
      simp only [hd] at HQ
      have hr2 : (decide (c.f = 0) && decide (c.b = 0)) = false := by rw [← Bool.decide_and]; exact hd
      have HX := Lib.hid (show false = x by rw [← KX.out]; simp [condOk, noR, hi5, hr2])
      clear hi1 hi2 hi3 hi4 hi5 hr hd hr2
      have T1 := ta51 (.agg #[.int .i64 c.n])
      have T2 := ta52 (.agg #[.int .i64 c.n])
      have T3 := ta53 (.agg #[.int .i64 c.n])
      have T4 := ta54 (.agg #[.int .i64 c.n])
      have T5 := ta55 (.agg #[.int .i64 c.n])
      go_enter Tryz.func75, Tryz.ntmps75
      go_wp2_with fail
      refine (icond5_is c e1 e2 e3 e4 e5 _).mono ?_
      rintro e w1 ⟨rfl, b1⟩
      have HB1 := Lib.hid (next HB.out b1)
      have HA1 := Lib.hid (HA.out.below b1)
      have lt1 : w.heap.size < w1.heap.size := HA1.out.lt (by show 0 < 8; omega)
      have ne1 : ¬ w.heap.size = w1.heap.size := by omega
      have hs1 := HB1.out.size
      clear b1
      obtain ⟨⟨q0, q1, q2, q3, q4, q5, q6, q7⟩, _⟩ := HA1.out.z8
      have HB2 := Lib.hid (HB1.out.alloc hs1 (.cells #[.int .i64 c.n] 113))
      go_wp2_with fail
      go_ret
      exact ⟨ret_bool HX.out, HB2.out⟩
  have e1 : (c.i == 1) = false := by simp [hi1]
  have e2 : (c.i == 2) = false := by simp [hi2]
  have e3 : (c.i == 3) = false := by simp [hi3]
  have e4 : (c.i == 4) = false := by simp [hi4]
  have e5 : (c.i == 5) = false := by simp [hi5]
  have HX := Lib.hid (show false = x by rw [← KX.out]; simp [condOk, noR, hi1, hi2, hi3, hi4, hi5])
  clear hi1 hi2 hi3 hi4 hi5
  have T1 := ta01
  have T2 := ta02
  have T3 := ta03
  have T4 := ta04
  have T5 := ta05
  go_enter Tryz.func75, Tryz.ntmps75
  go_wp2_with fail
  refine (icond0_is c e1 e2 e3 e4 e5 _).mono ?_
  rintro e w1 ⟨rfl, b1⟩
  have HB1 := Lib.hid (next HB.out b1)
  have HA1 := Lib.hid (HA.out.below b1)
  have lt1 : w.heap.size < w1.heap.size := HA1.out.lt (by show 0 < 8; omega)
  have ne1 : ¬ w.heap.size = w1.heap.size := by omega
  have hs1 := HB1.out.size
  clear b1
  obtain ⟨⟨q0, q1, q2, q3, q4, q5, q6, q7⟩, _⟩ := HA1.out.z8
  have HB2 := HB1
  go_wp2_with fail
  go_ret
  exact ⟨ret_bool HX.out, HB2.out⟩

theorem clOk_no1 {c : CL} (h : condOk c = false) : clOk c = false := by simp [clOk, h]
theorem clOk_lo {c : CL} (h : ¬ -1 ≤ c.l) : clOk c = false := by simp [clOk, doOk, h]
theorem clOk_hi {c : CL} (h : ¬ c.l ≤ 9) : clOk c = false := by simp [clOk, doOk, h]
theorem clOk_m {c : CL} (h : isM0 c.m = false) : clOk c = false := by simp [clOk, doOk, h]
theorem clOk_last {c : CL} (h0 : condOk c = true) (h1 : -1 ≤ c.l) (h2 : c.l ≤ 9) (h3 : isM0 c.m = true) : clOk c = isM0 c.k := by simp [clOk, doOk, h0, h1, h2, h3]
set_option maxHeartbeats 1000000 in
theorem iclo_is (c : CL) {x : Bool} (k : clOk c = x) (w : World) :
    Calls Tryz.prog 59 #[clV c] w fun e w' => e = .returned (.bool x) ∧ Below w.heap.size w w' := by
  have KX := Lib.hid k
  have HB := Lib.hid ((Below.refl w.heap.size w).alloc (Nat.le_refl _) (.cells (clA c) 59))
  have HA := Lib.hid (AtL.new w c 59)
  clear k
  go_enter Tryz.func59, Tryz.ntmps59
  go_wp2_with fail
  cases h0 : condOk c with
  | false =>
    have HX := Lib.hid (show false = x by rw [← KX.out, clOk_no1 h0])
    refine (icok_is c h0 _).mono ?_
    rintro e w1 ⟨rfl, b1⟩
    have HB1 := Lib.hid (next HB.out b1)
    clear b1
    go_wp2_with fail
    go_ret
    exact ⟨ret_bool HX.out, HB1.out⟩
  | true =>
    refine (icok_is c h0 _).mono ?_
    rintro e w1 ⟨rfl, b1⟩
    have HB1 := Lib.hid (next HB.out b1)
    have HA1 := Lib.hid (HA.out.below b1)
    clear b1
    obtain ⟨⟨q0, q1, q2, q3, q4, q5, q6, q7⟩, _⟩ := HA1.out.z8
    by_cases hl : -1 ≤ c.l
    · by_cases hh : c.l ≤ 9
      · cases hm : isM0 c.m with
        | false =>
          have HX := Lib.hid (show false = x by rw [← KX.out, clOk_m hm])
          go_wp2_with fail
          refine (cmark0_is hm _).mono ?_
          rintro e w2 ⟨rfl, rfl⟩
          go_wp2_with fail
          go_ret
          exact ⟨ret_bool HX.out, HB1.out⟩
        | true =>
          have HX := Lib.hid (show isM0 c.k = x by rw [← KX.out, clOk_last h0 hl hh hm])
          go_wp2_with fail
          refine (cmark0_is hm _).mono ?_
          rintro e w2 ⟨rfl, rfl⟩
          go_wp2_with fail
          refine (cmark0_is HX.out _).mono ?_
          rintro e w2 ⟨rfl, rfl⟩
          go_wp2_with fail
          go_ret
          exact ⟨rfl, HB1.out⟩
      · have HX := Lib.hid (show false = x by rw [← KX.out, clOk_hi hh])
        go_wp2_with fail
        go_ret
        exact ⟨ret_bool HX.out, HB1.out⟩
    · have HX := Lib.hid (show false = x by rw [← KX.out, clOk_lo hl])
      go_wp2_with fail
      go_ret
      exact ⟨ret_bool HX.out, HB1.out⟩
theorem ipol1_is (c : CL) {x : Bool} (k : clOk c = x) (w : World) :
    Calls Tryz.prog 58 #[clV c] w fun e w' => e = .returned (.bool (!x)) ∧ Below w.heap.size w w' := by
  have KX := Lib.hid k
  have HB := Lib.hid ((Below.refl w.heap.size w).alloc (Nat.le_refl _) (.cells (clA c) 59))
  clear k
  go_enter Tryz.func58, Tryz.ntmps58
  go_wp2_with fail
  refine (iclo_is c KX.out _).mono ?_
  rintro e w1 ⟨rfl, b1⟩
  have HB1 := Lib.hid (next HB.out b1)
  clear b1
  go_wp2_with fail
  go_ret
  exact ⟨rfl, HB1.out⟩

set_option maxHeartbeats 2000000 in
/-- is there a clause that is not ok: its place -/
theorem idxC_is (L : List CL) {z : Bool} (hz : L.all clOk = z) (a : Option Addr) (cap n : Nat) (w : World) (hn : n = L.length) (hA : CsA w a L) (hl : L.length ≤ 2000000) :
    Calls Tryz.prog 74 #[.slice a n cap, .func (.func 58) #[] #[]] w fun e w' => ∃ i : Int, e = .returned (.int .i64 i) ∧ decide (0 ≤ i) = !z ∧ Below w.heap.size w w' := by
  subst hn
  have KX := Lib.hid hz
  have HA := Lib.hid hA
  clear hz hA
  go_enter Tryz.func74, Tryz.ntmps74
  go_wp2_with fail
  go_loopw [5, 8] (fun _ i wr => ∃ k : Nat, k ≤ L.length ∧ i = .int .i64 k ∧ Hid (∀ (j : Nat) c, j < k → L[j]? = some c → clOk c = true) ∧ Hid (Below w.heap.size w wr)) (fun _ i _ => L.length - (intOf i).toNat)
  case atStart => exact ⟨0, Nat.zero_le _, rfl, Lib.hid (fun j c hj => by omega), Lib.hid (Below.refl _ _)⟩
  case round =>
    obtain ⟨k, hk, rfl, HN, HB⟩ := hrel
    by_cases hlt : k < L.length
    · obtain ⟨c, hc⟩ : ∃ c, L[k]? = some c := ⟨_, List.getElem?_eq_getElem hlt⟩
      have HC := Lib.hid hc
      obtain ⟨b, off, rfl, q0, q1, q2, q3, q4, q5, q6, q7⟩ := (HA.out.below HB.out).at hc
      have i0 : (0 : Int) ≤ (k : Int) := by omega
      have i1 : (k : Int) < (L.length : Int) := by omega
      clear hc
      cases ho : clOk c with
      | false =>
        have HX := Lib.hid (show z = false by
          rw [← KX.out, ← Bool.not_eq_true, List.all_eq_true]
          intro h
          have := h c (List.mem_of_getElem? HC.out)
          rw [ho] at this; cases this)
        go_wp2_with fail
        refine (ipol1_is c ho _).mono ?_
        rintro e w2 ⟨rfl, b2⟩
        have HB2 := Lib.hid (next HB.out b2)
        clear b2
        go_wp2_with fail
        go_ret
        exact ⟨_, rfl, by rw [HX.out]; simp, HB2.out⟩
      | true =>
        have HN2 : Hid (∀ (j : Nat) d, j < k + 1 → L[j]? = some d → clOk d = true) := Lib.hid (fun j d hj hd => by
          by_cases e : j = k
          · subst e; rw [HC.out] at hd; cases hd; exact ho
          · exact HN.out j d (by omega) hd)
        go_wp2_with fail
        refine (ipol1_is c ho _).mono ?_
        rintro e w2 ⟨rfl, b2⟩
        have HB2 := Lib.hid (next HB.out b2)
        clear b2 q0 q1 q2 q3 q4 q5 q6 q7
        go_wp2_with fail
        go_roundw
        case rel => exact ⟨k + 1, by omega, by go_num, HN2, HB2⟩
        case measure => simp [intOf]; omega
    · obtain rfl : k = L.length := by omega
      have HX := Lib.hid (show z = true by
        rw [← KX.out, List.all_eq_true]
        intro c hc
        obtain ⟨j, hj⟩ := List.mem_iff_getElem?.1 hc
        exact HN.out j c (List.getElem?_eq_some_iff.1 hj).1 hj)
      go_wp2_with fail
      go_ret
      exact ⟨_, rfl, by rw [HX.out]; rfl, HB.out⟩
set_option maxHeartbeats 2000000 in
theorem hasC_is (L : List CL) {z : Bool} (hz : L.all clOk = z) (a : Option Addr) (cap n : Nat) (w : World) (hn : n = L.length) (hA : CsA w a L) (hl : L.length ≤ 2000000) :
    Calls Tryz.prog 57 #[.slice a n cap, .func (.func 58) #[] #[]] w fun e w' => e = .returned (.bool (!z)) ∧ Below w.heap.size w w' := by
  subst hn
  have KX := Lib.hid hz
  have HA := Lib.hid hA
  clear hz hA
  go_enter Tryz.func57, Tryz.ntmps57
  go_wp2_with fail
  refine (idxC_is L KX.out a cap _ _ rfl HA.out hl).mono ?_
  rintro e w1 ⟨i, rfl, hi, b1⟩
  have HB1 := Lib.hid b1
  have HI := Lib.hid hi
  clear b1 hi
  go_wp2_with fail
  go_ret
  exact ⟨ret_bool HI.out, HB1.out⟩
set_option maxHeartbeats 2000000 in
theorem ipolok_is (L : List CL) {x : Bool} (k : polOk L = x) (a : Option Addr) (cap n : Nat) (w : World) (hn : n = L.length) (hA : CsA w a L) (hl : L.length ≤ 2000000) :
    Calls Tryz.prog 34 #[.slice a n cap] w fun e w' => e = .returned (.bool x) ∧ Below w.heap.size w w' := by
  subst hn
  have HA := Lib.hid hA
  clear hA
  by_cases h5 : L.length ≤ 5
  · have HX := Lib.hid (show L.all clOk = x by rw [← k]; simp [polOk, h5])
    have i5 : (L.length : Int) ≤ 5 := by omega
    clear k
    go_enter Tryz.func34, Tryz.ntmps34
    go_wp2_with fail
    refine (hasC_is L HX.out a cap _ _ rfl HA.out hl).mono ?_
    rintro e w1 ⟨rfl, b1⟩
    have HB1 := Lib.hid b1
    clear b1
    go_wp2_with fail
    go_ret
    exact ⟨ret_bool (by simp), HB1.out⟩
  · have HX := Lib.hid (show false = x by rw [← k, polOk_len h5])
    have i5 : ¬ (L.length : Int) ≤ 5 := by omega
    clear k
    go_enter Tryz.func34, Tryz.ntmps34
    go_wp2_with fail
    go_ret
    exact ⟨ret_bool HX.out, Below.refl _ _⟩
end Go.Proofs.YtioppkalehnoaaaGreatDoor
