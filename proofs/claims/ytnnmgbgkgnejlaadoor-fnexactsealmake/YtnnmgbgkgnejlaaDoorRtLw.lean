/-
  What the laws call on routes: to, sz, eq, ly; and the model's RouteCmp.
-/
import Derived.Test.YtnnmgbgkgnejlaaDoorRtMs
import Derived.Test.YtnnmgbgkgnejlaaDoorRtCmp
namespace Go.Proofs.YtnnmgbgkgnejlaaDoor
open Go.RowKit
set_option linter.unusedSimpArgs false
set_option linter.unusedVariables false

/-- two routes boxed -/
def Bx2 (w : World) (f1 b1 : Int) (a1 : Option Addr) (c1 : Nat) (P1 : List Int) (l1 : Int) (d1 : Option Addr) (e1 : Nat) (M1 : List Int) (f2 b2 : Int) (a2 : Option Addr) (c2 : Nat) (P2 : List Int) (l2 : Int) (d2 : Option Addr) (e2 : Nat) (M2 : List Int) (W : World) : Prop :=
  At5 W w.heap.size (.int .i64 f1) (.int .i64 b1) (.slice a1 P1.length c1) (.int .i64 l1) (.slice d1 M1.length e1) ∧ At5 W (w.heap.size + 1) (.int .i64 f2) (.int .i64 b2) (.slice a2 P2.length c2) (.int .i64 l2) (.slice d2 M2.length e2) ∧ RtM W a1 c1 P1 d1 e1 M1 ∧ RtM W a2 c2 P2 d2 e2 M2 ∧ Below w.heap.size w W
theorem Bx2.new {w : World} (f1 b1 : Int) (a1 : Option Addr) (c1 : Nat) (P1 : List Int) (l1 : Int) (d1 : Option Addr) (e1 : Nat) (M1 : List Int) (f2 b2 : Int) (a2 : Option Addr) (c2 : Nat) (P2 : List Int) (l2 : Int) (d2 : Option Addr) (e2 : Nat) (M2 : List Int) (h1 : RtM w a1 c1 P1 d1 e1 M1) (h2 : RtM w a2 c2 P2 d2 e2 M2) (t t' : TypeId) : Bx2 w f1 b1 a1 c1 P1 l1 d1 e1 M1 f2 b2 a2 c2 P2 l2 d2 e2 M2 ((w.alloc (.cells #[.int .i64 f1, .int .i64 b1, .slice a1 P1.length c1, .int .i64 l1, .slice d1 M1.length e1] t)).alloc (.cells #[.int .i64 f2, .int .i64 b2, .slice a2 P2.length c2, .int .i64 l2, .slice d2 M2.length e2] t')) := by
  obtain ⟨k1, k2, k3⟩ := At5.two w (.int .i64 f1) (.int .i64 b1) (.slice a1 P1.length c1) (.int .i64 l1) (.slice d1 M1.length e1) (.int .i64 f2) (.int .i64 b2) (.slice a2 P2.length c2) (.int .i64 l2) (.slice d2 M2.length e2) t t'
  exact ⟨k1, k2, (h1.alloc _).alloc _, (h2.alloc _).alloc _, k3⟩
section
variable {w W W' : World} {f1 b1 : Int} {a1 : Option Addr} {c1 : Nat} {P1 : List Int} {l1 : Int} {d1 : Option Addr} {e1 : Nat} {M1 : List Int} {f2 b2 : Int} {a2 : Option Addr} {c2 : Nat} {P2 : List Int} {l2 : Int} {d2 : Option Addr} {e2 : Nat} {M2 : List Int}
theorem Bx2.later (h : Bx2 w f1 b1 a1 c1 P1 l1 d1 e1 M1 f2 b2 a2 c2 P2 l2 d2 e2 M2 W) (k : Below W.heap.size W W') : Bx2 w f1 b1 a1 c1 P1 l1 d1 e1 M1 f2 b2 a2 c2 P2 l2 d2 e2 M2 W' := ⟨h.1.below k, h.2.1.below k, h.2.2.1.below k, h.2.2.2.1.below k, next h.2.2.2.2 k⟩
end

/-! eq, ly -/
theorem eqr_is {f b g c : Int} {x : Bool} (h : decide (f = g ∧ b = c) = x) (w : World) :
    Calls Tryd.prog 81 #[.agg #[.int .i64 f, .int .i64 b], .agg #[.int .i64 g, .int .i64 c]] w fun e w' => e = .returned (.bool x) ∧ Below w.heap.size w w' := by
  have HB := Lib.hid (((Below.refl w.heap.size w).alloc (Nat.le_refl _) (.cells #[.int .i64 f, .int .i64 b] 24)).alloc (by simp) (.cells #[.int .i64 g, .int .i64 c] 24))
  by_cases h1 : f = g
  · by_cases h2 : b = c
    · have h1' : (f != g) = false := by simp [h1]
      have h2' : (b != c) = false := by simp [h2]
      have HX := Lib.hid (show true = x by rw [← h]; simp [h1, h2])
      clear h h1 h2
      go_enter Tryd.func81, Tryd.ntmps81
      go_wp2_with fail
      go_ret
      exact ⟨ret_bool HX.out, HB.out⟩
    · have h1' : (f != g) = false := by simp [h1]
      have h2' : (b != c) = true := by simp [h2]
      have HX := Lib.hid (show false = x by rw [← h]; simp [h2])
      clear h h1 h2
      go_enter Tryd.func81, Tryd.ntmps81
      go_wp2_with fail
      go_ret
      exact ⟨ret_bool HX.out, HB.out⟩
  · have h1' : (f != g) = true := by simp [h1]
    have HX := Lib.hid (show false = x by rw [← h]; simp [h1])
    clear h h1
    go_enter Tryd.func81, Tryd.ntmps81
    go_wp2_with fail
    go_ret
    exact ⟨ret_bool HX.out, HB.out⟩

theorem rt_eq {f1 b1 f2 b2 l1 l2 : Int} {P1 P2 M1 M2 : List Int} : (decide (((f1, b1, P1, l1, M1) : Rt) = (f2, b2, P2, l2, M2))) = (decide (f1 = f2 ∧ b1 = b2) && decide (P1 = P2) && decide (l1 = l2) && decide (M1 = M2)) := by
  rw [Bool.eq_iff_iff]
  simp only [decide_eq_true_eq, Prod.mk.injEq, Bool.and_eq_true]
  exact ⟨fun ⟨a, b, c, d, e⟩ => ⟨⟨⟨⟨a, b⟩, c⟩, d⟩, e⟩, fun ⟨⟨⟨⟨a, b⟩, c⟩, d⟩, e⟩ => ⟨a, b, c, d, e⟩⟩

set_option maxHeartbeats 2000000 in
theorem eqrt_is (f1 b1 : Int) (a1 : Option Addr) (c1 : Nat) (P1 : List Int) (l1 : Int) (d1 : Option Addr) (e1 : Nat) (M1 : List Int) (f2 b2 : Int) (a2 : Option Addr) (c2 : Nat) (P2 : List Int) (l2 : Int) (d2 : Option Addr) (e2 : Nat) (M2 : List Int) {x : Bool} (k : decide (((f1, b1, P1, l1, M1) : Rt) = (f2, b2, P2, l2, M2)) = x) (w : World) (hm1 : RtM w a1 c1 P1 d1 e1 M1) (hm2 : RtM w a2 c2 P2 d2 e2 M2) :
    Calls Tryd.prog 39 #[.agg #[.int .i64 f1, .int .i64 b1, .slice a1 P1.length c1, .int .i64 l1, .slice d1 M1.length e1], .agg #[.int .i64 f2, .int .i64 b2, .slice a2 P2.length c2, .int .i64 l2, .slice d2 M2.length e2]] w fun e w' => e = .returned (.bool x) ∧ Below w.heap.size w w' := by
  rw [rt_eq] at k
  have KX := Lib.hid k
  have H0 := Lib.hid (Bx2.new f1 b1 a1 c1 P1 l1 d1 e1 M1 f2 b2 a2 c2 P2 l2 d2 e2 M2 hm1 hm2 27 27)
  have n1 := Lib.hid hm1.2.2.2
  have n2 := Lib.hid hm2.2.2.2
  clear hm1 hm2 k
  go_enter Tryd.func39, Tryd.ntmps39
  go_wp2_with fail
  cases hr : decide (f1 = f2 ∧ b1 = b2) with
  | false =>
    have HX := Lib.hid (show false = x by rw [← KX.out, hr]; rfl)
    refine (eqr_is hr _).mono ?_
    rintro e w1 ⟨rfl, b1'⟩
    have R := Lib.hid (next H0.out.2.2.2.2 b1')
    clear b1'
    go_wp2_with fail
    go_ret
    exact ⟨ret_bool HX.out, R.out⟩
  | true =>
    refine (eqr_is hr _).mono ?_
    rintro e w1 ⟨rfl, b1'⟩
    have H1 := Lib.hid (H0.out.later b1')
    clear b1' H0
    obtain ⟨⟨q0, q1, q2, q3, q4⟩, _⟩ := H1.out.1
    obtain ⟨⟨s0, s1, s2, s3, s4⟩, _⟩ := H1.out.2.1
    go_wp2_with fail
    clear q0 q1 q2 q3 q4 s0 s1 s2 s3 s4
    cases hp : decide (P1 = P2) with
    | false =>
      have HX := Lib.hid (show false = x by rw [← KX.out, hr, hp]; rfl)
      refine (eqI_is hp a1 a2 c1 c2 _ _ _ rfl rfl H1.out.2.2.1.1.1 H1.out.2.2.2.1.1.1 (by have := n1.out; omega) (by have := n2.out; omega)).mono ?_
      rintro e w2 ⟨rfl, b2'⟩
      have R := Lib.hid (next H1.out.2.2.2.2 b2')
      clear b2'
      go_wp2_with fail
      go_ret
      exact ⟨ret_bool HX.out, R.out⟩
    | true =>
      refine (eqI_is hp a1 a2 c1 c2 _ _ _ rfl rfl H1.out.2.2.1.1.1 H1.out.2.2.2.1.1.1 (by have := n1.out; omega) (by have := n2.out; omega)).mono ?_
      rintro e w2 ⟨rfl, b2'⟩
      have H2 := Lib.hid (H1.out.later b2')
      clear b2' H1
      obtain ⟨⟨q0, q1, q2, q3, q4⟩, _⟩ := H2.out.1
      obtain ⟨⟨s0, s1, s2, s3, s4⟩, _⟩ := H2.out.2.1
      by_cases hl : l1 = l2
      · have hl' : (l1 != l2) = false := by simp [hl]
        have HX := Lib.hid (show decide (M1 = M2) = x by rw [← KX.out, hr, hp]; simp [hl])
        clear hl
        go_wp2_with fail
        clear q0 q1 q2 q3 q4 s0 s1 s2 s3 s4
        refine (eqI_is HX.out d1 d2 e1 e2 _ _ _ rfl rfl H2.out.2.2.1.1.2 H2.out.2.2.2.1.1.2 (by have := n1.out; omega) (by have := n2.out; omega)).mono ?_
        rintro e w3 ⟨rfl, b3⟩
        have R := Lib.hid (next H2.out.2.2.2.2 b3)
        clear b3
        cases x with
        | true =>
          go_wp2_with fail
          go_ret
          exact ⟨rfl, R.out⟩
        | false =>
          go_wp2_with fail
          go_ret
          exact ⟨rfl, R.out⟩
      · have hl' : (l1 != l2) = true := by simp [hl]
        have HX := Lib.hid (show false = x by rw [← KX.out, hr, hp]; simp [hl])
        clear hl
        go_wp2_with fail
        go_ret
        exact ⟨ret_bool HX.out, H2.out.2.2.2.2⟩

theorem eqlRg (g c f b : Int) (w : World) : (binOp .eql 24 (.agg #[.int .i64 g, .int .i64 c]) (.agg #[.int .i64 f, .int .i64 b])).run Tryd.prog w = .ok (.bool (decide (g = f ∧ c = b))) w := by
  by_cases h1 : g = f
  · subst h1
    by_cases h2 : c = b
    · subst h2
      go_simp
    · go_simp
  · go_simp

end Go.Proofs.YtnnmgbgkgnejlaaDoor
