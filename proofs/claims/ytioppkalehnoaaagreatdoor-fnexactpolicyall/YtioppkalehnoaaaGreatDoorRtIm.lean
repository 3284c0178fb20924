/-
  The program's copy of a route.
-/
import Derived.Test.YtioppkalehnoaaaGreatDoorRtIns
import Derived.Test.YtioppkalehnoaaaGreatDoorRtMs
namespace Go.Proofs.YtioppkalehnoaaaGreatDoor
open Go.RowKit
set_option linter.unusedSimpArgs false
set_option linter.unusedVariables false

set_option maxHeartbeats 1000000 in
theorem copied_is (f b : Int) (a : Option Addr) (c : Nat) (P : List Int) (l : Int) (d : Option Addr) (e : Nat) (M : List Int) (w : World) (hm : RtM w a c P d e M) :
    Calls Tryz.prog 81 #[.agg #[.int .i64 f, .int .i64 b, .slice a P.length c, .int .i64 l, .slice d M.length e]] w fun en w' => ∃ pv mv, en = .returned (.agg #[.int .i64 f, .int .i64 b, pv, .int .i64 l, mv]) ∧ OwnRt w (f, b, P, l, M) pv mv w' := by
  have H0 := Lib.hid (Cp.new f b a c P l d e M w)
  have HM := Lib.hid hm
  have hl1 := hm.2.2.2.1
  have hl2 := hm.2.2.2.2
  have hsz : ((w.alloc (.cells #[.int .i64 f, .int .i64 b, .slice a P.length c, .int .i64 l, .slice d M.length e] 32)).alloc (.cells #[.int .i64 0, .int .i64 0, .slice none 0 0, .int .i64 0, .slice none 0 0] 32)).heap.size = w.heap.size + 2 := by simp
  clear hm
  go_enter Tryz.func81, Tryz.ntmps81
  go_wp2_with fail
  generalize (w.alloc (.cells #[.int .i64 f, .int .i64 b, .slice a P.length c, .int .i64 l, .slice d M.length e] 32)).alloc (.cells #[.int .i64 0, .int .i64 0, .slice none 0 0, .int .i64 0, .slice none 0 0] 32) = W at *
  refine (clone_is a c _ _ rfl (HM.out.1.1.below H0.out.2.2.2) hl1).mono ?_
  rintro en w5 ⟨v5, rfl, own5, b5⟩
  obtain ⟨a5, c5, rfl, _, _⟩ := OwnI.tab own5
  rw [hsz] at own5
  have H1 := Lib.hid (And.intro (H0.out.later b5) own5)
  have lt5 : w.heap.size < w5.heap.size := H1.out.1.1.lt
  have hs5 := Lib.hid H1.out.1.2.1.lt
  clear own5 b5
  obtain ⟨⟨q0, q1, q2, q3, q4⟩, k0, k1, k2, k3, k4⟩ := H1.out.1.1
  go_wp2_with fail
  refine (clone_is d e _ _ rfl (HM.out.1.2.below (H1.out.1.set _).2.2.2) hl2).mono ?_
  rintro en w7 ⟨v7, rfl, own7, b7⟩
  obtain ⟨a7, c7, rfl, _, _⟩ := OwnI.tab own7
  have B5 := Lib.hid H1.out.2.btw
  have H2 := Lib.hid (And.intro ((H1.out.1.set (.slice a5 P.length c5)).later b7) own7)
  have H5 := Lib.hid (owni_later (owni_set H1.out.2 (q := ⟨w.heap.size, 2, none⟩) (by show w.heap.size < w.heap.size + 2; omega) (.slice a5 P.length c5)) b7)
  clear own7 b7 q0 q1 q2 q3 q4 k0 k1 k2 k3 k4
  simp only [World.size_setCell] at H2
  have HF := Lib.hid (Cp.done (v := .slice a5 P.length c5) (P := P) ⟨H2.out.1.1, H2.out.1.2.1, H5.out, H2.out.1.2.2.2⟩ H2.out.2 B5.out (by have := hs5.out; omega) (.int .i64 f) (.int .i64 b) (.int .i64 l))
  obtain ⟨⟨q0, q1, q2, q3, q4⟩, k0, k1, k2, k3, k4⟩ := H2.out.1.1
  obtain ⟨⟨s0, s1, s2, s3, s4⟩, r0, r1, r2, r3, r4⟩ := H2.out.1.2.1
  go_wp2_with fail
  obtain ⟨⟨⟨g0, g1, g2, g3, g4⟩, _⟩, gO, gU, gB⟩ := HF.out
  unfold set5 at g0 g1 g2 g3 g4
  exact bodyPost_ret (v := .agg #[.int .i64 f, .int .i64 b, .slice a5 P.length c5, .int .i64 l, .slice a7 M.length c7]) (by simp [results, Tryz.results81, go_sem, g0, g1, g2, g3, g4]) rfl ⟨_, _, rfl, _, gO, fun k e => ⟨by have := (B5.out k e).1; omega, (B5.out k e).2⟩, gU, by have := hs5.out; omega, gB⟩
end Go.Proofs.YtioppkalehnoaaaGreatDoor
