/-
  The draws of two ranges.
-/
import Derived.Test.YtglmoacgaacmeaaDoorDrawU
namespace Go.Proofs.YtglmoacgaacmeaaDoor
open Go.RowKit
set_option linter.unusedSimpArgs false

set_option maxHeartbeats 800000 in
theorem dCmp_any (a : Option Addr) (len cap : Nat) (zs : List Int) (w : World) (h : IsRow w a len cap zs) :
    Calls Tryd.prog 17 #[.slice a len cap] w (Drawn2 w) := by
  have H := Lib.hid (isRow_alloc (isRow_alloc h (.cells #[.int .i64 0, .int .i64 0] 25)) (.cells #[.int .i64 0, .int .i64 0] 25))
  clear h
  have rR := (At.new w 0 0 25).alloc (.cells #[.int .i64 0, .int .i64 0] 25)
  have rQ := At.new (w.alloc (.cells #[.int .i64 0, .int .i64 0] 25)) 0 0 25
  simp only [World.size_alloc] at rQ
  go_enter Tryd.func17, Tryd.ntmps17
  go_wp2_with fail
  refine (open_any a len cap zs _ H.out).mono ?_
  rintro e w1 ⟨rfl, hr1, hb1⟩
  replace rR := rR.below hb1
  replace rQ := rQ.below hb1
  have B1 : Below w.heap.size w w1 := next (alloc2 _ _ _) hb1
  have hs1 := rQ.lt
  clear hb1
  simp only [World.size_alloc] at hr1
  go_wp2_with fail
  refine (two_any _ _ hr1).mono ?_
  rintro e w2 ⟨f, b, g, c, hs, hs', rfl, hg2⟩
  replace rR := rR.only hg2 (by omega)
  replace rQ := rQ.only hg2 (by omega)
  have B2 : Below w.heap.size w w2 := below_only B1 hg2 (by omega) (by omega)
  have HS := Lib.hid hs
  have HS' := Lib.hid hs'
  clear hr1 hg2 B1 hs hs'
  obtain ⟨k0, k1, k2, k3⟩ := id rR
  obtain ⟨q0, q1, q2, q3⟩ := id rQ
  have T1 := (rR.put f b).far2 (Q := w.heap.size + 1) (.int .i64 g) (.int .i64 c) (by omega)
  have T2 := (rQ.far2 (Q := w.heap.size) (.int .i64 f) (.int .i64 b) (by omega)).put g c
  have B3 := below_set2 (below_set2 B2 (.int .i64 f) (.int .i64 b) (Nat.le_refl _)) (.int .i64 g) (.int .i64 c) (show w.heap.size ≤ w.heap.size + 1 by omega)
  clear rR rQ B2
  go_wp2
  obtain ⟨r0, r1, _, _⟩ := T1
  obtain ⟨s0, s1, _, _⟩ := T2
  generalize (((World.setCell w2 ⟨w.heap.size, 0, none⟩ (.int .i64 f)).setCell ⟨w.heap.size, 1, none⟩ (.int .i64 b)).setCell ⟨w.heap.size + 1, 0, none⟩ (.int .i64 g)).setCell ⟨w.heap.size + 1, 1, none⟩ (.int .i64 c) = V at *
  exact bodyPost_ret (v := .tuple #[.agg #[.int .i64 f, .int .i64 b], .agg #[.int .i64 g, .int .i64 c]]) (by simp [results, Tryd.results17, go_sem, r0, r1, s0, s1]) rfl ⟨_, _, _, _, HS.out, HS'.out, rfl, B3⟩

end Go.Proofs.YtglmoacgaacmeaaDoor
