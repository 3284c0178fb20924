/-
  The draws of chapter 1's laws: whatever the bytes, small numbers come out, and nothing that was there turns.
-/
import Derived.Test.YtglmoacgaacmeaaDrawR
import Derived.Test.YtglmoacgaacmeaaBox
import Derived.Test.YtglmoacgaacmeaaWalksC
namespace Go.Proofs.Ytglmoacgaacmeaa
open Go.RowKit
set_option linter.unusedSimpArgs false

def Small (f b : Int) : Prop := -2 ≤ f ∧ f ≤ 257 ∧ -1 ≤ b ∧ b ≤ 9
def Drawn1 (w : World) (e : Ending) (w' : World) : Prop := ∃ f b, Small f b ∧ e = .returned (.agg #[.int .i64 f, .int .i64 b]) ∧ Below w.heap.size w w'
def DrawnB (w : World) (e : Ending) (w' : World) : Prop := ∃ f b, ∃ u : Bool, Small f b ∧ e = .returned (.tuple #[.agg #[.int .i64 f, .int .i64 b], .bool u]) ∧ Below w.heap.size w w'
def DrawnA (w : World) (e : Ending) (w' : World) : Prop := ∃ f b a, Small f b ∧ (-2 ≤ a ∧ a ≤ 1000) ∧ e = .returned (.tuple #[.agg #[.int .i64 f, .int .i64 b], .int .i64 a]) ∧ Below w.heap.size w w'
def Drawn2 (w : World) (e : Ending) (w' : World) : Prop := ∃ f b g c, Small f b ∧ Small g c ∧ e = .returned (.tuple #[.agg #[.int .i64 f, .int .i64 b], .agg #[.int .i64 g, .int .i64 c]]) ∧ Below w.heap.size w w'

theorem isRow_alloc {w : World} {a : Option Addr} {len cap : Nat} {zs : List Int} (h : IsRow w a len cap zs) (o : Obj) : IsRow (w.alloc o) a len cap zs := by
  rcases h with h | ⟨x, rfl, h1, hm, hz, hc, hw⟩
  · exact .inl h
  · exact .inr ⟨x, rfl, h1, hm, hz, fun i hi => cellA (hc i hi) o, hw⟩

set_option maxHeartbeats 400000 in
theorem dMany_any (a : Option Addr) (len cap : Nat) (zs : List Int) (w : World) (h : IsRow w a len cap zs) :
    Calls Try.prog 34 #[.slice a len cap] w (Drawn1 w) := by
  have H := Lib.hid (isRow_alloc h (.cells #[.int .i64 0, .int .i64 0] 25))
  clear h
  have r0 := At.new w 0 0 25
  go_enter Try.func34, Try.ntmps34
  go_wp2_with fail
  refine (open_any a len cap zs _ H.out).mono ?_
  rintro e w1 ⟨rfl, hr1, hb1⟩
  replace r0 := r0.below hb1
  have hb1' : Below w.heap.size w w1 := below_box hb1 (by simp)
  have hs1 := r0.lt
  clear hb1
  simp only [World.size_alloc] at hr1
  go_wp2_with fail
  refine (range_any _ _ 0 (by omega) hr1).mono ?_
  rintro e w2 ⟨f, b, p', hs, rfl, hr2, _, hg2⟩
  replace r0 := r0.only hg2 (by omega)
  have hb2 : Below w.heap.size w w2 := below_only hb1' hg2 (by omega) (by omega)
  obtain ⟨c0, c1, f0, f1⟩ := r0
  have r1 := At.put ⟨c0, c1, f0, f1⟩ f b
  have hb3 := below_set2 hb2 (.int .i64 f) (.int .i64 b) (Nat.le_refl _)
  clear hr1 hr2 hg2 hb1' hb2
  go_wp2
  obtain ⟨d0, d1, _, _⟩ := r1
  exact bodyPost_ret (v := .agg #[.int .i64 f, .int .i64 b]) (by simp [results, Try.results34, go_sem, d0, d1]) rfl ⟨f, b, hs, rfl, hb3⟩

set_option maxHeartbeats 400000 in
theorem dHalf_any (a : Option Addr) (len cap : Nat) (zs : List Int) (w : World) (h : IsRow w a len cap zs) :
    Calls Try.prog 38 #[.slice a len cap] w (DrawnB w) := by
  have H := Lib.hid (isRow_alloc h (.cells #[.int .i64 0, .int .i64 0] 25))
  clear h
  have r0 := At.new w 0 0 25
  go_enter Try.func38, Try.ntmps38
  go_wp2_with fail
  refine (open_any a len cap zs _ H.out).mono ?_
  rintro e w1 ⟨rfl, hr1, hb1⟩
  replace r0 := r0.below hb1
  have hb1' : Below w.heap.size w w1 := below_box hb1 (by simp)
  have hs1 := r0.lt
  clear hb1
  simp only [World.size_alloc] at hr1
  go_wp2_with fail
  refine (range_any _ _ 0 (by omega) hr1).mono ?_
  rintro e w2 ⟨f, b, p', hs, rfl, hr2, hp2, hg2⟩
  replace r0 := r0.only hg2 (by omega)
  have hb2 : Below w.heap.size w w2 := below_only hb1' hg2 (by omega) (by omega)
  have hs2 := r0.lt
  clear hr1 hg2 hb1'
  go_wp2_with fail
  refine (pick_any 2 _ _ p' (by omega) (by omega) hr2).mono ?_
  rintro e w3 ⟨x3, x3l, x3u, rfl, hr3, hg3⟩
  replace r0 := r0.only hg3 (by omega)
  have hb3 : Below w.heap.size w w3 := below_only hb2 hg3 (by omega) (by omega)
  obtain ⟨c0, c1, f0, f1⟩ := r0
  have r1 := At.put ⟨c0, c1, f0, f1⟩ f b
  have hb4 := below_set2 hb3 (.int .i64 f) (.int .i64 b) (Nat.le_refl _)
  clear hr2 hr3 hg3 hb2 hb3
  go_wp2
  obtain ⟨d0, d1, _, _⟩ := r1
  exact bodyPost_ret (v := .tuple #[.agg #[.int .i64 f, .int .i64 b], .bool (x3 == 0)]) (by simp [results, Try.results38, go_sem, d0, d1]) rfl ⟨f, b, _, hs, rfl, hb4⟩

set_option maxHeartbeats 400000 in
theorem dOk_any (a : Option Addr) (len cap : Nat) (zs : List Int) (w : World) (h : IsRow w a len cap zs) :
    Calls Try.prog 40 #[.slice a len cap] w (Drawn1 w) := by
  have H := Lib.hid (isRow_alloc h (.cells #[.int .i64 0, .int .i64 0] 25))
  clear h
  have r0 := At.new w 0 0 25
  go_enter Try.func40, Try.ntmps40
  go_wp2_with fail
  refine (open_any a len cap zs _ H.out).mono ?_
  rintro e w1 ⟨rfl, hr1, hb1⟩
  replace r0 := r0.below hb1
  have hb1' : Below w.heap.size w w1 := below_box hb1 (by simp)
  have hs1 := r0.lt
  clear hb1
  simp only [World.size_alloc] at hr1
  go_wp2_with fail
  refine (pick_any 2 _ _ 0 (by omega) (by omega) hr1).mono ?_
  rintro e w2 ⟨x2, x2l, x2u, rfl, hr2, hg2⟩
  replace r0 := r0.only hg2 (by omega)
  have hb2 : Below w.heap.size w w2 := below_only hb1' hg2 (by omega) (by omega)
  have hs2 := r0.lt
  clear hr1 hg2 hb1'
  by_cases h2 : x2 = 0
  · have h2' : (x2 == 0) = true := by simp [h2]
    clear h2
    go_wp2_with fail
    refine (pick_any 260 _ _ 1 (by omega) (by omega) hr2).mono ?_
    rintro e w3 ⟨x3, x3l, x3u, rfl, hr3, hg3⟩
    replace r0 := r0.only hg3 (by omega)
    have hb3 : Below w.heap.size w w3 := below_only hb2 hg3 (by omega) (by omega)
    have hs3 := r0.lt
    clear hr2 hg3 hb2
    go_wp2_with fail
    refine (pick_any 11 _ _ 2 (by omega) (by omega) hr3).mono ?_
    rintro e w4 ⟨x4, x4l, x4u, rfl, hr4, hg4⟩
    replace r0 := r0.only hg4 (by omega)
    have hb4 : Below w.heap.size w w4 := below_only hb3 hg4 (by omega) (by omega)
    obtain ⟨c0, c1, f0, f1⟩ := r0
    have r1 := At.put ⟨c0, c1, f0, f1⟩ (x3 - 2) (x4 - 1)
    have hb5 := below_set2 hb4 (.int .i64 (x3 - 2)) (.int .i64 (x4 - 1)) (Nat.le_refl _)
    clear hr3 hr4 hg4 hb3 hb4
    go_wp2
    obtain ⟨d0, d1, _, _⟩ := r1
    exact bodyPost_ret (v := .agg #[.int .i64 (x3 - 2), .int .i64 (x4 - 1)]) (by simp [results, Try.results40, go_sem, d0, d1]) rfl ⟨_, _, ⟨by omega, by omega, by omega, by omega⟩, rfl, hb5⟩
  · have h2' : (x2 == 0) = false := by simp [h2]
    clear h2
    go_wp2_with fail
    refine (range_any _ _ 1 (by omega) hr2).mono ?_
    rintro e w3 ⟨f, b, p', hs, rfl, hr3, _, hg3⟩
    replace r0 := r0.only hg3 (by omega)
    have hb3 : Below w.heap.size w w3 := below_only hb2 hg3 (by omega) (by omega)
    obtain ⟨c0, c1, f0, f1⟩ := r0
    have r1 := At.put ⟨c0, c1, f0, f1⟩ f b
    have hb4 := below_set2 hb3 (.int .i64 f) (.int .i64 b) (Nat.le_refl _)
    clear hr2 hr3 hg3 hb2 hb3
    go_wp2
    obtain ⟨d0, d1, _, _⟩ := r1
    exact bodyPost_ret (v := .agg #[.int .i64 f, .int .i64 b]) (by simp [results, Try.results40, go_sem, d0, d1]) rfl ⟨f, b, hs, rfl, hb4⟩

end Go.Proofs.Ytglmoacgaacmeaa
