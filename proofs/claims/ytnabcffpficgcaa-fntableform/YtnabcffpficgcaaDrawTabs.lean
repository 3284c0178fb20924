/-
  What the draws of tables hand back.
-/
import Derived.Test.YtnabcffpficgcaaDrawTab
import Derived.Test.YtnabcffpficgcaaExH
namespace Go.Proofs.Ytnabcffpficgcaa
open Go.RowKit
set_option linter.unusedSimpArgs false
set_option linter.unusedVariables false

theorem owns_tabA {w : World} {R n cap : Nat} {a : Option Addr} {T : List E} (h : Owns w R (.slice a n cap) T) : TabA w a T := by
  obtain ⟨a', c', e, t⟩ := Owns.tab h
  simp at e
  rw [e.1]; exact t
theorem tabA_get {w : World} {b off : Nat} {T : List E} (h : TabA w (some ⟨b, off, none⟩) T) {k : Nat} {e : E} (hk : T[k]? = some e) :
    w.cell? ⟨b, off + k * 3, none⟩ = some (.int .i64 e.1) ∧ w.cell? ⟨b, off + k * 3 + 1, none⟩ = some (.int .i64 e.2.1) ∧ w.cell? ⟨b, off + k * 3 + 2, none⟩ = some (.int .i64 e.2.2) := by
  rcases h with rfl | ⟨b', off', e', h⟩
  · simp at hk
  · obtain ⟨rfl, rfl⟩ : b = b' ∧ off = off' := by simpa using e'
    exact h k e hk

theorem tless_len' (T : List E) : (tlessM T).length ≤ 12 := by
  unfold tlessM
  split
  · rename_i h
    have := outK_len T T.length
    rw [outK_all] at this
    exact Nat.le_trans this (tab_good h).2
  · simp
/-- a drawn table -/
def DrawnT (w : World) (e : Ending) (w' : World) : Prop := ∃ v T, T.length ≤ 14 ∧ e = .returned v ∧ Owns w' w.heap.size v T ∧ Below w.heap.size w w'
/-- a drawn table and a number -/
def DrawnTN (w : World) (e : Ending) (w' : World) : Prop := ∃ v T x, T.length ≤ 14 ∧ (0 ≤ x ∧ x ≤ 511) ∧ e = .returned (.tuple #[v, .int .i64 x]) ∧ Owns w' w.heap.size v T ∧ Below w.heap.size w w'
/-- a drawn table and an entry -/
def DrawnTE (w : World) (e : Ending) (w' : World) : Prop := ∃ v T f b u, T.length ≤ 14 ∧ e = .returned (.tuple #[v, .agg #[.int .i64 f, .int .i64 b, .int .i64 u]]) ∧ Owns w' w.heap.size v T ∧ Below w.heap.size w w'
/-- a drawn table and a range -/
def DrawnTR (w : World) (e : Ending) (w' : World) : Prop := ∃ v T f b, T.length ≤ 14 ∧ e = .returned (.tuple #[v, .agg #[.int .i64 f, .int .i64 b]]) ∧ Owns w' w.heap.size v T ∧ Below w.heap.size w w'
/-- two drawn tables -/
def DrawnTT (w : World) (e : Ending) (w' : World) : Prop := ∃ v T u U, T.length ≤ 14 ∧ U.length ≤ 14 ∧ e = .returned (.tuple #[v, u]) ∧ Owns w' w.heap.size v T ∧ Owns w' w.heap.size u U ∧ Below w.heap.size w w'

set_option maxRecDepth 100000 in
set_option maxHeartbeats 1000000 in
theorem dTabOk_any (a : Option Addr) (len cap : Nat) (zs : List Int) (w : World) (h : IsRow w a len cap zs) :
    Calls Try.prog 4 #[.slice a len cap] w (DrawnT w) := by
  have H := Lib.hid h
  obtain ⟨i0, hi, hz0, hz1, hz2⟩ := info_parts infoE
  clear h
  go_enter Try.func4, Try.ntmps4
  go_wp2_with fail
  refine (open_any a len cap zs _ H.out).mono ?_
  rintro e w1 ⟨rfl, hr1, hb1⟩
  have H1 := Lib.hid (And.intro hr1 hb1)
  have hBw := rd_lt hr1
  clear hr1 hb1
  go_wp2_with fail
  refine (table_any _ _ 0 (by omega) H1.out.1).mono ?_
  rintro e w2 ⟨v, T, p', rfl, hl, ho, hr, hq, hg⟩
  have R := Lib.hid (And.intro ho (And.intro hr (below_only H1.out.2 hg H1.out.2.size (Nat.le_refl _))))
  have hsR := hg.size
  clear ho hr hg
  go_wp2_with fail
  refine (pick_any 5 _ _ p' (by omega) (by omega) R.out.2.1).mono ?_
  rintro e w3 ⟨x, x0, x1, rfl, hr3, hg3⟩
  have R3 := Lib.hid (And.intro (owns_pick R.out.1 hg3 hBw) (And.intro hr3 (below_only R.out.2.2 hg3 R.out.2.2.size (Nat.le_refl _))))
  have hs3 := hg3.size
  clear hr3 hg3 R
  by_cases hx : x = 0
  · subst hx
    go_wp2_with fail
    refine (range_any _ _ (p' + 1) (by omega) R3.out.2.1).mono ?_
    rintro e w4 ⟨f, b, q4, hs4, rfl, hr4, hq4, hg4⟩
    have R4 := Lib.hid (And.intro (owns_pick R3.out.1 hg4 hBw) (And.intro hr4 (below_only R3.out.2.2 hg4 R3.out.2.2.size (Nat.le_refl _))))
    have hz4 := hg4.size
    clear hr4 hg4 R3
    go_wp2_with fail
    refine (pick_any 11 _ _ q4 (by omega) (by omega) R4.out.2.1).mono ?_
    rintro e w5 ⟨y, y0, y1, rfl, hr5, hg5⟩
    have HO5 := Lib.hid (owns_pick R4.out.1 hg5 hBw)
    have HB5 := Lib.hid (below_only R4.out.2.2 hg5 R4.out.2.2.size (Nat.le_refl _))
    have hz5 := hg5.size
    have hz6 := HB5.out.size
    clear hr5 hg5 R4
    go_wp2_with (first | (at_builtin; refine wpList_append_own _ rfl (.tmp 12) (.tmp 18) 23 rfl w1.heap.size 29 i0 (.agg #[.int .i64 0, .int .i64 0, .int .i64 0]) 3 24 Try.underlying23 hi hz0 hz1 hz2 rfl (by decide) _ T.length (cellsT T) rfl (HO5.out.alloc _) ⟨w5.heap.size, 0, none⟩ 1 1 (cellsT [(f, b, y)]) rfl rfl (news1 w5 f b y _) (oneT _) (by unfold maxLen; omega) (by omega) (by simp only [World.size_alloc]; omega) ?_; intro v5 w6 own5 grow5 _))
    go_ret
    have ho5 := HO5.out.alloc (.cells #[.int .i64 f, .int .i64 b, .int .i64 y] 29)
    exact ⟨_, _, by simp; omega, rfl, owns_mono (owns_app own5) H1.out.2.size, (HB5.out.alloc hz6 _).grown grow5 (by simp; omega) (fun k e => Nat.le_trans H1.out.2.size (ho5.lt k e).1)⟩
  · have e0 : (x == 0) = false := by simpa using hx
    go_wp2_with fail
    go_ret
    exact ⟨v, T, by omega, rfl, owns_mono R3.out.1 H1.out.2.size, R3.out.2.2⟩
end Go.Proofs.Ytnabcffpficgcaa
