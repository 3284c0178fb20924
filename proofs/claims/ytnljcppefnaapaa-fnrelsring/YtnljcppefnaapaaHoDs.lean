/-
  Drawn relations, and houses: DrawRelsFree, DrawRelsOrder, DrawRelOf, DrawRelMay.
-/
import Derived.Test.YtnljcppefnaapaaHoDr
namespace Go.Proofs.Ytnljcppefnaapaa
open Go.RowKit
set_option linter.unusedSimpArgs false
set_option linter.unusedVariables false

/-- a drawn matrix -/
structure DrM (w : World) (v : Value) (L : List IR) (W : World) : Prop where
  par : MaR W w.heap.size v L
  len : 2 ≤ L.length ∧ L.length ≤ 5
  sq : ∀ x ∈ L, x.P.length = L.length
  bel : Below w.heap.size w W
theorem DrM.of {w w1 W : World} {B n q : Nat} {v : Value} {L : List IR} (hb : Below w.heap.size w w1) (hB : w.heap.size ≤ B) (h : RlI w1 B n q v L W) (hl : L.length = n) (hn : 2 ≤ n ∧ n ≤ 5) : DrM w v L W :=
  ⟨h.par.mono hb.size, by omega, fun x hx => by rw [h.sq x hx, hl], below_only hb h.on hb.size hB⟩
theorem DrM.later {w W W' : World} {v : Value} {L : List IR} (h : DrM w v L W) (k : Below W.heap.size W W') : DrM w v L W' := ⟨h.par.later k, h.len, h.sq, next h.bel k⟩
def DnM (w : World) (e : Ending) (W : World) : Prop := ∃ (v : Value) (L : List IR), e = .returned v ∧ DrM w v L W
set_option maxHeartbeats 1000000 in
theorem dRelsFree_any (a0 : Option Addr) (len0 cap0 : Nat) (zs0 : List Int) (w : World) (h : IsRow w a0 len0 cap0 zs0) : Calls Try.prog 29 #[.slice a0 len0 cap0] w (DnM w) := by
  have H0 := Lib.hid h
  clear h
  go_enter Try.func29, Try.ntmps29
  go_wp2_with fail
  refine (open_any a0 len0 cap0 zs0 _ H0.out).mono ?_
  rintro en w1 ⟨rfl, hr, b1⟩
  have HR := Lib.hid hr
  have HB := Lib.hid b1
  clear hr b1
  go_wp2_with fail
  refine (rels_any _ w.heap.size 0 (by omega) HR.out).mono ?_
  rintro en w2 ⟨v, L, n, q, rfl, hn, hl, hI⟩
  have HF := Lib.hid (DrM.of HB.out (Nat.le_refl _) hI hl hn)
  obtain ⟨ta, tc, rfl, _⟩ := OwnM.tab hI.par.row
  clear hI hl hn
  go_wp2_with fail
  go_ret
  exact ⟨_, L, rfl, HF.out⟩
set_option maxHeartbeats 1000000 in
theorem dRelsOrder_any (a0 : Option Addr) (len0 cap0 : Nat) (zs0 : List Int) (w : World) (h : IsRow w a0 len0 cap0 zs0) : Calls Try.prog 24 #[.slice a0 len0 cap0] w (DnM w) := by
  have H0 := Lib.hid h
  clear h
  go_enter Try.func24, Try.ntmps24
  go_wp2_with fail
  refine (open_any a0 len0 cap0 zs0 _ H0.out).mono ?_
  rintro en w1 ⟨rfl, hr, b1⟩
  have HR := Lib.hid hr
  have HB := Lib.hid b1
  clear hr b1
  go_wp2_with fail
  refine (rels_any _ w.heap.size 0 (by omega) HR.out).mono ?_
  rintro en w2 ⟨v, L, n, q, rfl, hn, hl, hI⟩
  have HF := Lib.hid (DrM.of HB.out (Nat.le_refl _) hI hl hn)
  obtain ⟨ta, tc, rfl, _⟩ := OwnM.tab hI.par.row
  clear hI hl hn
  go_wp2_with fail
  go_ret
  exact ⟨_, L, rfl, HF.out⟩
def DnM2 (w : World) (e : Ending) (W : World) : Prop := ∃ (a : Option Addr) (c : Nat) (L : List IR) (x y : Int), e = .returned (.tuple #[.slice a L.length c, .int .i64 x, .int .i64 y]) ∧ (0 ≤ x ∧ x ≤ 6) ∧ (0 ≤ y ∧ y ≤ 6) ∧ DrM w (.slice a L.length c) L W
set_option maxHeartbeats 2000000 in
theorem dRelOf_any (a0 : Option Addr) (len0 cap0 : Nat) (zs0 : List Int) (w : World) (h : IsRow w a0 len0 cap0 zs0) : Calls Try.prog 17 #[.slice a0 len0 cap0] w (DnM2 w) := by
  have H0 := Lib.hid h
  clear h
  go_enter Try.func17, Try.ntmps17
  go_wp2_with fail
  refine (open_any a0 len0 cap0 zs0 _ H0.out).mono ?_
  rintro en w1 ⟨rfl, hr, b1⟩
  have HR := Lib.hid hr
  have HB := Lib.hid b1
  have hB1 := rd_lt hr
  clear hr b1
  go_wp2_with fail
  refine (rels_any _ w.heap.size 0 (by omega) HR.out).mono ?_
  rintro en w2 ⟨v, L, n, q, rfl, hn, hl, hI⟩
  obtain ⟨ta, tc, rfl, _⟩ := OwnM.tab hI.par.row
  have I2 := Lib.hid hI
  obtain ⟨q2, hr2, hq2⟩ := hI.rd
  have HR2 := Lib.hid hr2
  have HN := Lib.hid (And.intro hn hl)
  clear hI hr2 hn hl
  go_wp2_with fail
  refine (pick_any 7 _ w.heap.size q2 (by omega) (by omega) HR2.out).mono ?_
  rintro en w3 ⟨x, x0, x1, rfl, hr3, hg3⟩
  have I3 := Lib.hid (I2.out.picked hB1 hg3 hr3 (show q2 + 1 ≤ 201 by omega))
  have HR3 := Lib.hid hr3
  clear hr3 hg3 I2
  go_wp2_with fail
  refine (pick_any 7 _ w.heap.size (q2 + 1) (by omega) (by omega) HR3.out).mono ?_
  rintro en w4 ⟨y, y0, y1, rfl, hr4, hg4⟩
  have I4 := Lib.hid (I3.out.picked hB1 hg4 hr4 (show q2 + 1 + 1 ≤ 202 by omega))
  have HF := Lib.hid (DrM.of HB.out (Nat.le_refl _) I4.out HN.out.2 HN.out.1)
  clear hr4 hg4 I3 I4
  go_wp2_with fail
  refine bodyPost_ret (v := .tuple #[.slice ta L.length tc, .int .i64 x, .int .i64 y]) (by simp [results, Try.results17, go_sem]) rfl ?_
  exact ⟨ta, tc, L, x, y, rfl, by omega, by omega, HF.out⟩
def DnM3 (w : World) (e : Ending) (W : World) : Prop := ∃ (a : Option Addr) (c : Nat) (L : List IR) (h f t : Int), e = .returned (.tuple #[.slice a L.length c, .int .i64 h, .int .i64 f, .int .i64 t]) ∧ (1 ≤ h ∧ h ≤ 10) ∧ (0 ≤ f ∧ f ≤ L.length) ∧ (1 ≤ t ∧ t ≤ L.length) ∧ DrM w (.slice a L.length c) L W
set_option maxHeartbeats 4000000 in
theorem dRelMay_any (a0 : Option Addr) (len0 cap0 : Nat) (zs0 : List Int) (w : World) (h : IsRow w a0 len0 cap0 zs0) : Calls Try.prog 21 #[.slice a0 len0 cap0] w (DnM3 w) := by
  have H0 := Lib.hid h
  clear h
  go_enter Try.func21, Try.ntmps21
  go_wp2_with fail
  refine (open_any a0 len0 cap0 zs0 _ H0.out).mono ?_
  rintro en w1 ⟨rfl, hr, b1⟩
  have HR := Lib.hid hr
  have HB := Lib.hid b1
  have hB1 := rd_lt hr
  clear hr b1
  go_wp2_with fail
  refine (rels_any _ w.heap.size 0 (by omega) HR.out).mono ?_
  rintro en w2 ⟨v, L, n, q, rfl, hn, hl, hI⟩
  obtain ⟨ta, tc, rfl, _⟩ := OwnM.tab hI.par.row
  have I2 := Lib.hid hI
  obtain ⟨q2, hr2, hq2⟩ := hI.rd
  have HR2 := Lib.hid hr2
  have HN := Lib.hid (And.intro hn hl)
  have hln : 2 ≤ L.length ∧ L.length ≤ 5 := by omega
  clear hI hr2 hn hl
  go_wp2_with fail
  refine (pick_any (L.length : Int) _ w.heap.size q2 (by omega) (by omega) HR2.out).mono ?_
  rintro en w3 ⟨x, x0, x1, rfl, hr3, hg3⟩
  have I3 := Lib.hid (I2.out.picked hB1 hg3 hr3 (show q2 + 1 ≤ 201 by omega))
  have HR3 := Lib.hid hr3
  clear hr3 hg3 I2
  go_wp2_with fail
  refine (pick_any 24 _ w.heap.size (q2 + 1) (by omega) (by omega) HR3.out).mono ?_
  rintro en w4 ⟨y, y0, y1, rfl, hr4, hg4⟩
  have I4 := Lib.hid (I3.out.picked hB1 hg4 hr4 (show q2 + 1 + 1 ≤ 202 by omega))
  have HR4 := Lib.hid hr4
  clear hr4 hg4 I3
  obtain ⟨d, hd, hd0, hd1⟩ : ∃ d : Int, y.tdiv 23 = d ∧ 0 ≤ d ∧ d ≤ 1 := ⟨_, rfl, by rw [Int.tdiv_eq_ediv_of_nonneg y0]; omega, by rw [Int.tdiv_eq_ediv_of_nonneg y0]; omega⟩
  go_wp2_with fail
  refine (pick_any ((L.length : Int) + 1) _ w.heap.size (q2 + 1 + 1) (by omega) (by omega) HR4.out).mono ?_
  rintro en w5 ⟨z, z0, z1, rfl, hr5, hg5⟩
  have I5 := Lib.hid (I4.out.picked hB1 hg5 hr5 (show q2 + 1 + 1 + 1 ≤ 203 by omega))
  have HR5 := Lib.hid hr5
  clear hr5 hg5 I4
  go_wp2_with fail
  refine (pick_any (L.length : Int) _ w.heap.size (q2 + 1 + 1 + 1) (by omega) (by omega) HR5.out).mono ?_
  rintro en w6 ⟨t, t0, t1, rfl, hr6, hg6⟩
  have I6 := Lib.hid (I5.out.picked hB1 hg6 hr6 (show q2 + 1 + 1 + 1 + 1 ≤ 204 by omega))
  have HF := Lib.hid (DrM.of HB.out (Nat.le_refl _) I6.out HN.out.2 HN.out.1)
  clear hr6 hg6 I5 I6
  have e1 : IntKind.i64.wrap (1 + x) = 1 + x := by rw [IntKind.wrap_i64]; omega
  have e2 : IntKind.i64.wrap (d * 5) = d * 5 := by rw [IntKind.wrap_i64]; omega
  have e3 : IntKind.i64.wrap (1 + x + d * 5) = 1 + x + d * 5 := by rw [IntKind.wrap_i64]; omega
  have e4 : IntKind.i64.wrap (1 + t) = 1 + t := by rw [IntKind.wrap_i64]; omega
  go_wp2_with fail
  refine bodyPost_ret (v := .tuple #[.slice ta L.length tc, .int .i64 (1 + x + d * 5), .int .i64 z, .int .i64 (1 + t)]) (by simp [results, Try.results21, go_sem]) rfl ?_
  exact ⟨ta, tc, L, _, z, _, rfl, by omega, by omega, by omega, HF.out⟩
end Go.Proofs.Ytnljcppefnaapaa
