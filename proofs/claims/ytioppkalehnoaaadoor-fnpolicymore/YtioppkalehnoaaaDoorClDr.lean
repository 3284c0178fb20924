/-
  Drawn clauses: whatever the bytes, a clause.
-/
import Derived.Test.YtioppkalehnoaaaDoorClTo
import Derived.Test.YtioppkalehnoaaaDoorDrawR
namespace Go.Proofs.YtioppkalehnoaaaDoor
open Go.RowKit
set_option linter.unusedSimpArgs false
set_option linter.unusedVariables false

theorem crd_only {w w' : World} {B p R : Nat} (h : Rd w B p) (hg : w.grownBy w' (some R)) (hB : B < R) : Rd w' B p := by
  have hBw := rd_lt h
  have ne : ∀ b, b ≤ B → some b ≠ some R := fun b hb e => by cases e; omega
  obtain ⟨a, len, cap, z, c0, c1, hf, hp, hl, hz⟩ := h
  refine ⟨a, len, cap, z, hg.cell c0 (ne B (Nat.le_refl _)), hg.cell c1 (ne B (Nat.le_refl _)), (World.frozen?_of_block (w := w) (a := ⟨B, 1, none⟩) (hg.block B hBw (ne B (Nat.le_refl _)))).trans hf, hp, hl, ?_⟩
  rcases hz with h | ⟨b, off, rfl, hb', hc, hbd⟩
  · exact .inl h
  · exact .inr ⟨b, off, rfl, hb', fun i hi => hg.cell (hc i hi) (ne b (by omega)), hbd⟩
theorem conly_past {a w w' : World} {row : Option Nat} {R : Nat} (h : a.grownBy w row) (hg : w.grownBy w' (some R)) (hR : a.heap.size ≤ R) : a.grownBy w' row :=
  ⟨hg.os.trans h.os, hg.tape.trans h.tape, hg.output.trans h.output, Nat.le_trans h.size hg.size, fun i hi hne =>
    (hg.block i (Nat.lt_of_lt_of_le hi h.size) (fun e => by cases e; omega)).trans (h.block i hi hne)⟩
def Clsd (w : World) (B p : Nat) (e : Ending) (w' : World) : Prop :=
  ∃ (c : CL) (p' : Nat), e = .returned (clV c) ∧ Rd w' B p' ∧ p' ≤ p + 20 ∧ w.grownBy w' (some B)
/-- a clause under way: the answer's block, the clause's own, the reader -/
def Dc (w : World) (B q R : Nat) (L : List Value) (W : World) : Prop := AtL W w.heap.size 0 zCL.cells ∧ AtL W R 0 L ∧ Rd W B q ∧ w.grownBy W (some B) ∧ w.heap.size < R ∧ B < w.heap.size
section
variable {w W W' : World} {B q q' R : Nat} {L L' : List Value}
theorem Dc.pick (h : Dc w B q R L W) (hr : Rd W' B q') (hg : W.grownBy W' (some B)) : Dc w B q' R L W' := by
  obtain ⟨h1, h2, h3, h4, h5, h6⟩ := h
  exact ⟨h1.only hg (by simp; omega), h2.only hg (by simp; omega), hr, only_on h4 hg, h5, h6⟩
theorem Dc.put (h : Dc w B q R L W) (ha : AtL W' R 0 L') (hg : W.grownBy W' (some R)) : Dc w B q R L' W' := by
  obtain ⟨h1, h2, h3, h4, h5, h6⟩ := h
  exact ⟨h1.only hg (by simp; omega), ha, crd_only h3 hg (by omega), conly_past h4 hg (by omega), h5, h6⟩
theorem Dc.put2 (h : Dc w B q R L W) (x y : Value) (hl : L.length = 8) : Dc w B q R ((L.set 2 x).set 3 y) ((W.setCell ⟨R, 2, none⟩ x).setCell ⟨R, 3, none⟩ y) :=
  h.put ((h.2.1.put (i := 2) (by omega) x).put (i := 3) (by rw [List.length_set]; omega) y) (only_on (only_set W R 2 x) (only_set (W.setCell ⟨R, 2, none⟩ x) R 3 y))
theorem Dc.done (h : Dc w B q R L W) (hg : W.grownBy W' (some w.heap.size)) : Rd W' B q ∧ w.grownBy W' (some B) := ⟨crd_only h.2.2.1 hg h.2.2.2.2.2, conly_past h.2.2.2.1 hg (Nat.le_refl _)⟩
end

set_option maxRecDepth 100000 in
set_option maxHeartbeats 8000000 in
theorem clause_any (w : World) (B p : Nat) (hp : p < 990000) (hr : Rd w B p) :
    Calls Tryd.prog 47 #[.pointer (some ⟨B, 0, none⟩)] w (Clsd w B p) := by
  have hBw := rd_lt hr
  have A0 : Hid (AtL (w.alloc (.cells #[.int .i64 0, .int .i64 0, .int .i64 0, .int .i64 0, .bool false, .int .i64 0, .int .i64 0, .int .i64 0] 33)) w.heap.size 0 zCL.cells) := Lib.hid (AtL.new w zCL 33)
  have R0 := Lib.hid (And.intro (rd_alloc hr (.cells #[.int .i64 0, .int .i64 0, .int .i64 0, .int .i64 0, .bool false, .int .i64 0, .int .i64 0, .int .i64 0] 33)) (only_alloc (World.grownBy.refl w (some B)) (.cells #[.int .i64 0, .int .i64 0, .int .i64 0, .int .i64 0, .bool false, .int .i64 0, .int .i64 0, .int .i64 0] 33)))
  have hs0 : (w.alloc (.cells #[.int .i64 0, .int .i64 0, .int .i64 0, .int .i64 0, .bool false, .int .i64 0, .int .i64 0, .int .i64 0] 33)).heap.size = w.heap.size + 1 := by simp
  clear hr
  go_enter Tryd.func47, Tryd.ntmps47
  go_wp2_with fail
  generalize w.alloc (.cells #[.int .i64 0, .int .i64 0, .int .i64 0, .int .i64 0, .bool false, .int .i64 0, .int .i64 0, .int .i64 0] 33) = W at *
  refine (pick_any 5 _ B (p) (by omega) (by omega) R0.out.1).mono ?_
  rintro en u1 ⟨y, y0, y1, rfl, hr, hg⟩
  have A1 := Lib.hid (A0.out.only hg (by simp; omega))
  have R1 := Lib.hid (And.intro hr (only_on R0.out.2 hg))
  have hs1 := hg.size
  clear hr hg A0 R0
  go_wp2_with fail
  refine (pick_any 4 _ B (p + 1) (by omega) (by omega) R1.out.1).mono ?_
  rintro en u2 ⟨z, z0, z1, rfl, hr, hg⟩
  have A2 := Lib.hid (A1.out.only hg (by simp; omega))
  have R2 := Lib.hid (And.intro hr (only_on R1.out.2 hg))
  have hs2 := hg.size
  clear hr hg A1 R1
  go_wp2_with fail
  refine (pick_any 6 _ B (p + 1 + 1) (by omega) (by omega) R2.out.1).mono ?_
  rintro en u3 ⟨x, x0, x1, rfl, hr, hg⟩
  have A3 := Lib.hid (A2.out.only hg (by simp; omega))
  have R3 := Lib.hid (And.intro hr (only_on R2.out.2 hg))
  have hs3 := hg.size
  clear hr hg A2 R2
  go_wp2_with fail
  refine (pick_any 4 _ B (p + 1 + 1 + 1) (by omega) (by omega) R3.out.1).mono ?_
  rintro en u4 ⟨m, m0, m1, rfl, hr, hg⟩
  have A4 := Lib.hid (A3.out.only hg (by simp; omega))
  have R4 := Lib.hid (And.intro hr (only_on R3.out.2 hg))
  have hs4 := hg.size
  clear hr hg A3 R3
  go_wp2_with fail
  refine (pick_any 4 _ B (p + 1 + 1 + 1 + 1) (by omega) (by omega) R4.out.1).mono ?_
  rintro en u5 ⟨k, k0, k1, rfl, hr, hg⟩
  have A5 := Lib.hid (A4.out.only hg (by simp; omega))
  have R5 := Lib.hid (And.intro hr (only_on R4.out.2 hg))
  have hs5 := hg.size
  clear hr hg A4 R4
  have D0 : Hid (Dc w B (p + 1 + 1 + 1 + 1 + 1) u5.heap.size [.int .i64 (1 + y), .int .i64 0, .int .i64 0, .int .i64 0, .bool (z == 0), .int .i64 (x - 1), .int .i64 m, .int .i64 k] (u5.alloc (.cells #[.int .i64 (1 + y), .int .i64 0, .int .i64 0, .int .i64 0, .bool (z == 0), .int .i64 (x - 1), .int .i64 m, .int .i64 k] 33))) := Lib.hid ⟨A5.out.alloc _, AtL.new u5 ⟨1 + y, 0, 0, 0, z == 0, x - 1, m, k⟩ 33, rd_alloc R5.out.1 _, only_alloc R5.out.2 _, by omega, hBw⟩
  have hR : w.heap.size < u5.heap.size := by omega
  clear A5 R5
  generalize hRR : u5.heap.size = R at *
  have iy : IntKind.i64.wrap (1 + y) = 1 + y := by rw [IntKind.wrap_i64]; omega
  have ix : IntKind.i64.wrap (x - 1) = x - 1 := by rw [IntKind.wrap_i64]; omega
  by_cases h2 : 1 + y = 2
  · have k2 : (1 + y == 2) = true := by simp [h2]
    clear h2
    go_wp2_with fail
    try rw [hRR]
    generalize u5.alloc (.cells #[.int .i64 (1 + y), .int .i64 0, .int .i64 0, .int .i64 0, .bool (z == 0), .int .i64 (x - 1), .int .i64 m, .int .i64 k] 33) = W2 at *
    refine (range_any _ B (p + 1 + 1 + 1 + 1 + 1) (by omega) D0.out.2.2.1).mono ?_
    rintro en r1 ⟨f, b, q2, _, rfl, hr, hq2, hg⟩
    have D1 := Lib.hid (D0.out.pick hr hg)
    clear hr hg D0
    have D2 : Hid (Dc w B q2 R [.int .i64 (1 + y), .int .i64 0, .int .i64 f, .int .i64 b, .bool (z == 0), .int .i64 (x - 1), .int .i64 m, .int .i64 k] ((r1.setCell ⟨R, 2, none⟩ (.int .i64 f)).setCell ⟨R, 3, none⟩ (.int .i64 b))) := Lib.hid (D1.out.put2 _ _ rfl)
    have c2 := D1.out.2.1.z8.1.2.2.1
    have c3 := D1.out.2.1.z8.1.2.2.2.1
    have f2 := D1.out.2.1.z8.2.2.2.1
    have f3 := D1.out.2.1.z8.2.2.2.2.1
    clear D1
    go_wp2_with fail
    generalize (r1.setCell ⟨R, 2, none⟩ (.int .i64 f)).setCell ⟨R, 3, none⟩ (.int .i64 b) = W3 at *
    clear c2 c3 f2 f3
    refine (pick_any 60 _ B (q2) (by omega) (by omega) D2.out.2.2.1).mono ?_
    rintro en v3 ⟨t, t0, t1, rfl, hr, hg⟩
    have D3 := Lib.hid (D2.out.pick hr hg)
    clear hr hg D2
    by_cases ht0 : t = 0
    · have e0 : (t == 0) = true := by simp [ht0]
      clear ht0
      go_wp2_with fail
      refine (pick_any 12 _ B ((q2) + 1) (by omega) (by omega) D3.out.2.2.1).mono ?_
      rintro en v4 ⟨s, s0, s1, rfl, hr, hg⟩
      have D4 := Lib.hid (D3.out.pick hr hg)
      clear hr hg D3
      go_wp2_with (refine wpList_st1 rfl 3 (.tmp 39) (.tmp 38) rfl R 1 (.int .i64 s) ?hx1 ?hy1 rfl rfl infoI1 _ D4.out.2.1 (by show 1 < 8; omega) ?hg1)
      case hx1 => rfl
      case hy1 => rfl
      intro v5 ha hg
      have D5 : Hid (Dc w B (((q2) + 1) + 1) R [.int .i64 (1 + y), .int .i64 s, .int .i64 f, .int .i64 b, .bool (z == 0), .int .i64 (x - 1), .int .i64 m, .int .i64 k] v5) := Lib.hid (D4.out.put ha hg)
      clear ha hg D4
      go_wp2_with (refine wpList_ldA rfl 33 (.tmp 3) rfl R rfl [.int .i64 (1 + y), .int .i64 s, .int .i64 f, .int .i64 b, .bool (z == 0), .int .i64 (x - 1), .int .i64 m, .int .i64 k] _ D5.out.2.1 Tryd.underlying33 rfl infoC8 ?_; refine wpList_stA rfl 33 (.tmp 2) (.tmp 48) rfl w.heap.size ([.int .i64 (1 + y), .int .i64 s, .int .i64 f, .int .i64 b, .bool (z == 0), .int .i64 (x - 1), .int .i64 m, .int .i64 k]).toArray rfl rfl (one8a ⟨1 + y, s, f, b, z == 0, x - 1, m, k⟩) infoC8 _ D5.out.1 rfl ?_)
      intro wF aF gF
      have HF := Lib.hid (D5.out.done gF)
      obtain ⟨⟨z0, z1, z2, z3, z4, z5, z6, z7⟩, _⟩ := AtL.z8 aF
      clear aF gF
      go_wp2_with fail
      exact bodyPost_ret (v := clV ⟨1 + y, s, f, b, z == 0, x - 1, m, k⟩) (by simp [results, Tryd.results47, go_sem, z0, z1, z2, z3, z4, z5, z6, z7]) rfl ⟨_, _, rfl, HF.out.1, by omega, HF.out.2⟩
    · have e0 : (t == 0) = false := by simp [ht0]
      by_cases ht1 : t = 1
      · have e1 : (t == 1) = true := by simp [ht1]
        clear ht0 ht1
        go_wp2_with (refine wpList_st1 rfl 3 (.tmp 42) (.const (.int .i64 10)) rfl R 5 (.int .i64 10) ?hx2 ?hy2 rfl rfl infoI1 _ D3.out.2.1 (by show 5 < 8; omega) ?hg2)
        case hx2 => rfl
        case hy2 => rfl
        intro v4 ha hg
        have D4 : Hid (Dc w B ((q2) + 1) R [.int .i64 (1 + y), .int .i64 0, .int .i64 f, .int .i64 b, .bool (z == 0), .int .i64 10, .int .i64 m, .int .i64 k] v4) := Lib.hid (D3.out.put ha hg)
        clear ha hg D3
        go_wp2_with (refine wpList_ldA rfl 33 (.tmp 3) rfl R rfl [.int .i64 (1 + y), .int .i64 0, .int .i64 f, .int .i64 b, .bool (z == 0), .int .i64 10, .int .i64 m, .int .i64 k] _ D4.out.2.1 Tryd.underlying33 rfl infoC8 ?_; refine wpList_stA rfl 33 (.tmp 2) (.tmp 48) rfl w.heap.size ([.int .i64 (1 + y), .int .i64 0, .int .i64 f, .int .i64 b, .bool (z == 0), .int .i64 10, .int .i64 m, .int .i64 k]).toArray rfl rfl (one8a ⟨1 + y, 0, f, b, z == 0, 10, m, k⟩) infoC8 _ D4.out.1 rfl ?_)
        intro wF aF gF
        have HF := Lib.hid (D4.out.done gF)
        obtain ⟨⟨z0, z1, z2, z3, z4, z5, z6, z7⟩, _⟩ := AtL.z8 aF
        clear aF gF
        go_wp2_with fail
        exact bodyPost_ret (v := clV ⟨1 + y, 0, f, b, z == 0, 10, m, k⟩) (by simp [results, Tryd.results47, go_sem, z0, z1, z2, z3, z4, z5, z6, z7]) rfl ⟨_, _, rfl, HF.out.1, by omega, HF.out.2⟩
      · have e1 : (t == 1) = false := by simp [ht1]
        by_cases ht2 : t = 2
        · have e2 : (t == 2) = true := by simp [ht2]
          clear ht0 ht1 ht2
          go_wp2_with fail
          refine (pick_any 8 _ B ((q2) + 1) (by omega) (by omega) D3.out.2.2.1).mono ?_
          rintro en v4 ⟨s, s0, s1, rfl, hr, hg⟩
          have D4 := Lib.hid (D3.out.pick hr hg)
          clear hr hg D3
          go_wp2_with (refine wpList_st1 rfl 3 (.tmp 47) (.tmp 46) rfl R 0 (.int .i64 s) ?hx3 ?hy3 rfl rfl infoI1 _ D4.out.2.1 (by show 0 < 8; omega) ?hg3)
          case hx3 => rfl
          case hy3 => rfl
          intro v5 ha hg
          have D5 : Hid (Dc w B (((q2) + 1) + 1) R [.int .i64 s, .int .i64 0, .int .i64 f, .int .i64 b, .bool (z == 0), .int .i64 (x - 1), .int .i64 m, .int .i64 k] v5) := Lib.hid (D4.out.put ha hg)
          clear ha hg D4
          go_wp2_with (refine wpList_ldA rfl 33 (.tmp 3) rfl R rfl [.int .i64 s, .int .i64 0, .int .i64 f, .int .i64 b, .bool (z == 0), .int .i64 (x - 1), .int .i64 m, .int .i64 k] _ D5.out.2.1 Tryd.underlying33 rfl infoC8 ?_; refine wpList_stA rfl 33 (.tmp 2) (.tmp 48) rfl w.heap.size ([.int .i64 s, .int .i64 0, .int .i64 f, .int .i64 b, .bool (z == 0), .int .i64 (x - 1), .int .i64 m, .int .i64 k]).toArray rfl rfl (one8a ⟨s, 0, f, b, z == 0, x - 1, m, k⟩) infoC8 _ D5.out.1 rfl ?_)
          intro wF aF gF
          have HF := Lib.hid (D5.out.done gF)
          obtain ⟨⟨z0, z1, z2, z3, z4, z5, z6, z7⟩, _⟩ := AtL.z8 aF
          clear aF gF
          go_wp2_with fail
          exact bodyPost_ret (v := clV ⟨s, 0, f, b, z == 0, x - 1, m, k⟩) (by simp [results, Tryd.results47, go_sem, z0, z1, z2, z3, z4, z5, z6, z7]) rfl ⟨_, _, rfl, HF.out.1, by omega, HF.out.2⟩
        · have e2 : (t == 2) = false := by simp [ht2]
          clear ht0 ht1 ht2
          go_wp2_with (refine wpList_ldA rfl 33 (.tmp 3) rfl R rfl [.int .i64 (1 + y), .int .i64 0, .int .i64 f, .int .i64 b, .bool (z == 0), .int .i64 (x - 1), .int .i64 m, .int .i64 k] _ D3.out.2.1 Tryd.underlying33 rfl infoC8 ?_; refine wpList_stA rfl 33 (.tmp 2) (.tmp 48) rfl w.heap.size ([.int .i64 (1 + y), .int .i64 0, .int .i64 f, .int .i64 b, .bool (z == 0), .int .i64 (x - 1), .int .i64 m, .int .i64 k]).toArray rfl rfl (one8a ⟨1 + y, 0, f, b, z == 0, x - 1, m, k⟩) infoC8 _ D3.out.1 rfl ?_)
          intro wF aF gF
          have HF := Lib.hid (D3.out.done gF)
          obtain ⟨⟨z0, z1, z2, z3, z4, z5, z6, z7⟩, _⟩ := AtL.z8 aF
          clear aF gF
          go_wp2_with fail
          exact bodyPost_ret (v := clV ⟨1 + y, 0, f, b, z == 0, x - 1, m, k⟩) (by simp [results, Tryd.results47, go_sem, z0, z1, z2, z3, z4, z5, z6, z7]) rfl ⟨_, _, rfl, HF.out.1, by omega, HF.out.2⟩
  · have k2 : (1 + y == 2) = false := by simp [h2]
    by_cases h3 : 3 ≤ 1 + y
    · have hn : (1 + y == 3) = true ∨ (1 + y == 3) = false ∧ ((1 + y == 4) = true ∨ (1 + y == 4) = false ∧ (1 + y == 5) = true) := by simp only [beq_iff_eq, beq_eq_false_iff_ne]; omega
      clear h2 h3
      have goal : ∀ (W2 : World), Hid (Dc w B (p + 1 + 1 + 1 + 1 + 1) R [.int .i64 (1 + y), .int .i64 0, .int .i64 0, .int .i64 0, .bool (z == 0), .int .i64 (x - 1), .int .i64 m, .int .i64 k] W2) → True := fun _ _ => trivial
      clear goal
      rcases hn with k3 | ⟨k3, k4 | ⟨k4, k5⟩⟩
      · go_wp2_with fail
        try rw [hRR]
        generalize u5.alloc (.cells #[.int .i64 (1 + y), .int .i64 0, .int .i64 0, .int .i64 0, .bool (z == 0), .int .i64 (x - 1), .int .i64 m, .int .i64 k] 33) = W2 at *
        refine (pick_any 5 _ B (p + 1 + 1 + 1 + 1 + 1) (by omega) (by omega) D0.out.2.2.1).mono ?_
        rintro en v1 ⟨v, v0, v1, rfl, hr, hg⟩
        have D1 := Lib.hid (D0.out.pick hr hg)
        clear hr hg D0
        have iv : IntKind.i64.wrap (1 + v) = 1 + v := by rw [IntKind.wrap_i64]; omega
        go_wp2_with (refine wpList_st1 rfl 3 (.tmp 32) (.tmp 31) rfl R 1 (.int .i64 (1 + v)) ?hx4 ?hy4 rfl rfl infoI1 _ D1.out.2.1 (by show 1 < 8; omega) ?hg4)
        case hx4 => rfl
        case hy4 => rfl
        intro v2 ha hg
        have D2 : Hid (Dc w B ((p + 1 + 1 + 1 + 1 + 1) + 1) R [.int .i64 (1 + y), .int .i64 (1 + v), .int .i64 0, .int .i64 0, .bool (z == 0), .int .i64 (x - 1), .int .i64 m, .int .i64 k] v2) := Lib.hid (D1.out.put ha hg)
        clear ha hg D1
        go_wp2_with fail
        refine (pick_any 60 _ B ((p + 1 + 1 + 1 + 1 + 1) + 1) (by omega) (by omega) D2.out.2.2.1).mono ?_
        rintro en v3 ⟨t, t0, t1, rfl, hr, hg⟩
        have D3 := Lib.hid (D2.out.pick hr hg)
        clear hr hg D2
        by_cases ht0 : t = 0
        · have e0 : (t == 0) = true := by simp [ht0]
          clear ht0
          go_wp2_with fail
          refine (pick_any 12 _ B (((p + 1 + 1 + 1 + 1 + 1) + 1) + 1) (by omega) (by omega) D3.out.2.2.1).mono ?_
          rintro en v4 ⟨s, s0, s1, rfl, hr, hg⟩
          have D4 := Lib.hid (D3.out.pick hr hg)
          clear hr hg D3
          go_wp2_with (refine wpList_st1 rfl 3 (.tmp 39) (.tmp 38) rfl R 1 (.int .i64 s) ?hx5 ?hy5 rfl rfl infoI1 _ D4.out.2.1 (by show 1 < 8; omega) ?hg5)
          case hx5 => rfl
          case hy5 => rfl
          intro v5 ha hg
          have D5 : Hid (Dc w B ((((p + 1 + 1 + 1 + 1 + 1) + 1) + 1) + 1) R [.int .i64 (1 + y), .int .i64 s, .int .i64 0, .int .i64 0, .bool (z == 0), .int .i64 (x - 1), .int .i64 m, .int .i64 k] v5) := Lib.hid (D4.out.put ha hg)
          clear ha hg D4
          go_wp2_with (refine wpList_ldA rfl 33 (.tmp 3) rfl R rfl [.int .i64 (1 + y), .int .i64 s, .int .i64 0, .int .i64 0, .bool (z == 0), .int .i64 (x - 1), .int .i64 m, .int .i64 k] _ D5.out.2.1 Tryd.underlying33 rfl infoC8 ?_; refine wpList_stA rfl 33 (.tmp 2) (.tmp 48) rfl w.heap.size ([.int .i64 (1 + y), .int .i64 s, .int .i64 0, .int .i64 0, .bool (z == 0), .int .i64 (x - 1), .int .i64 m, .int .i64 k]).toArray rfl rfl (one8a ⟨1 + y, s, 0, 0, z == 0, x - 1, m, k⟩) infoC8 _ D5.out.1 rfl ?_)
          intro wF aF gF
          have HF := Lib.hid (D5.out.done gF)
          obtain ⟨⟨z0, z1, z2, z3, z4, z5, z6, z7⟩, _⟩ := AtL.z8 aF
          clear aF gF
          go_wp2_with fail
          exact bodyPost_ret (v := clV ⟨1 + y, s, 0, 0, z == 0, x - 1, m, k⟩) (by simp [results, Tryd.results47, go_sem, z0, z1, z2, z3, z4, z5, z6, z7]) rfl ⟨_, _, rfl, HF.out.1, by omega, HF.out.2⟩
        · have e0 : (t == 0) = false := by simp [ht0]
          by_cases ht1 : t = 1
          · have e1 : (t == 1) = true := by simp [ht1]
            clear ht0 ht1
            go_wp2_with (refine wpList_st1 rfl 3 (.tmp 42) (.const (.int .i64 10)) rfl R 5 (.int .i64 10) ?hx6 ?hy6 rfl rfl infoI1 _ D3.out.2.1 (by show 5 < 8; omega) ?hg6)
            case hx6 => rfl
            case hy6 => rfl
            intro v4 ha hg
            have D4 : Hid (Dc w B (((p + 1 + 1 + 1 + 1 + 1) + 1) + 1) R [.int .i64 (1 + y), .int .i64 (1 + v), .int .i64 0, .int .i64 0, .bool (z == 0), .int .i64 10, .int .i64 m, .int .i64 k] v4) := Lib.hid (D3.out.put ha hg)
            clear ha hg D3
            go_wp2_with (refine wpList_ldA rfl 33 (.tmp 3) rfl R rfl [.int .i64 (1 + y), .int .i64 (1 + v), .int .i64 0, .int .i64 0, .bool (z == 0), .int .i64 10, .int .i64 m, .int .i64 k] _ D4.out.2.1 Tryd.underlying33 rfl infoC8 ?_; refine wpList_stA rfl 33 (.tmp 2) (.tmp 48) rfl w.heap.size ([.int .i64 (1 + y), .int .i64 (1 + v), .int .i64 0, .int .i64 0, .bool (z == 0), .int .i64 10, .int .i64 m, .int .i64 k]).toArray rfl rfl (one8a ⟨1 + y, 1 + v, 0, 0, z == 0, 10, m, k⟩) infoC8 _ D4.out.1 rfl ?_)
            intro wF aF gF
            have HF := Lib.hid (D4.out.done gF)
            obtain ⟨⟨z0, z1, z2, z3, z4, z5, z6, z7⟩, _⟩ := AtL.z8 aF
            clear aF gF
            go_wp2_with fail
            exact bodyPost_ret (v := clV ⟨1 + y, 1 + v, 0, 0, z == 0, 10, m, k⟩) (by simp [results, Tryd.results47, go_sem, z0, z1, z2, z3, z4, z5, z6, z7]) rfl ⟨_, _, rfl, HF.out.1, by omega, HF.out.2⟩
          · have e1 : (t == 1) = false := by simp [ht1]
            by_cases ht2 : t = 2
            · have e2 : (t == 2) = true := by simp [ht2]
              clear ht0 ht1 ht2
              go_wp2_with fail
              refine (pick_any 8 _ B (((p + 1 + 1 + 1 + 1 + 1) + 1) + 1) (by omega) (by omega) D3.out.2.2.1).mono ?_
              rintro en v4 ⟨s, s0, s1, rfl, hr, hg⟩
              have D4 := Lib.hid (D3.out.pick hr hg)
              clear hr hg D3
              go_wp2_with (refine wpList_st1 rfl 3 (.tmp 47) (.tmp 46) rfl R 0 (.int .i64 s) ?hx7 ?hy7 rfl rfl infoI1 _ D4.out.2.1 (by show 0 < 8; omega) ?hg7)
              case hx7 => rfl
              case hy7 => rfl
              intro v5 ha hg
              have D5 : Hid (Dc w B ((((p + 1 + 1 + 1 + 1 + 1) + 1) + 1) + 1) R [.int .i64 s, .int .i64 (1 + v), .int .i64 0, .int .i64 0, .bool (z == 0), .int .i64 (x - 1), .int .i64 m, .int .i64 k] v5) := Lib.hid (D4.out.put ha hg)
              clear ha hg D4
              go_wp2_with (refine wpList_ldA rfl 33 (.tmp 3) rfl R rfl [.int .i64 s, .int .i64 (1 + v), .int .i64 0, .int .i64 0, .bool (z == 0), .int .i64 (x - 1), .int .i64 m, .int .i64 k] _ D5.out.2.1 Tryd.underlying33 rfl infoC8 ?_; refine wpList_stA rfl 33 (.tmp 2) (.tmp 48) rfl w.heap.size ([.int .i64 s, .int .i64 (1 + v), .int .i64 0, .int .i64 0, .bool (z == 0), .int .i64 (x - 1), .int .i64 m, .int .i64 k]).toArray rfl rfl (one8a ⟨s, 1 + v, 0, 0, z == 0, x - 1, m, k⟩) infoC8 _ D5.out.1 rfl ?_)
              intro wF aF gF
              have HF := Lib.hid (D5.out.done gF)
              obtain ⟨⟨z0, z1, z2, z3, z4, z5, z6, z7⟩, _⟩ := AtL.z8 aF
              clear aF gF
              go_wp2_with fail
              exact bodyPost_ret (v := clV ⟨s, 1 + v, 0, 0, z == 0, x - 1, m, k⟩) (by simp [results, Tryd.results47, go_sem, z0, z1, z2, z3, z4, z5, z6, z7]) rfl ⟨_, _, rfl, HF.out.1, by omega, HF.out.2⟩
            · have e2 : (t == 2) = false := by simp [ht2]
              clear ht0 ht1 ht2
              go_wp2_with (refine wpList_ldA rfl 33 (.tmp 3) rfl R rfl [.int .i64 (1 + y), .int .i64 (1 + v), .int .i64 0, .int .i64 0, .bool (z == 0), .int .i64 (x - 1), .int .i64 m, .int .i64 k] _ D3.out.2.1 Tryd.underlying33 rfl infoC8 ?_; refine wpList_stA rfl 33 (.tmp 2) (.tmp 48) rfl w.heap.size ([.int .i64 (1 + y), .int .i64 (1 + v), .int .i64 0, .int .i64 0, .bool (z == 0), .int .i64 (x - 1), .int .i64 m, .int .i64 k]).toArray rfl rfl (one8a ⟨1 + y, 1 + v, 0, 0, z == 0, x - 1, m, k⟩) infoC8 _ D3.out.1 rfl ?_)
              intro wF aF gF
              have HF := Lib.hid (D3.out.done gF)
              obtain ⟨⟨z0, z1, z2, z3, z4, z5, z6, z7⟩, _⟩ := AtL.z8 aF
              clear aF gF
              go_wp2_with fail
              exact bodyPost_ret (v := clV ⟨1 + y, 1 + v, 0, 0, z == 0, x - 1, m, k⟩) (by simp [results, Tryd.results47, go_sem, z0, z1, z2, z3, z4, z5, z6, z7]) rfl ⟨_, _, rfl, HF.out.1, by omega, HF.out.2⟩
      · go_wp2_with fail
        try rw [hRR]
        generalize u5.alloc (.cells #[.int .i64 (1 + y), .int .i64 0, .int .i64 0, .int .i64 0, .bool (z == 0), .int .i64 (x - 1), .int .i64 m, .int .i64 k] 33) = W2 at *
        refine (pick_any 5 _ B (p + 1 + 1 + 1 + 1 + 1) (by omega) (by omega) D0.out.2.2.1).mono ?_
        rintro en v1 ⟨v, v0, v1, rfl, hr, hg⟩
        have D1 := Lib.hid (D0.out.pick hr hg)
        clear hr hg D0
        have iv : IntKind.i64.wrap (1 + v) = 1 + v := by rw [IntKind.wrap_i64]; omega
        go_wp2_with (refine wpList_st1 rfl 3 (.tmp 32) (.tmp 31) rfl R 1 (.int .i64 (1 + v)) ?hx8 ?hy8 rfl rfl infoI1 _ D1.out.2.1 (by show 1 < 8; omega) ?hg8)
        case hx8 => rfl
        case hy8 => rfl
        intro v2 ha hg
        have D2 : Hid (Dc w B ((p + 1 + 1 + 1 + 1 + 1) + 1) R [.int .i64 (1 + y), .int .i64 (1 + v), .int .i64 0, .int .i64 0, .bool (z == 0), .int .i64 (x - 1), .int .i64 m, .int .i64 k] v2) := Lib.hid (D1.out.put ha hg)
        clear ha hg D1
        go_wp2_with fail
        refine (pick_any 60 _ B ((p + 1 + 1 + 1 + 1 + 1) + 1) (by omega) (by omega) D2.out.2.2.1).mono ?_
        rintro en v3 ⟨t, t0, t1, rfl, hr, hg⟩
        have D3 := Lib.hid (D2.out.pick hr hg)
        clear hr hg D2
        by_cases ht0 : t = 0
        · have e0 : (t == 0) = true := by simp [ht0]
          clear ht0
          go_wp2_with fail
          refine (pick_any 12 _ B (((p + 1 + 1 + 1 + 1 + 1) + 1) + 1) (by omega) (by omega) D3.out.2.2.1).mono ?_
          rintro en v4 ⟨s, s0, s1, rfl, hr, hg⟩
          have D4 := Lib.hid (D3.out.pick hr hg)
          clear hr hg D3
          go_wp2_with (refine wpList_st1 rfl 3 (.tmp 39) (.tmp 38) rfl R 1 (.int .i64 s) ?hx9 ?hy9 rfl rfl infoI1 _ D4.out.2.1 (by show 1 < 8; omega) ?hg9)
          case hx9 => rfl
          case hy9 => rfl
          intro v5 ha hg
          have D5 : Hid (Dc w B ((((p + 1 + 1 + 1 + 1 + 1) + 1) + 1) + 1) R [.int .i64 (1 + y), .int .i64 s, .int .i64 0, .int .i64 0, .bool (z == 0), .int .i64 (x - 1), .int .i64 m, .int .i64 k] v5) := Lib.hid (D4.out.put ha hg)
          clear ha hg D4
          go_wp2_with (refine wpList_ldA rfl 33 (.tmp 3) rfl R rfl [.int .i64 (1 + y), .int .i64 s, .int .i64 0, .int .i64 0, .bool (z == 0), .int .i64 (x - 1), .int .i64 m, .int .i64 k] _ D5.out.2.1 Tryd.underlying33 rfl infoC8 ?_; refine wpList_stA rfl 33 (.tmp 2) (.tmp 48) rfl w.heap.size ([.int .i64 (1 + y), .int .i64 s, .int .i64 0, .int .i64 0, .bool (z == 0), .int .i64 (x - 1), .int .i64 m, .int .i64 k]).toArray rfl rfl (one8a ⟨1 + y, s, 0, 0, z == 0, x - 1, m, k⟩) infoC8 _ D5.out.1 rfl ?_)
          intro wF aF gF
          have HF := Lib.hid (D5.out.done gF)
          obtain ⟨⟨z0, z1, z2, z3, z4, z5, z6, z7⟩, _⟩ := AtL.z8 aF
          clear aF gF
          go_wp2_with fail
          exact bodyPost_ret (v := clV ⟨1 + y, s, 0, 0, z == 0, x - 1, m, k⟩) (by simp [results, Tryd.results47, go_sem, z0, z1, z2, z3, z4, z5, z6, z7]) rfl ⟨_, _, rfl, HF.out.1, by omega, HF.out.2⟩
        · have e0 : (t == 0) = false := by simp [ht0]
          by_cases ht1 : t = 1
          · have e1 : (t == 1) = true := by simp [ht1]
            clear ht0 ht1
            go_wp2_with (refine wpList_st1 rfl 3 (.tmp 42) (.const (.int .i64 10)) rfl R 5 (.int .i64 10) ?hx10 ?hy10 rfl rfl infoI1 _ D3.out.2.1 (by show 5 < 8; omega) ?hg10)
            case hx10 => rfl
            case hy10 => rfl
            intro v4 ha hg
            have D4 : Hid (Dc w B (((p + 1 + 1 + 1 + 1 + 1) + 1) + 1) R [.int .i64 (1 + y), .int .i64 (1 + v), .int .i64 0, .int .i64 0, .bool (z == 0), .int .i64 10, .int .i64 m, .int .i64 k] v4) := Lib.hid (D3.out.put ha hg)
            clear ha hg D3
            go_wp2_with (refine wpList_ldA rfl 33 (.tmp 3) rfl R rfl [.int .i64 (1 + y), .int .i64 (1 + v), .int .i64 0, .int .i64 0, .bool (z == 0), .int .i64 10, .int .i64 m, .int .i64 k] _ D4.out.2.1 Tryd.underlying33 rfl infoC8 ?_; refine wpList_stA rfl 33 (.tmp 2) (.tmp 48) rfl w.heap.size ([.int .i64 (1 + y), .int .i64 (1 + v), .int .i64 0, .int .i64 0, .bool (z == 0), .int .i64 10, .int .i64 m, .int .i64 k]).toArray rfl rfl (one8a ⟨1 + y, 1 + v, 0, 0, z == 0, 10, m, k⟩) infoC8 _ D4.out.1 rfl ?_)
            intro wF aF gF
            have HF := Lib.hid (D4.out.done gF)
            obtain ⟨⟨z0, z1, z2, z3, z4, z5, z6, z7⟩, _⟩ := AtL.z8 aF
            clear aF gF
            go_wp2_with fail
            exact bodyPost_ret (v := clV ⟨1 + y, 1 + v, 0, 0, z == 0, 10, m, k⟩) (by simp [results, Tryd.results47, go_sem, z0, z1, z2, z3, z4, z5, z6, z7]) rfl ⟨_, _, rfl, HF.out.1, by omega, HF.out.2⟩
          · have e1 : (t == 1) = false := by simp [ht1]
            by_cases ht2 : t = 2
            · have e2 : (t == 2) = true := by simp [ht2]
              clear ht0 ht1 ht2
              go_wp2_with fail
              refine (pick_any 8 _ B (((p + 1 + 1 + 1 + 1 + 1) + 1) + 1) (by omega) (by omega) D3.out.2.2.1).mono ?_
              rintro en v4 ⟨s, s0, s1, rfl, hr, hg⟩
              have D4 := Lib.hid (D3.out.pick hr hg)
              clear hr hg D3
              go_wp2_with (refine wpList_st1 rfl 3 (.tmp 47) (.tmp 46) rfl R 0 (.int .i64 s) ?hx11 ?hy11 rfl rfl infoI1 _ D4.out.2.1 (by show 0 < 8; omega) ?hg11)
              case hx11 => rfl
              case hy11 => rfl
              intro v5 ha hg
              have D5 : Hid (Dc w B ((((p + 1 + 1 + 1 + 1 + 1) + 1) + 1) + 1) R [.int .i64 s, .int .i64 (1 + v), .int .i64 0, .int .i64 0, .bool (z == 0), .int .i64 (x - 1), .int .i64 m, .int .i64 k] v5) := Lib.hid (D4.out.put ha hg)
              clear ha hg D4
              go_wp2_with (refine wpList_ldA rfl 33 (.tmp 3) rfl R rfl [.int .i64 s, .int .i64 (1 + v), .int .i64 0, .int .i64 0, .bool (z == 0), .int .i64 (x - 1), .int .i64 m, .int .i64 k] _ D5.out.2.1 Tryd.underlying33 rfl infoC8 ?_; refine wpList_stA rfl 33 (.tmp 2) (.tmp 48) rfl w.heap.size ([.int .i64 s, .int .i64 (1 + v), .int .i64 0, .int .i64 0, .bool (z == 0), .int .i64 (x - 1), .int .i64 m, .int .i64 k]).toArray rfl rfl (one8a ⟨s, 1 + v, 0, 0, z == 0, x - 1, m, k⟩) infoC8 _ D5.out.1 rfl ?_)
              intro wF aF gF
              have HF := Lib.hid (D5.out.done gF)
              obtain ⟨⟨z0, z1, z2, z3, z4, z5, z6, z7⟩, _⟩ := AtL.z8 aF
              clear aF gF
              go_wp2_with fail
              exact bodyPost_ret (v := clV ⟨s, 1 + v, 0, 0, z == 0, x - 1, m, k⟩) (by simp [results, Tryd.results47, go_sem, z0, z1, z2, z3, z4, z5, z6, z7]) rfl ⟨_, _, rfl, HF.out.1, by omega, HF.out.2⟩
            · have e2 : (t == 2) = false := by simp [ht2]
              clear ht0 ht1 ht2
              go_wp2_with (refine wpList_ldA rfl 33 (.tmp 3) rfl R rfl [.int .i64 (1 + y), .int .i64 (1 + v), .int .i64 0, .int .i64 0, .bool (z == 0), .int .i64 (x - 1), .int .i64 m, .int .i64 k] _ D3.out.2.1 Tryd.underlying33 rfl infoC8 ?_; refine wpList_stA rfl 33 (.tmp 2) (.tmp 48) rfl w.heap.size ([.int .i64 (1 + y), .int .i64 (1 + v), .int .i64 0, .int .i64 0, .bool (z == 0), .int .i64 (x - 1), .int .i64 m, .int .i64 k]).toArray rfl rfl (one8a ⟨1 + y, 1 + v, 0, 0, z == 0, x - 1, m, k⟩) infoC8 _ D3.out.1 rfl ?_)
              intro wF aF gF
              have HF := Lib.hid (D3.out.done gF)
              obtain ⟨⟨z0, z1, z2, z3, z4, z5, z6, z7⟩, _⟩ := AtL.z8 aF
              clear aF gF
              go_wp2_with fail
              exact bodyPost_ret (v := clV ⟨1 + y, 1 + v, 0, 0, z == 0, x - 1, m, k⟩) (by simp [results, Tryd.results47, go_sem, z0, z1, z2, z3, z4, z5, z6, z7]) rfl ⟨_, _, rfl, HF.out.1, by omega, HF.out.2⟩
      · go_wp2_with fail
        try rw [hRR]
        generalize u5.alloc (.cells #[.int .i64 (1 + y), .int .i64 0, .int .i64 0, .int .i64 0, .bool (z == 0), .int .i64 (x - 1), .int .i64 m, .int .i64 k] 33) = W2 at *
        refine (pick_any 5 _ B (p + 1 + 1 + 1 + 1 + 1) (by omega) (by omega) D0.out.2.2.1).mono ?_
        rintro en v1 ⟨v, v0, v1, rfl, hr, hg⟩
        have D1 := Lib.hid (D0.out.pick hr hg)
        clear hr hg D0
        have iv : IntKind.i64.wrap (1 + v) = 1 + v := by rw [IntKind.wrap_i64]; omega
        go_wp2_with (refine wpList_st1 rfl 3 (.tmp 32) (.tmp 31) rfl R 1 (.int .i64 (1 + v)) ?hx12 ?hy12 rfl rfl infoI1 _ D1.out.2.1 (by show 1 < 8; omega) ?hg12)
        case hx12 => rfl
        case hy12 => rfl
        intro v2 ha hg
        have D2 : Hid (Dc w B ((p + 1 + 1 + 1 + 1 + 1) + 1) R [.int .i64 (1 + y), .int .i64 (1 + v), .int .i64 0, .int .i64 0, .bool (z == 0), .int .i64 (x - 1), .int .i64 m, .int .i64 k] v2) := Lib.hid (D1.out.put ha hg)
        clear ha hg D1
        go_wp2_with fail
        refine (pick_any 60 _ B ((p + 1 + 1 + 1 + 1 + 1) + 1) (by omega) (by omega) D2.out.2.2.1).mono ?_
        rintro en v3 ⟨t, t0, t1, rfl, hr, hg⟩
        have D3 := Lib.hid (D2.out.pick hr hg)
        clear hr hg D2
        by_cases ht0 : t = 0
        · have e0 : (t == 0) = true := by simp [ht0]
          clear ht0
          go_wp2_with fail
          refine (pick_any 12 _ B (((p + 1 + 1 + 1 + 1 + 1) + 1) + 1) (by omega) (by omega) D3.out.2.2.1).mono ?_
          rintro en v4 ⟨s, s0, s1, rfl, hr, hg⟩
          have D4 := Lib.hid (D3.out.pick hr hg)
          clear hr hg D3
          go_wp2_with (refine wpList_st1 rfl 3 (.tmp 39) (.tmp 38) rfl R 1 (.int .i64 s) ?hx13 ?hy13 rfl rfl infoI1 _ D4.out.2.1 (by show 1 < 8; omega) ?hg13)
          case hx13 => rfl
          case hy13 => rfl
          intro v5 ha hg
          have D5 : Hid (Dc w B ((((p + 1 + 1 + 1 + 1 + 1) + 1) + 1) + 1) R [.int .i64 (1 + y), .int .i64 s, .int .i64 0, .int .i64 0, .bool (z == 0), .int .i64 (x - 1), .int .i64 m, .int .i64 k] v5) := Lib.hid (D4.out.put ha hg)
          clear ha hg D4
          go_wp2_with (refine wpList_ldA rfl 33 (.tmp 3) rfl R rfl [.int .i64 (1 + y), .int .i64 s, .int .i64 0, .int .i64 0, .bool (z == 0), .int .i64 (x - 1), .int .i64 m, .int .i64 k] _ D5.out.2.1 Tryd.underlying33 rfl infoC8 ?_; refine wpList_stA rfl 33 (.tmp 2) (.tmp 48) rfl w.heap.size ([.int .i64 (1 + y), .int .i64 s, .int .i64 0, .int .i64 0, .bool (z == 0), .int .i64 (x - 1), .int .i64 m, .int .i64 k]).toArray rfl rfl (one8a ⟨1 + y, s, 0, 0, z == 0, x - 1, m, k⟩) infoC8 _ D5.out.1 rfl ?_)
          intro wF aF gF
          have HF := Lib.hid (D5.out.done gF)
          obtain ⟨⟨z0, z1, z2, z3, z4, z5, z6, z7⟩, _⟩ := AtL.z8 aF
          clear aF gF
          go_wp2_with fail
          exact bodyPost_ret (v := clV ⟨1 + y, s, 0, 0, z == 0, x - 1, m, k⟩) (by simp [results, Tryd.results47, go_sem, z0, z1, z2, z3, z4, z5, z6, z7]) rfl ⟨_, _, rfl, HF.out.1, by omega, HF.out.2⟩
        · have e0 : (t == 0) = false := by simp [ht0]
          by_cases ht1 : t = 1
          · have e1 : (t == 1) = true := by simp [ht1]
            clear ht0 ht1
            go_wp2_with (refine wpList_st1 rfl 3 (.tmp 42) (.const (.int .i64 10)) rfl R 5 (.int .i64 10) ?hx14 ?hy14 rfl rfl infoI1 _ D3.out.2.1 (by show 5 < 8; omega) ?hg14)
            case hx14 => rfl
            case hy14 => rfl
            intro v4 ha hg
            have D4 : Hid (Dc w B (((p + 1 + 1 + 1 + 1 + 1) + 1) + 1) R [.int .i64 (1 + y), .int .i64 (1 + v), .int .i64 0, .int .i64 0, .bool (z == 0), .int .i64 10, .int .i64 m, .int .i64 k] v4) := Lib.hid (D3.out.put ha hg)
            clear ha hg D3
            go_wp2_with (refine wpList_ldA rfl 33 (.tmp 3) rfl R rfl [.int .i64 (1 + y), .int .i64 (1 + v), .int .i64 0, .int .i64 0, .bool (z == 0), .int .i64 10, .int .i64 m, .int .i64 k] _ D4.out.2.1 Tryd.underlying33 rfl infoC8 ?_; refine wpList_stA rfl 33 (.tmp 2) (.tmp 48) rfl w.heap.size ([.int .i64 (1 + y), .int .i64 (1 + v), .int .i64 0, .int .i64 0, .bool (z == 0), .int .i64 10, .int .i64 m, .int .i64 k]).toArray rfl rfl (one8a ⟨1 + y, 1 + v, 0, 0, z == 0, 10, m, k⟩) infoC8 _ D4.out.1 rfl ?_)
            intro wF aF gF
            have HF := Lib.hid (D4.out.done gF)
            obtain ⟨⟨z0, z1, z2, z3, z4, z5, z6, z7⟩, _⟩ := AtL.z8 aF
            clear aF gF
            go_wp2_with fail
            exact bodyPost_ret (v := clV ⟨1 + y, 1 + v, 0, 0, z == 0, 10, m, k⟩) (by simp [results, Tryd.results47, go_sem, z0, z1, z2, z3, z4, z5, z6, z7]) rfl ⟨_, _, rfl, HF.out.1, by omega, HF.out.2⟩
          · have e1 : (t == 1) = false := by simp [ht1]
            by_cases ht2 : t = 2
            · have e2 : (t == 2) = true := by simp [ht2]
              clear ht0 ht1 ht2
              go_wp2_with fail
              refine (pick_any 8 _ B (((p + 1 + 1 + 1 + 1 + 1) + 1) + 1) (by omega) (by omega) D3.out.2.2.1).mono ?_
              rintro en v4 ⟨s, s0, s1, rfl, hr, hg⟩
              have D4 := Lib.hid (D3.out.pick hr hg)
              clear hr hg D3
              go_wp2_with (refine wpList_st1 rfl 3 (.tmp 47) (.tmp 46) rfl R 0 (.int .i64 s) ?hx15 ?hy15 rfl rfl infoI1 _ D4.out.2.1 (by show 0 < 8; omega) ?hg15)
              case hx15 => rfl
              case hy15 => rfl
              intro v5 ha hg
              have D5 : Hid (Dc w B ((((p + 1 + 1 + 1 + 1 + 1) + 1) + 1) + 1) R [.int .i64 s, .int .i64 (1 + v), .int .i64 0, .int .i64 0, .bool (z == 0), .int .i64 (x - 1), .int .i64 m, .int .i64 k] v5) := Lib.hid (D4.out.put ha hg)
              clear ha hg D4
              go_wp2_with (refine wpList_ldA rfl 33 (.tmp 3) rfl R rfl [.int .i64 s, .int .i64 (1 + v), .int .i64 0, .int .i64 0, .bool (z == 0), .int .i64 (x - 1), .int .i64 m, .int .i64 k] _ D5.out.2.1 Tryd.underlying33 rfl infoC8 ?_; refine wpList_stA rfl 33 (.tmp 2) (.tmp 48) rfl w.heap.size ([.int .i64 s, .int .i64 (1 + v), .int .i64 0, .int .i64 0, .bool (z == 0), .int .i64 (x - 1), .int .i64 m, .int .i64 k]).toArray rfl rfl (one8a ⟨s, 1 + v, 0, 0, z == 0, x - 1, m, k⟩) infoC8 _ D5.out.1 rfl ?_)
              intro wF aF gF
              have HF := Lib.hid (D5.out.done gF)
              obtain ⟨⟨z0, z1, z2, z3, z4, z5, z6, z7⟩, _⟩ := AtL.z8 aF
              clear aF gF
              go_wp2_with fail
              exact bodyPost_ret (v := clV ⟨s, 1 + v, 0, 0, z == 0, x - 1, m, k⟩) (by simp [results, Tryd.results47, go_sem, z0, z1, z2, z3, z4, z5, z6, z7]) rfl ⟨_, _, rfl, HF.out.1, by omega, HF.out.2⟩
            · have e2 : (t == 2) = false := by simp [ht2]
              clear ht0 ht1 ht2
              go_wp2_with (refine wpList_ldA rfl 33 (.tmp 3) rfl R rfl [.int .i64 (1 + y), .int .i64 (1 + v), .int .i64 0, .int .i64 0, .bool (z == 0), .int .i64 (x - 1), .int .i64 m, .int .i64 k] _ D3.out.2.1 Tryd.underlying33 rfl infoC8 ?_; refine wpList_stA rfl 33 (.tmp 2) (.tmp 48) rfl w.heap.size ([.int .i64 (1 + y), .int .i64 (1 + v), .int .i64 0, .int .i64 0, .bool (z == 0), .int .i64 (x - 1), .int .i64 m, .int .i64 k]).toArray rfl rfl (one8a ⟨1 + y, 1 + v, 0, 0, z == 0, x - 1, m, k⟩) infoC8 _ D3.out.1 rfl ?_)
              intro wF aF gF
              have HF := Lib.hid (D3.out.done gF)
              obtain ⟨⟨z0, z1, z2, z3, z4, z5, z6, z7⟩, _⟩ := AtL.z8 aF
              clear aF gF
              go_wp2_with fail
              exact bodyPost_ret (v := clV ⟨1 + y, 1 + v, 0, 0, z == 0, x - 1, m, k⟩) (by simp [results, Tryd.results47, go_sem, z0, z1, z2, z3, z4, z5, z6, z7]) rfl ⟨_, _, rfl, HF.out.1, by omega, HF.out.2⟩
    · have k3 : (1 + y == 3) = false := by simp; omega
      have k4 : (1 + y == 4) = false := by simp; omega
      have k5 : (1 + y == 5) = false := by simp; omega
      clear h2 h3
      go_wp2_with fail
      try rw [hRR]
      generalize u5.alloc (.cells #[.int .i64 (1 + y), .int .i64 0, .int .i64 0, .int .i64 0, .bool (z == 0), .int .i64 (x - 1), .int .i64 m, .int .i64 k] 33) = W2 at *
      refine (pick_any 60 _ B (p + 1 + 1 + 1 + 1 + 1) (by omega) (by omega) D0.out.2.2.1).mono ?_
      rintro en v1 ⟨t, t0, t1, rfl, hr, hg⟩
      have D1 := Lib.hid (D0.out.pick hr hg)
      clear hr hg D0
      by_cases ht0 : t = 0
      · have e0 : (t == 0) = true := by simp [ht0]
        clear ht0
        go_wp2_with fail
        refine (pick_any 12 _ B ((p + 1 + 1 + 1 + 1 + 1) + 1) (by omega) (by omega) D1.out.2.2.1).mono ?_
        rintro en v2 ⟨s, s0, s1, rfl, hr, hg⟩
        have D2 := Lib.hid (D1.out.pick hr hg)
        clear hr hg D1
        go_wp2_with (refine wpList_st1 rfl 3 (.tmp 39) (.tmp 38) rfl R 1 (.int .i64 s) ?hx16 ?hy16 rfl rfl infoI1 _ D2.out.2.1 (by show 1 < 8; omega) ?hg16)
        case hx16 => rfl
        case hy16 => rfl
        intro v3 ha hg
        have D3 : Hid (Dc w B (((p + 1 + 1 + 1 + 1 + 1) + 1) + 1) R [.int .i64 (1 + y), .int .i64 s, .int .i64 0, .int .i64 0, .bool (z == 0), .int .i64 (x - 1), .int .i64 m, .int .i64 k] v3) := Lib.hid (D2.out.put ha hg)
        clear ha hg D2
        go_wp2_with (refine wpList_ldA rfl 33 (.tmp 3) rfl R rfl [.int .i64 (1 + y), .int .i64 s, .int .i64 0, .int .i64 0, .bool (z == 0), .int .i64 (x - 1), .int .i64 m, .int .i64 k] _ D3.out.2.1 Tryd.underlying33 rfl infoC8 ?_; refine wpList_stA rfl 33 (.tmp 2) (.tmp 48) rfl w.heap.size ([.int .i64 (1 + y), .int .i64 s, .int .i64 0, .int .i64 0, .bool (z == 0), .int .i64 (x - 1), .int .i64 m, .int .i64 k]).toArray rfl rfl (one8a ⟨1 + y, s, 0, 0, z == 0, x - 1, m, k⟩) infoC8 _ D3.out.1 rfl ?_)
        intro wF aF gF
        have HF := Lib.hid (D3.out.done gF)
        obtain ⟨⟨z0, z1, z2, z3, z4, z5, z6, z7⟩, _⟩ := AtL.z8 aF
        clear aF gF
        go_wp2_with fail
        exact bodyPost_ret (v := clV ⟨1 + y, s, 0, 0, z == 0, x - 1, m, k⟩) (by simp [results, Tryd.results47, go_sem, z0, z1, z2, z3, z4, z5, z6, z7]) rfl ⟨_, _, rfl, HF.out.1, by omega, HF.out.2⟩
      · have e0 : (t == 0) = false := by simp [ht0]
        by_cases ht1 : t = 1
        · have e1 : (t == 1) = true := by simp [ht1]
          clear ht0 ht1
          go_wp2_with (refine wpList_st1 rfl 3 (.tmp 42) (.const (.int .i64 10)) rfl R 5 (.int .i64 10) ?hx17 ?hy17 rfl rfl infoI1 _ D1.out.2.1 (by show 5 < 8; omega) ?hg17)
          case hx17 => rfl
          case hy17 => rfl
          intro v2 ha hg
          have D2 : Hid (Dc w B ((p + 1 + 1 + 1 + 1 + 1) + 1) R [.int .i64 (1 + y), .int .i64 0, .int .i64 0, .int .i64 0, .bool (z == 0), .int .i64 10, .int .i64 m, .int .i64 k] v2) := Lib.hid (D1.out.put ha hg)
          clear ha hg D1
          go_wp2_with (refine wpList_ldA rfl 33 (.tmp 3) rfl R rfl [.int .i64 (1 + y), .int .i64 0, .int .i64 0, .int .i64 0, .bool (z == 0), .int .i64 10, .int .i64 m, .int .i64 k] _ D2.out.2.1 Tryd.underlying33 rfl infoC8 ?_; refine wpList_stA rfl 33 (.tmp 2) (.tmp 48) rfl w.heap.size ([.int .i64 (1 + y), .int .i64 0, .int .i64 0, .int .i64 0, .bool (z == 0), .int .i64 10, .int .i64 m, .int .i64 k]).toArray rfl rfl (one8a ⟨1 + y, 0, 0, 0, z == 0, 10, m, k⟩) infoC8 _ D2.out.1 rfl ?_)
          intro wF aF gF
          have HF := Lib.hid (D2.out.done gF)
          obtain ⟨⟨z0, z1, z2, z3, z4, z5, z6, z7⟩, _⟩ := AtL.z8 aF
          clear aF gF
          go_wp2_with fail
          exact bodyPost_ret (v := clV ⟨1 + y, 0, 0, 0, z == 0, 10, m, k⟩) (by simp [results, Tryd.results47, go_sem, z0, z1, z2, z3, z4, z5, z6, z7]) rfl ⟨_, _, rfl, HF.out.1, by omega, HF.out.2⟩
        · have e1 : (t == 1) = false := by simp [ht1]
          by_cases ht2 : t = 2
          · have e2 : (t == 2) = true := by simp [ht2]
            clear ht0 ht1 ht2
            go_wp2_with fail
            refine (pick_any 8 _ B ((p + 1 + 1 + 1 + 1 + 1) + 1) (by omega) (by omega) D1.out.2.2.1).mono ?_
            rintro en v2 ⟨s, s0, s1, rfl, hr, hg⟩
            have D2 := Lib.hid (D1.out.pick hr hg)
            clear hr hg D1
            go_wp2_with (refine wpList_st1 rfl 3 (.tmp 47) (.tmp 46) rfl R 0 (.int .i64 s) ?hx18 ?hy18 rfl rfl infoI1 _ D2.out.2.1 (by show 0 < 8; omega) ?hg18)
            case hx18 => rfl
            case hy18 => rfl
            intro v3 ha hg
            have D3 : Hid (Dc w B (((p + 1 + 1 + 1 + 1 + 1) + 1) + 1) R [.int .i64 s, .int .i64 0, .int .i64 0, .int .i64 0, .bool (z == 0), .int .i64 (x - 1), .int .i64 m, .int .i64 k] v3) := Lib.hid (D2.out.put ha hg)
            clear ha hg D2
            go_wp2_with (refine wpList_ldA rfl 33 (.tmp 3) rfl R rfl [.int .i64 s, .int .i64 0, .int .i64 0, .int .i64 0, .bool (z == 0), .int .i64 (x - 1), .int .i64 m, .int .i64 k] _ D3.out.2.1 Tryd.underlying33 rfl infoC8 ?_; refine wpList_stA rfl 33 (.tmp 2) (.tmp 48) rfl w.heap.size ([.int .i64 s, .int .i64 0, .int .i64 0, .int .i64 0, .bool (z == 0), .int .i64 (x - 1), .int .i64 m, .int .i64 k]).toArray rfl rfl (one8a ⟨s, 0, 0, 0, z == 0, x - 1, m, k⟩) infoC8 _ D3.out.1 rfl ?_)
            intro wF aF gF
            have HF := Lib.hid (D3.out.done gF)
            obtain ⟨⟨z0, z1, z2, z3, z4, z5, z6, z7⟩, _⟩ := AtL.z8 aF
            clear aF gF
            go_wp2_with fail
            exact bodyPost_ret (v := clV ⟨s, 0, 0, 0, z == 0, x - 1, m, k⟩) (by simp [results, Tryd.results47, go_sem, z0, z1, z2, z3, z4, z5, z6, z7]) rfl ⟨_, _, rfl, HF.out.1, by omega, HF.out.2⟩
          · have e2 : (t == 2) = false := by simp [ht2]
            clear ht0 ht1 ht2
            go_wp2_with (refine wpList_ldA rfl 33 (.tmp 3) rfl R rfl [.int .i64 (1 + y), .int .i64 0, .int .i64 0, .int .i64 0, .bool (z == 0), .int .i64 (x - 1), .int .i64 m, .int .i64 k] _ D1.out.2.1 Tryd.underlying33 rfl infoC8 ?_; refine wpList_stA rfl 33 (.tmp 2) (.tmp 48) rfl w.heap.size ([.int .i64 (1 + y), .int .i64 0, .int .i64 0, .int .i64 0, .bool (z == 0), .int .i64 (x - 1), .int .i64 m, .int .i64 k]).toArray rfl rfl (one8a ⟨1 + y, 0, 0, 0, z == 0, x - 1, m, k⟩) infoC8 _ D1.out.1 rfl ?_)
            intro wF aF gF
            have HF := Lib.hid (D1.out.done gF)
            obtain ⟨⟨z0, z1, z2, z3, z4, z5, z6, z7⟩, _⟩ := AtL.z8 aF
            clear aF gF
            go_wp2_with fail
            exact bodyPost_ret (v := clV ⟨1 + y, 0, 0, 0, z == 0, x - 1, m, k⟩) (by simp [results, Tryd.results47, go_sem, z0, z1, z2, z3, z4, z5, z6, z7]) rfl ⟨_, _, rfl, HF.out.1, by omega, HF.out.2⟩
end Go.Proofs.YtioppkalehnoaaaDoor
