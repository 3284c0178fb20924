/-
  A drawn table: some entries, not many, in memory of its own; whatever the bytes.
-/
import Derived.Test.YtnabcffpficgcaaSpecH
import Derived.Test.YtnabcffpficgcaaDrawR
namespace Go.Proofs.Ytnabcffpficgcaa
open Go.RowKit
set_option linter.unusedSimpArgs false
set_option linter.unusedVariables false

def Tabled (w : World) (B p : Nat) (e : Ending) (w' : World) : Prop :=
  ∃ (v : Value) (T : List E) (p' : Nat), e = .returned v ∧ T.length ≤ 13 ∧ Owns w' w.heap.size v T ∧ Rd w' B p' ∧ p' ≤ p + 200 ∧ w.grownBy w' (some B)
theorem owns_pick {w w' : World} {R B : Nat} {v : Value} {T : List E} (ho : Owns w R v T) (hg : w.grownBy w' (some B)) (hB : B < R) : Owns w' R v T :=
  ho.kept hg (by
    cases e : v.ownBlock with
    | none => exact .inl rfl
    | some k => exact .inr (fun h => by have := (ho.lt k e).1; simp at h; omega))
theorem small_entry {n : Nat} {x : Int} (hn : n < 32) (x0 : 0 ≤ x) (x1 : x < 3) : entOk (8 * (n : Int), 5, 1 + x) = true := by
  rw [entOk_iff]
  show okB (8 * (n : Int)) 5 = true ∧ 1 ≤ 1 + x ∧ 1 + x ≤ 9
  refine ⟨okB_of (by omega) (by omega) (by omega) (by omega) ?_, by omega, by omega⟩
  simp [sz]

theorem Owns.lt' {w : World} {R : Nat} {v : Value} {T : List E} (h : Owns w R v T) : ∀ k, v.ownBlock = some k → R ≤ k := fun k hk => (h.lt k hk).1
/-- a reader is kept where an own row is written -/
theorem rd_own {w w' : World} {B p R : Nat} {v : Value} (h : Rd w B p) (hg : w.grownBy w' v.ownBlock) (hv : ∀ k, v.ownBlock = some k → R ≤ k) (hB : B < R) : Rd w' B p := by
  have hBw := rd_lt h
  have ne : ∀ b, b ≤ B → some b ≠ v.ownBlock := fun b hb e => by have := hv b e.symm; omega
  obtain ⟨a, len, cap, z, c0, c1, hf, hp, hl, hz⟩ := h
  refine ⟨a, len, cap, z, hg.cell c0 (ne B (Nat.le_refl _)), hg.cell c1 (ne B (Nat.le_refl _)), (World.frozen?_of_block (w := w) (a := ⟨B, 1, none⟩) (hg.block B hBw (ne B (Nat.le_refl _)))).trans hf, hp, hl, ?_⟩
  rcases hz with h | ⟨b, off, rfl, hb', hc, hbd⟩
  · exact .inl h
  · exact .inr ⟨b, off, rfl, hb', fun i hi => hg.cell (hc i hi) (ne b (by omega)), hbd⟩
/-- seen from before, only new memory was written -/
theorem only_own {a w w' : World} {row : Option Nat} {v : Value} (h : a.grownBy w row) (hg : w.grownBy w' v.ownBlock) (hv : ∀ k, v.ownBlock = some k → a.heap.size ≤ k) : a.grownBy w' row :=
  ⟨hg.os.trans h.os, hg.tape.trans h.tape, hg.output.trans h.output, Nat.le_trans h.size hg.size, fun i hi hne =>
    (hg.block i (Nat.lt_of_lt_of_le hi h.size) (fun e => by have := hv i e.symm; omega)).trans (h.block i hi hne)⟩

/-- while a table is drawn -/
def TabI (w : World) (B q : Nat) (T : List E) (v : Value) (W : World) : Prop := Owns W w.heap.size v T ∧ (∃ q', Rd W B q' ∧ q' ≤ q) ∧ w.grownBy W (some B)
theorem TabI.more {w : World} {B q q2 : Nat} {T : List E} {v : Value} {W : World} (h : TabI w B q T v W) (hq : q ≤ q2) : TabI w B q2 T v W := by
  obtain ⟨a, ⟨q', b, c⟩, d⟩ := h
  exact ⟨a, ⟨q', b, by omega⟩, d⟩

set_option maxRecDepth 100000 in
set_option maxHeartbeats 4000000 in
theorem table_any (w : World) (B p : Nat) (hp : p < 990000) (hr : Rd w B p) :
    Calls Try.prog 8 #[.pointer (some ⟨B, 0, none⟩)] w (Tabled w B p) := by
  have hBw := rd_lt hr
  have HO0 := Lib.hid (owns_empty w w.heap.size (Nat.le_refl _))
  have HR0 := Lib.hid (rd_alloc hr (.cells #[] 29))
  have HG0 := Lib.hid (only_alloc (World.grownBy.refl w (some B)) (.cells #[] 29))
  obtain ⟨i0, hi, hz0, hz1, hz2⟩ := info_parts infoE
  clear hr
  go_enter Try.func8, Try.ntmps8
  go_wp2_with fail
  refine (pick_any 8 _ B p (by omega) (by omega) HR0.out).mono ?_
  rintro e w1 ⟨x, x0, x1, rfl, hr1, hg1⟩
  have I1 : Hid (TabI w B (p + 1) [] (.slice (some ⟨w.heap.size, 0, none⟩) 0 0) w1) := Lib.hid ⟨owns_pick HO0.out hg1 hBw, ⟨p + 1, hr1, Nat.le_refl _⟩, only_on HG0.out hg1⟩
  obtain ⟨m, rfl⟩ := Int.eq_ofNat_of_zero_le x0
  clear hr1 hg1 HO0 HR0 HG0
  go_wp2_with fail
  go_loopw [3, 4] (fun v n wr => ∃ (k : Nat) (T : List E), k ≤ 7 ∧ n = .int .i64 k ∧ Good T ∧ T.length + k ≤ 7 ∧ TabI w B (p + 1 + 9 * (7 - k)) T v wr) (fun _ n _ => (intOf n).toNat)
  case atStart => exact ⟨m, [], by omega, rfl, Good.nil, by simp; omega, I1.out.more (by omega)⟩
  case round =>
    obtain ⟨k, T, hk, rfl, hg, hl, ho, ⟨q, hr, hq⟩, hG⟩ := hrel
    clear I1
    obtain ⟨av, pv, rfl, tv⟩ := Owns.tab ho
    by_cases hk0 : 0 < k
    · have HO := Lib.hid (And.intro ho (And.intro hr (And.intro hG hg)))
      have hsz := hG.size
      clear ho hr hG hg tv
      go_wp2_with fail
      refine (range_any _ B q (by omega) HO.out.2.1).mono ?_
      rintro e w2 ⟨f, b, q2, hs, rfl, hr2, hq2, hg2⟩
      have HO2 := Lib.hid (And.intro (owns_pick HO.out.1 hg2 hBw) (And.intro hr2 (only_on HO.out.2.2.1 hg2)))
      clear hr2 hg2
      go_wp2_with fail
      refine (pick_any 4 _ B q2 (by omega) (by omega) HO2.out.2.1).mono ?_
      rintro e w3 ⟨y, y0, y1, rfl, hr3, hg3⟩
      have HO3 := Lib.hid (And.intro ((owns_pick HO2.out.1 hg3 hBw).alloc (.cells #[.int .i64 f, .int .i64 b, .int .i64 (1 + y)] 29)) (And.intro (rd_alloc hr3 (.cells #[.int .i64 f, .int .i64 b, .int .i64 (1 + y)] 29)) (only_alloc (only_on HO2.out.2.2 hg3) (.cells #[.int .i64 f, .int .i64 b, .int .i64 (1 + y)] 29))))
      have HA := Lib.hid (At3.new w3 f b (1 + y) 29)
      clear hr3 hg3 HO2
      go_wp2_with fail
      generalize w3.alloc (.cells #[.int .i64 f, .int .i64 b, .int .i64 (1 + y)] 29) = w4 at *
      cases he : entOk (f, b, 1 + y) with
      | true =>
        refine (sent_is he _).mono ?_
        rintro e w5 ⟨rfl, hb5⟩
        obtain ⟨c0, c1, c2⟩ := HA.out.below hb5
        have HO5 := Lib.hid (And.intro (owns_later HO3.out.1 hb5) (And.intro (rd_below HO3.out.2.1 hb5) (only_below HO3.out.2.2 hb5)))
        have HGP := Lib.hid (And.intro (good_put HO.out.2.2.2 he) (put_len HO.out.2.2.2 (f, b, 1 + y)))
        clear hb5 HO3 HA
        obtain ⟨ax, px, e', tx⟩ := Owns.tab HO5.out.1
        obtain ⟨rfl, rfl⟩ : av = ax ∧ pv = px := by simpa using e'
        have HTX := Lib.hid tx
        clear tx e'
        go_wp2_with fail
        refine (lput_any av pv T f b (1 + y) _ HTX.out (by omega)).mono ?_
        rintro e w6 ⟨v6, rfl, ho6, hb6⟩
        have R : Hid (TabI w B (q2 + 1) (putM T (f, b, 1 + y)) v6 w6) := Lib.hid ⟨owns_mono ho6 HO5.out.2.2.size, ⟨q2 + 1, rd_below HO5.out.2.1 hb6, Nat.le_refl _⟩, only_below HO5.out.2.2 hb6⟩
        clear ho6 hb6 HO5 c0 c1 c2
        go_wp2_with fail
        go_roundw
        case rel => exact ⟨k - 1, putM T (f, b, 1 + y), by omega, by go_num, HGP.out.1, by have := HGP.out.2; omega, R.out.more (by omega)⟩
        case measure => simp [intOf]; omega
      | false =>
        refine (sent_is he _).mono ?_
        rintro e w5 ⟨rfl, hb5⟩
        have R : Hid (TabI w B (q2 + 1) T (.slice av T.length pv) w5) := Lib.hid ⟨owns_later HO3.out.1 hb5, ⟨q2 + 1, rd_below HO3.out.2.1 hb5, Nat.le_refl _⟩, only_below HO3.out.2.2 hb5⟩
        clear hb5 HO3 HA
        go_wp2_with fail
        go_roundw
        case rel => exact ⟨k - 1, T, by omega, by go_num, HO.out.2.2.2, by omega, R.out.more (by omega)⟩
        case measure => simp [intOf]; omega
    · obtain rfl : k = 0 := by omega
      have HO := Lib.hid (And.intro ho (And.intro hr (And.intro hG hg)))
      have hsz := hG.size
      clear ho hr hG hg tv
      go_wp2_with fail
      refine (pick_any 30 _ B q (by omega) (by omega) HO.out.2.1).mono ?_
      rintro e w2 ⟨z, z0, z1, rfl, hr2, hg2⟩
      have HO2 := Lib.hid (And.intro (owns_pick HO.out.1 hg2 hBw) (And.intro hr2 (And.intro (only_on HO.out.2.2.1 hg2) HO.out.2.2.2)))
      have hsz2 := HO2.out.2.2.1.size
      clear hr2 hg2 HO
      have hz : z = 0 ∨ z = 1 ∨ 2 ≤ z := by omega
      rcases hz with rfl | rfl | hz
      · go_wp2_with fail
        refine (range_any _ B (q + 1) (by omega) HO2.out.2.1).mono ?_
        rintro e w3 ⟨f, b, q3, hs3, rfl, hr3, hq3, hg3⟩
        have HO3 := Lib.hid (And.intro (owns_pick HO2.out.1 hg3 hBw) (And.intro hr3 (only_on HO2.out.2.2.1 hg3)))
        clear hr3 hg3 HO2
        go_wp2_with fail
        refine (pick_any 11 _ B q3 (by omega) (by omega) HO3.out.2.1).mono ?_
        rintro e w4 ⟨y, y0, y1, rfl, hr4, hg4⟩
        have HO4 := Lib.hid (owns_pick HO3.out.1 hg4 hBw)
        have HR4 := Lib.hid (And.intro hr4 (only_on HO3.out.2.2 hg4))
        have hsz4 := HR4.out.2.size
        clear hr4 hg4 HO3
        go_wp2_with (first | (at_builtin; refine wpList_append_own _ rfl (.tmp 29) (.tmp 35) 23 rfl w.heap.size 29 i0 (.agg #[.int .i64 0, .int .i64 0, .int .i64 0]) 3 24 Try.underlying23 hi hz0 hz1 hz2 rfl (by decide) _ T.length (cellsT T) rfl (HO4.out.alloc _) ⟨w4.heap.size, 0, none⟩ 1 1 (cellsT [(f, b, y)]) rfl rfl (news1 w4 f b y _) (oneT _) (by unfold maxLen; omega) (by omega) (by simp only [World.size_alloc]; omega) ?_; intro v5 w5 own5 grow5 _))
        go_ret
        have ho4 := HO4.out.alloc (.cells #[.int .i64 f, .int .i64 b, .int .i64 y] 29)
        exact ⟨_, _, _, rfl, by simp; omega, owns_app own5, rd_own (rd_alloc HR4.out.1 _) grow5 (Owns.lt' ho4) hBw, by omega, only_own (only_alloc HR4.out.2 _) grow5 (Owns.lt' ho4)⟩
      · go_wp2_with fail
        go_loopw [3, 6] (fun v n wr => ∃ (k : Nat) (T : List E), k ≤ 32 ∧ n = .int .i64 k ∧ Good T ∧ T.length ≤ 12 ∧ TabI w B (q + 1 + k) T v wr) (fun _ n _ => 32 - (intOf n).toNat)
        case atStart => exact ⟨0, T, by omega, rfl, HO2.out.2.2.2, by omega, HO2.out.1, ⟨q + 1, HO2.out.2.1, by omega⟩, HO2.out.2.2.1⟩
        case round =>
          obtain ⟨k, U, hk, rfl, hg, hl, ho, ⟨q3, hr, hq3⟩, hG⟩ := hrel
          clear HO2
          obtain ⟨au, pu, rfl, tu⟩ := Owns.tab ho
          have HO := Lib.hid (And.intro ho (And.intro hr (And.intro hG hg)))
          have hsz3 := hG.size
          clear ho hr hG hg tu
          by_cases hk0 : k < 32
          · by_cases hu : U.length < 12
            · go_wp2_with fail
              refine (pick_any 3 _ B q3 (by omega) (by omega) HO.out.2.1).mono ?_
              rintro e w3 ⟨y, y0, y1, rfl, hr3, hg3⟩
              have HO3 := Lib.hid (And.intro (owns_pick HO.out.1 hg3 hBw) (And.intro hr3 (only_on HO.out.2.2.1 hg3)))
              have he := small_entry hk0 y0 y1
              have HGP := Lib.hid (And.intro (good_put HO.out.2.2.2 he) (put_len HO.out.2.2.2 (8 * (k : Int), 5, 1 + y)))
              obtain ⟨ax, px, e', tx⟩ := Owns.tab HO3.out.1
              obtain ⟨rfl, rfl⟩ : au = ax ∧ pu = px := by simpa using e'
              have HTX := Lib.hid tx
              clear hr3 hg3 tx e'
              go_wp2_with fail
              refine (lput_any au pu U (8 * (k : Int)) 5 (1 + y) _ HTX.out (by omega)).mono ?_
              rintro e w6 ⟨v6, rfl, ho6, hb6⟩
              have R : Hid (TabI w B (q3 + 1) (putM U (8 * (k : Int), 5, 1 + y)) v6 w6) := Lib.hid ⟨owns_mono ho6 HO3.out.2.2.size, ⟨q3 + 1, rd_below HO3.out.2.1 hb6, Nat.le_refl _⟩, only_below HO3.out.2.2 hb6⟩
              clear ho6 hb6 HO3
              go_wp2_with fail
              go_roundw
              case rel => exact ⟨k + 1, putM U (8 * (k : Int), 5, 1 + y), by omega, by go_num, HGP.out.1, by have := HGP.out.2; omega, R.out.more (by omega)⟩
              case measure => simp [intOf]; omega
            · go_wp2_with fail
              go_ret
              exact ⟨_, U, q3, rfl, by omega, HO.out.1, HO.out.2.1, by omega, HO.out.2.2.1⟩
          · go_wp2_with fail
            go_ret
            exact ⟨_, U, q3, rfl, by omega, HO.out.1, HO.out.2.1, by omega, HO.out.2.2.1⟩
      · have e0 : (z == 0) = false := by simp; omega
        have e1 : (z == 1) = false := by simp; omega
        go_wp2_with fail
        go_ret
        exact ⟨_, T, q + 1, rfl, by omega, HO2.out.1, HO2.out.2.1, by omega, HO2.out.2.2.1⟩
end Go.Proofs.Ytnabcffpficgcaa
