/-
  FnTableForm: the walk.
-/
import Derived.Test.YtnabcffpficgcaaLawTl
namespace Go.Proofs.Ytnabcffpficgcaa
open Go.RowKit
set_option linter.unusedSimpArgs false
set_option linter.unusedVariables false

theorem tokn_is {a : Option Addr} {cap n : Nat} {T : List E} {x : Bool} (h : tabOk T = x) (w : World) (hn : n = T.length) (hT : TabA w a T) (hl : T.length ≤ 2000000) :
    Calls Try.prog 5 #[.slice a n cap] w fun e w' => e = .returned (.bool x) ∧ Below w.heap.size w w' := by
  subst hn; exact tok_is h w hT hl
/-- 'append(own, xs...)', xs a slice of entries that is not nil -/
theorem wp_appT {o : Oper} {act : Act} {w : World} {K : Act → World → Prop} {Q : Exit → Act → World → Prop} (s x : Operand)
    (ho : o.op = .call { callee := .builtin .append, args := #[s, x], argTypes := #[23, 23] })
    (R : Nat) (v : Value) (L : List E) (hs : act.eval s = v) (hown : Owns w R v L)
    (ad : Addr) (c n : Nat) (M : List E) (hn : n = M.length) (hx : act.eval x = .slice (some ad) n c) (hM : TabA w (some ad) M)
    (hlen : L.length + M.length ≤ 4000000) (hR : R ≤ w.heap.size)
    (h : ∀ v' w', Owns w' R v' (L ++ M) → w.grownBy w' v.ownBlock → K (act.put o.dst v') w') : o.wp Try.prog act w K Q := by
  subst hn
  obtain ⟨i0, hi, hz0, hz1, hz2⟩ := info_parts infoE
  refine wp_append_own w s x 23 ho R 29 i0 (.agg #[.int .i64 0, .int .i64 0, .int .i64 0]) 3 24 Try.underlying23 hi hz0 hz1 hz2 rfl (by decide) v L.length (cellsT L) hs hown ad M.length c (cellsT M) hx (cellsT_len M) hM.cellsA (oneT M) (by unfold maxLen; omega) (by omega) hR ?_
  intro v' w' h2 h3 _
  exact h v' w' (by rw [Owns, List.length_append, show cellsT (L ++ M) = cellsT L ++ cellsT M from by simp [cellsT]]; exact h2) h3
/-- the table and the swapped one -/
def FW (w : World) (ad : Addr) (T : List E) (g : Nat) (U : List E) (W : World) : Prop := TabA W (some ad) T ∧ TabA W (some ⟨g, 0, none⟩) U ∧ Below w.heap.size w W
theorem FW.below {w : World} {ad : Addr} {T : List E} {g : Nat} {U : List E} {W W' : World} (h : FW w ad T g U W) (k : Below W.heap.size W W') : FW w ad T g U W' := ⟨h.1.below k, h.2.1.below k, next h.2.2 k⟩
theorem FW.drew {w : World} {ad : Addr} {T : List E} {g : Nat} {U : List E} {W : World} (h : FW w ad T g U W) : FW w ad T g U W.drew := h.below ((Below.refl _ _).drew)
theorem FW.alloc {w : World} {ad : Addr} {T : List E} {g : Nat} {U : List E} {W : World} (h : FW w ad T g U W) (o : Obj) : FW w ad T g U (W.alloc o) := h.below ((Below.refl _ _).alloc (Nat.le_refl _) o)

theorem owns_some {w : World} {R : Nat} {v : Value} {T : List E} (h : Owns w R v T) (hT : T.length ≠ 0) : ∃ g cap, v = .slice (some ⟨g, 0, none⟩) T.length cap ∧ R ≤ g ∧ T.length ≤ cap := by
  obtain ⟨_, h2⟩ := id h
  rcases h2 with ⟨rfl, h0⟩ | ⟨g, cap, cur, rfl, hb, _, hc, _⟩
  · exact (hT h0).elim
  · exact ⟨g, cap, rfl, hb, hc⟩

theorem owns_n {w : World} {R : Nat} {v : Value} {T : List E} (h : Owns w R v T) : ∃ a n cap, v = .slice a n cap ∧ Hid (n = T.length) ∧ TabA w a T := by
  obtain ⟨a, cap, e, t, _⟩ := Owns.tabN h
  exact ⟨a, _, cap, e, Lib.hid rfl, t⟩
theorem tabA_later {w w' : World} {b off n : Nat} {T : List E} (h : TabA w (some ⟨b, off, none⟩) T) (k : Below n w w') (hn : b < n) : TabA w' (some ⟨b, off, none⟩) T := by
  rcases h with rfl | ⟨b', off', e, h⟩
  · exact .inl rfl
  · obtain ⟨rfl, rfl⟩ : b = b' ∧ off = off' := by simpa using e
    have c : ∀ (o : Nat) (v : Value), w.cell? ⟨b, o, none⟩ = some v → w'.cell? ⟨b, o, none⟩ = some v := fun o v hv => (k.cell (p := ⟨b, o, none⟩) hn).trans hv
    exact .inr ⟨b, off, rfl, fun i e hi => ⟨c _ _ (h i e hi).1, c _ _ (h i e hi).2.1, c _ _ (h i e hi).2.2⟩⟩
theorem FW.later {w : World} {b off : Nat} {T : List E} {g : Nat} {U : List E} {W W' : World} {n : Nat} (h : FW w ⟨b, off, none⟩ T g U W) (k : Below n W W') (h1 : b < n) (h2 : g < n) (h3 : w.heap.size ≤ n) : FW w ⟨b, off, none⟩ T g U W' :=
  ⟨tabA_later h.1 k h1, tabA_later h.2.1 k h2, h.2.2.trans (k.mono h3)⟩

set_option maxRecDepth 100000 in
set_option maxHeartbeats 4000000 in
theorem lawTableForm (a : Option Addr) (len cap : Nat) (zs : List Int) (a1 : Option Addr) (len1 cap1 : Nat) (zs1 : List Int) (w : World) (h : IsRow w a len cap zs) (h1 : IsRow w a1 len1 cap1 zs1) :
    Calls Try.prog 3 #[.slice a len cap, .slice a1 len1 cap1] w fun e w' => e = .returned (.bool true) ∧ Below w.heap.size w w' := by
  have H := Lib.hid h
  clear h h1
  by_cases hl : (1048576 : Int) < (len : Int)
  · go_enter Try.func3, Try.ntmps3
    go_wp2_with fail
    go_ret
    exact ⟨rfl, Below.refl _ _⟩
  by_cases hl1 : (1048576 : Int) < (len1 : Int)
  · go_enter Try.func3, Try.ntmps3
    go_wp2_with fail
    go_ret
    exact ⟨rfl, Below.refl _ _⟩
  go_enter Try.func3, Try.ntmps3
  go_wp2_with fail
  refine (dTabOk_any a len cap zs _ H.out).mono ?_
  rintro e w1 ⟨v, T, hT, rfl, o, b⟩
  obtain ⟨qt, pt, rfl, tt, nt⟩ := Owns.tabN o
  have H1 := Lib.hid (And.intro o b)
  clear tt nt o b
  cases ho : tabOk T with
  | false =>
    go_wp2_with fail
    refine (tok_is ho _ (owns_tabA H1.out.1) (by omega)).mono ?_
    rintro e w2 ⟨rfl, b⟩
    have H2 := Lib.hid (And.intro (owns_later H1.out.1 b) (next H1.out.2 b))
    clear b
    go_wp2_with fail
    refine (stok_is ho _ (owns_tabA H2.out.1) (by omega)).mono ?_
    rintro e w3 ⟨rfl, b⟩
    have H3 := Lib.hid (And.intro (owns_later H2.out.1 b) (next H2.out.2 b))
    clear b
    go_wp2_with fail
    refine (stok_is ho _ (owns_tabA H3.out.1) (by omega)).mono ?_
    rintro e w4 ⟨rfl, b⟩
    have H4 := Lib.hid (next H3.out.2 b)
    clear b
    go_wp2_with fail
    go_ret
    exact ⟨rfl, H4.out⟩
  | true =>
    have HG := Lib.hid ho
    go_wp2_with fail
    refine (tok_is ho _ (owns_tabA H1.out.1) (by omega)).mono ?_
    rintro e w2 ⟨rfl, b⟩
    have H2 := Lib.hid (And.intro (owns_later H1.out.1 b) (next H1.out.2 b))
    clear b H1
    go_wp2_with fail
    refine (stok_is ho _ (owns_tabA H2.out.1) (by omega)).mono ?_
    rintro e w3 ⟨rfl, b⟩
    have H3 := Lib.hid (And.intro (owns_later H2.out.1 b) (next H2.out.2 b))
    clear b H2 ho
    by_cases hl2 : (T.length : Int) < 2
    · go_wp2_with fail
      refine (tokn_is (T := []) ok_nil _ rfl (.inl rfl) (by simp)).mono ?_
      rintro e w4 ⟨rfl, b⟩
      have H4 := Lib.hid (next H3.out.2 b)
      clear b
      go_wp2_with fail
      go_ret
      exact ⟨rfl, H4.out⟩
    have t1 : (len1 : Int).tmod ((T.length : Int) - 1) = ((len1 % (T.length - 1) : Nat) : Int) := by
      rw [show (T.length : Int) - 1 = ((T.length - 1 : Nat) : Int) by omega, Int.tmod_eq_emod_of_nonneg (by omega)]; rfl
    have hr : len1 % (T.length - 1) < T.length - 1 := Nat.mod_lt _ (by omega)
    have hz : ((T.length : Int) - 1 == 0) = false := by simp; omega
    generalize len1 % (T.length - 1) = r at *
    obtain ⟨i0, hi, hz0, hz1, hz2⟩ := info_parts infoE
    obtain ⟨bt, ot, f1, c1, u1, rfl, hx, x0, x1, x2⟩ := (owns_tabA H3.out.1).at (show r < T.length by omega)
    obtain ⟨bt', ot', f2, c2, u2, e2, hy, y0, y1, y2⟩ := (owns_tabA H3.out.1).at (show r + 1 < T.length by omega)
    obtain ⟨rfl, rfl⟩ : bt = bt' ∧ ot = ot' := by simpa using e2
    have HXY := Lib.hid (And.intro hx hy)
    have HE := Lib.hid (owns_empty w3 w3.heap.size (Nat.le_refl _))
    have HT4 := Lib.hid ((owns_tabA H3.out.1).alloc (.cells #[] 29))
    have hpt : T.length ≤ pt := by
      obtain ⟨g, c, e, _, h⟩ := owns_some H3.out.1 (by omega)
      simp at e
      omega
    have hbt : bt < w3.heap.size := World.block_lt_of_cell? _ _ x0
    have j0 : (0 : Int) ≤ (r : Int) := by omega
    have j1 : (r : Int) < (T.length : Int) := by omega
    have j2 : (0 : Int) ≤ (r : Int) + 1 := by omega
    have j3 : (r : Int) + 1 < (T.length : Int) := by omega
    have j4 : ((r : Int) + 1).toNat = r + 1 := by omega
    have jw : IntKind.i64.wrap ((r : Int) + 1) = (r : Int) + 1 := by rw [IntKind.wrap_i64]; omega
    clear hx hy e2 x0 x1 x2 y0 y1 y2
    go_wp2_with (first | (at_builtin; refine wpList_append_own _ rfl (.tmp 43) (.tmp 44) 23 rfl w3.heap.size 29 i0 (.agg #[.int .i64 0, .int .i64 0, .int .i64 0]) 3 24 Try.underlying23 hi hz0 hz1 hz2 rfl (by decide) _ 0 [] rfl HE.out ⟨bt, ot, none⟩ T.length pt (cellsT T) rfl (cellsT_len T) HT4.out.cells (oneT _) (by unfold maxLen; omega) (by omega) (by simp only [World.size_alloc]; omega) ?_; intro v5 w5 own5 grow5 _; have HB5 := Lib.hid (((Below.refl w3.heap.size w3).alloc (Nat.le_refl _) (.cells #[] 29)).trans (app_below (L := []) HE.out grow5 (by simp only [World.size_alloc]; omega))); have own6 : Owns w5 w3.heap.size v5 T := (by simpa [Owns] using own5); obtain ⟨g, p5, rfl, hg, hp5⟩ := owns_some own6 (by omega); have HO5 := Lib.hid own6; obtain ⟨y0, y1, y2⟩ := tabA_get ((owns_tabA H3.out.1).below HB5.out) HXY.out.2; obtain ⟨d0, d1, d2⟩ := Owns.cells3 own6 HXY.out.1; have fr0 := World.ownsRow.frozenAt own6 (r * 3); have fr1 := World.ownsRow.frozenAt own6 (r * 3 + 1); have fr2 := World.ownsRow.frozenAt own6 (r * 3 + 2); obtain ⟨x0, x1, x2⟩ := tabA_get ((owns_tabA H3.out.1).below HB5.out) HXY.out.1; obtain ⟨k0, k1, k2⟩ := Owns.cells3 own6 HXY.out.2; have fs0 := World.ownsRow.frozenAt own6 ((r + 1) * 3); have fs1 := World.ownsRow.frozenAt own6 ((r + 1) * 3 + 1); have fs2 := World.ownsRow.frozenAt own6 ((r + 1) * 3 + 2); clear own5 grow5 own6))
    have HP1 := Owns.put HO5.out (k := r) (by omega) f2 c2 u2
    have HP2 := Owns.put (L := T.set r (f2, c2, u2)) (k := r + 1) (by rw [List.length_set]; exact HP1.1) (by rw [List.length_set]; omega) f1 c1 u1
    have hB7 := HB5.out.grown (only_on HP1.2 HP2.2) HB5.out.size (fun k e => by cases e; exact hg)
    have hT7 := owns_tabA HP2.1
    have q1 : tabOk (T.take r) = true := ok_take HG.out r
    have q2 : tabOk ((T.set r (f2, c2, u2)).set (r + 1) (f1, c1, u1)) = false := bad_swap HG.out HXY.out.1 HXY.out.2
    have q3 : tabOk ([] ++ T.take (r + 1) ++ T.drop r) = false := bad_twice HXY.out.1
    have e1 : Hid (r = (T.take r).length) := Lib.hid (by rw [List.length_take]; omega)
    have e2 : Hid (T.length = ((T.set r (f2, c2, u2)).set (r + 1) (f1, c1, u1)).length) := Lib.hid (by simp)
    have e3 : Hid (r + 1 = (T.take (r + 1)).length) := Lib.hid (by rw [List.length_take]; omega)
    have e4 : Hid (T.length - r = (T.drop r).length) := Lib.hid (by simp)
    generalize (T.set r (f2, c2, u2)).set (r + 1) (f1, c1, u1) = U at *
    have hgz : g < w5.heap.size := World.block_lt_of_cell? _ _ d0
    have hz7 := (only_on HP1.2 HP2.2).size
    have HF0 : Hid (FW w ⟨bt, ot, none⟩ T g U _) := Lib.hid ⟨(owns_tabA H3.out.1).below hB7, hT7, next H3.out.2 hB7⟩
    have hwz := H3.out.2.size
    have hz3 := HB5.out.size
    clear HP1 HP2 hB7 hT7 x0 x1 x2 y0 y1 y2 d0 d1 d2 k0 k1 k2 fr0 fr1 fr2 fs0 fs1 fs2 HO5 HB5 HE HT4
    generalize (((((w5.setCell ⟨g, r * 3, none⟩ (.int .i64 f2)).setCell ⟨g, r * 3 + 1, none⟩ (.int .i64 c2)).setCell ⟨g, r * 3 + 2, none⟩ (.int .i64 u2)).setCell ⟨g, (r + 1) * 3, none⟩ (.int .i64 f1)).setCell ⟨g, (r + 1) * 3 + 1, none⟩ (.int .i64 c1)).setCell ⟨g, (r + 1) * 3 + 2, none⟩ (.int .i64 u1) = w7 at *
    have j5 : (r : Int) ≤ (pt : Int) := by omega
    have j6 : (r : Int) + 1 ≤ (pt : Int) := by omega
    have j7 : (T.length : Int) ≤ (pt : Int) := by omega
    have j8 : (r : Int) ≤ (T.length : Int) := by omega
    have j9 : ¬ pt = r := by omega
    have j10 : ¬ pt - r = 0 := by omega
    refine wp_region_held_drew (S := fun W => FW w ⟨bt, ot, none⟩ T g U W) (by kernel_rfl) ?_ (fun hHeld => ?_)
    · exact HF0.out.drew
    refine takeH (i := 0) (v := ?_) rfl rfl (by kernel_rfl) (by kernel_rfl) (by kernel_rfl) (fun _ _ _ h => h) (by rfl) ?_ (by assumption) ?_
    rotate_left 1
    · intro w hSw
      (try dsimp only at hSw)
      go_simp
      try with_reducible rfl
    try simp only [List.setIfInBounds_toArray, List.set_cons_zero, List.set_cons_succ]
    refine takeH (i := 1) (v := ?_) rfl rfl (by kernel_rfl) (by kernel_rfl) (by kernel_rfl) (fun _ _ _ h => h) (by rfl) ?_ (by assumption) ?_
    rotate_left 1
    · intro w hSw
      (try dsimp only at hSw)
      go_simp
      try with_reducible rfl
    try simp only [List.setIfInBounds_toArray, List.set_cons_zero, List.set_cons_succ]
    refine takeH (i := 2) (v := ?_) rfl rfl (by kernel_rfl) (by kernel_rfl) (by kernel_rfl) (fun _ _ _ h => h) (by rfl) ?_ (by assumption) ?_
    rotate_left 1
    · intro w hSw
      (try dsimp only at hSw)
      go_simp
      try with_reducible rfl
    try simp only [List.setIfInBounds_toArray, List.set_cons_zero, List.set_cons_succ]
    refine wpAnyH_ready (rs := [3]) (by kernel_rfl) (by simp) ?_
    refine AllReadyH.cons rfl (fun K hK => ?_) (AllReadyH.nil)
    go_simp
    refine (tokn_is q1 _ e1.out (tabA_take hHeld.1 r) (by rw [← e1.out]; omega)).mono ?_
    rintro e wa ⟨rfl, ba⟩
    have hza := ba.size
    go_wp2_with fail
    refine hK.out _ _ ?_ (fun hNew => ?_)
    · exact hHeld.below ba
    clear hK K hHeld
    have hHeld := hNew
    clear hNew
    try simp only [Act.put, List.setIfInBounds_toArray, List.set_cons_zero, List.set_cons_succ]
    refine takeH (i := 4) (v := ?_) rfl rfl (by kernel_rfl) (by kernel_rfl) (by kernel_rfl) (fun _ _ _ h => h) (by rfl) ?_ (by assumption) ?_
    rotate_left 1
    · intro w hSw
      (try dsimp only at hSw)
      go_simp
      try with_reducible rfl
    try simp only [List.setIfInBounds_toArray, List.set_cons_zero, List.set_cons_succ]
    refine takeH (i := 5) (v := ?_) rfl rfl (by kernel_rfl) (by kernel_rfl) (by kernel_rfl) (fun _ _ _ h => h) (by rfl) ?_ (by assumption) ?_
    rotate_left 1
    · intro w hSw
      (try dsimp only at hSw)
      go_simp
      try with_reducible rfl
    try simp only [List.setIfInBounds_toArray, List.set_cons_zero, List.set_cons_succ]
    refine wpAnyH_ready (rs := [6]) (by kernel_rfl) (by simp) ?_
    refine AllReadyH.cons rfl (fun K hK => ?_) (AllReadyH.nil)
    go_simp
    refine (tokn_is q2 _ e2.out hHeld.2.1 (by rw [← e2.out]; omega)).mono ?_
    rintro e wb ⟨rfl, bb⟩
    have hzb := bb.size
    have hR1 : bt < wb.heap.size := by simp at hza; omega
    have hR2 : g < wb.heap.size := by simp at hza; omega
    have hR3 : w.heap.size ≤ wb.heap.size := by simp at hza; omega
    go_wp2_with fail
    refine hK.out _ _ ?_ (fun hNew => ?_)
    · exact hHeld.below bb
    clear hK K hHeld
    have hHeld := hNew
    clear hNew
    try simp only [Act.put, List.setIfInBounds_toArray, List.set_cons_zero, List.set_cons_succ]
    refine takeH (i := 7) (v := ?_) rfl rfl (by kernel_rfl) (by kernel_rfl) (by kernel_rfl) (fun _ _ _ h => h) (by rfl) ?_ (by assumption) ?_
    rotate_left 1
    · intro w hSw
      (try dsimp only at hSw)
      go_simp
      try with_reducible rfl
    try simp only [List.setIfInBounds_toArray, List.set_cons_zero, List.set_cons_succ]
    refine takeH (i := 8) (v := ?_) rfl rfl (by kernel_rfl) (by kernel_rfl) (by kernel_rfl) (fun _ _ _ h => h) (by rfl) ?_ (by assumption) ?_
    rotate_left 1
    · intro w hSw
      (try dsimp only at hSw)
      go_simp
      try with_reducible rfl
    try simp only [List.setIfInBounds_toArray, List.set_cons_zero, List.set_cons_succ]
    refine takeH (i := 9) (v := ?_) rfl rfl (by kernel_rfl) (by kernel_rfl) (by kernel_rfl) (fun _ _ _ h => h) (by rfl) ?_ (by assumption) ?_
    rotate_left 1
    · intro w hSw
      (try dsimp only at hSw)
      go_simp
      try with_reducible rfl
    try simp only [List.setIfInBounds_toArray, List.set_cons_zero, List.set_cons_succ]
    refine takeH (i := 11) (v := ?_) rfl rfl (by kernel_rfl) (by kernel_rfl) (by kernel_rfl) (fun _ _ _ h => h) (by rfl) ?_ (by assumption) ?_
    rotate_left 1
    · intro w hSw
      (try dsimp only at hSw)
      go_simp
      try with_reducible rfl
    try simp only [List.setIfInBounds_toArray, List.set_cons_zero, List.set_cons_succ]
    refine takeH (i := 12) (v := ?_) rfl rfl (by kernel_rfl) (by kernel_rfl) (by kernel_rfl) (fun _ _ _ h => h) (by rfl) ?_ (by assumption) ?_
    rotate_left 1
    · intro w hSw
      (try dsimp only at hSw)
      go_simp
      try with_reducible rfl
    try simp only [List.setIfInBounds_toArray, List.set_cons_zero, List.set_cons_succ]
    refine takeH (i := 13) (v := ?_) rfl rfl (by kernel_rfl) (by kernel_rfl) (by kernel_rfl) (fun _ _ _ h => h) (by rfl) ?_ (by assumption) ?_
    rotate_left 1
    · intro w hSw
      (try dsimp only at hSw)
      go_simp
      try with_reducible rfl
    try simp only [List.setIfInBounds_toArray, List.set_cons_zero, List.set_cons_succ]
    refine takeH (i := 14) (v := ?_) rfl rfl (by kernel_rfl) (by kernel_rfl) (by kernel_rfl) (fun _ _ _ h => h) (by rfl) ?_ (by assumption) ?_
    rotate_left 1
    · intro w hSw
      (try dsimp only at hSw)
      go_simp
      try with_reducible rfl
    try simp only [List.setIfInBounds_toArray, List.set_cons_zero, List.set_cons_succ]
    refine takeH (i := 16) (v := ?_) rfl rfl (by kernel_rfl) (by kernel_rfl) (by kernel_rfl) (fun _ _ _ h => h) (by rfl) ?_ (by assumption) ?_
    rotate_left 1
    · intro w hSw
      (try dsimp only at hSw)
      go_simp
      try with_reducible rfl
    try simp only [List.setIfInBounds_toArray, List.set_cons_zero, List.set_cons_succ]
    refine takeH (i := 17) (v := ?_) rfl rfl (by kernel_rfl) (by kernel_rfl) (by kernel_rfl) (fun _ _ _ h => h) (by rfl) ?_ (by assumption) ?_
    rotate_left 1
    · intro w hSw
      (try dsimp only at hSw)
      go_simp
      try with_reducible rfl
    try simp only [List.setIfInBounds_toArray, List.set_cons_zero, List.set_cons_succ]
    refine takeH (i := 18) (v := ?_) rfl rfl (by kernel_rfl) (by kernel_rfl) (by kernel_rfl) (fun _ _ _ h => h) (by rfl) ?_ (by assumption) ?_
    rotate_left 1
    · intro w hSw
      (try dsimp only at hSw)
      go_simp
      try with_reducible rfl
    try simp only [List.setIfInBounds_toArray, List.set_cons_zero, List.set_cons_succ]
    refine wpAnyH_ready (rs := [10]) (by kernel_rfl) (by simp) ?_
    refine AllReadyH.cons rfl (fun K hK => ?_) (AllReadyH.nil)
    go_simp
    refine hK.out _ _ ?_ (fun hNew => ?_)
    · exact hHeld.alloc _
    clear hK K hHeld
    have hHeld := hNew
    clear hNew
    try simp only [Act.put, List.setIfInBounds_toArray, List.set_cons_zero, List.set_cons_succ]
    refine wpAnyH_ready (rs := [15]) (by kernel_rfl) (by simp) ?_
    refine AllReadyH.cons rfl (fun K hK => ?_) (AllReadyH.nil)
    refine wp_appT (.tmp 72) (.tmp 76) rfl wb.heap.size _ [] (by simp [Act.eval]) (owns_empty wb wb.heap.size (Nat.le_refl _)) ⟨bt, ot, none⟩ pt (r + 1) (T.take (r + 1)) e3.out (by simp [Act.eval]) (tabA_take hHeld.1 (r + 1)) (by rw [← e3.out]; simp; omega) (by simp) ?_
    intro v1 wc own1 grow1
    have bc := app_below (L := []) (owns_empty wb wb.heap.size (Nat.le_refl _)) grow1 (by simp)
    have hzc := bc.size
    clear grow1
    refine hK.out _ _ ?_ (fun hNew => ?_)
    · exact hHeld.later bc hR1 hR2 hR3
    clear hK K hHeld
    have hHeld := hNew
    clear hNew
    try simp only [Act.put, List.setIfInBounds_toArray, List.set_cons_zero, List.set_cons_succ]
    refine wpAnyH_ready (rs := [19]) (by kernel_rfl) (by simp) ?_
    refine AllReadyH.cons rfl (fun K hK => ?_) (AllReadyH.nil)
    refine wp_appT (.tmp 77) (.tmp 80) rfl wb.heap.size _ ([] ++ T.take (r + 1)) (by simp [Act.eval]) own1 ⟨bt, ot + r * 3, none⟩ (pt - r) (T.length - r) (T.drop r) e4.out (by simp [Act.eval]) (tabA_drop hHeld.1 r) (by rw [← e4.out, List.nil_append, ← e3.out]; omega) (by simp at hzc ⊢; omega) ?_
    intro v2 wd own2 grow2
    have bd := app_below (L := [] ++ T.take (r + 1)) own1 grow2 (by simp at hzc ⊢; omega)
    obtain ⟨a2, n2, c2', rfl, hn2, t2⟩ := owns_n own2
    clear grow2
    refine hK.out _ _ ?_ (fun hNew => ?_)
    · exact hHeld.later bd hR1 hR2 hR3
    clear hK K hHeld
    have hHeld := hNew
    clear hNew
    try simp only [Act.put, List.setIfInBounds_toArray, List.set_cons_zero, List.set_cons_succ]
    refine wpAnyH_ready (rs := [20]) (by kernel_rfl) (by simp) ?_
    refine AllReadyH.cons rfl (fun K hK => ?_) (AllReadyH.nil)
    go_simp
    refine (tokn_is q3 _ hn2.out t2 (by rw [List.length_append, ← e4.out, List.nil_append, ← e3.out]; omega)).mono ?_
    rintro e we ⟨rfl, be⟩
    go_wp2_with fail
    refine hK.out _ _ ?_ (fun hNew => ?_)
    · exact hHeld.below be
    clear hK K hHeld
    have hHeld := hNew
    clear hNew
    try simp only [Act.put, List.setIfInBounds_toArray, List.set_cons_zero, List.set_cons_succ]
    refine takeH (i := 21) (v := ?_) rfl rfl (by kernel_rfl) (by kernel_rfl) (by kernel_rfl) (fun _ _ _ h => h) (by rfl) ?_ (by assumption) ?_
    rotate_left 1
    · intro w hSw
      (try dsimp only at hSw)
      go_simp
      try with_reducible rfl
    try simp only [List.setIfInBounds_toArray, List.set_cons_zero, List.set_cons_succ]
    refine takeH (i := 22) (v := ?_) rfl rfl (by kernel_rfl) (by kernel_rfl) (by kernel_rfl) (fun _ _ _ h => h) (by rfl) ?_ (by assumption) ?_
    rotate_left 1
    · intro w hSw
      (try dsimp only at hSw)
      go_simp
      try with_reducible rfl
    try simp only [List.setIfInBounds_toArray, List.set_cons_zero, List.set_cons_succ]
    refine takeH (i := 23) (v := ?_) rfl rfl (by kernel_rfl) (by kernel_rfl) (by kernel_rfl) (fun _ _ _ h => h) (by rfl) ?_ (by assumption) ?_
    rotate_left 1
    · intro w hSw
      (try dsimp only at hSw)
      go_simp
      try with_reducible rfl
    try simp only [List.setIfInBounds_toArray, List.set_cons_zero, List.set_cons_succ]
    refine wpAnyH_done (by kernel_rfl) ?_ _
    have HZ := Lib.hid hHeld.2.2
    clear hHeld
    go_wp2_with fail
    go_ret
    exact ⟨rfl, HZ.out⟩
end Go.Proofs.Ytnabcffpficgcaa
