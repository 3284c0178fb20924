/-
  The exact laws of TableLess, TablePut, TableDrop: the walks.
-/
import Derived.Test.YtmbcfdlemapppaaExJ
namespace Go.Proofs.Ytmbcfdlemapppaa
open Go.RowKit
set_option linter.unusedSimpArgs false
set_option linter.unusedVariables false

theorem Owns.tabA {w : World} {R n cap : Nat} {a : Option Addr} {T : List E} (h : Owns w R (.slice a n cap) T) : TabA w a T := by
  obtain ⟨a', c', e, t⟩ := Owns.tab h
  simp at e
  rw [e.1]; exact t
/-- the block of an own slice lies between two numbers -/
def Btw (v : Value) (A B : Nat) : Prop := ∀ k, v.ownBlock = some k → A ≤ k ∧ k < B
theorem Owns.btw {w : World} {R : Nat} {v : Value} {T : List E} (h : Owns w R v T) : Btw v R w.heap.size := fun k hk => h.lt k hk
theorem Btw.apart {v u : Value} {A B C D : Nat} (hv : Btw v A B) (hu : Btw u C D) (h : B ≤ C ∨ D ≤ A) : v.ownBlock = none ∨ v.ownBlock ≠ u.ownBlock := by
  cases e : v.ownBlock with
  | none => exact .inl rfl
  | some k =>
    refine .inr fun e' => ?_
    have h1 := hv k e
    have h2 := hu k e'.symm
    omega
theorem tput_len (T : List E) (e : E) : (tputM T e).1.length ≤ 12 := by
  unfold tputM
  split
  · rename_i h
    split
    · assumption
    · exact (tab_good h.1).2
  · simp
theorem tdrop_len (T : List E) (f b : Int) : (tdropM T f b).1.length ≤ 12 := by
  unfold tdropM
  split
  · rename_i h
    exact Nat.le_trans (drop_len T f b) (tab_good h.1).2
  · simp
theorem tless_len (T : List E) : (tlessM T).length ≤ 12 := by
  unfold tlessM
  split
  · rename_i h
    have := outK_len T T.length
    rw [outK_all] at this
    exact Nat.le_trans this (tab_good h).2
  · simp

set_option maxRecDepth 100000 in
set_option maxHeartbeats 4000000 in
theorem exactTabLess_walk (a : Option Addr) (cap : Nat) (T : List E) (w : World) (hT : TabA w a T) (hn : T.length ≤ 9223372036854775807) :
    Calls Try.prog 8 #[.slice a T.length cap] w fun e w' => e = .returned (.bool true) ∧ Below w.heap.size w w' := by
  have HT := Lib.hid hT
  have hlw := tless_len T
  clear hT
  by_cases hl : T.length ≤ 1048576
  · have HB0 := Lib.hid (Below.refl w.heap.size w)
    go_enter Try.func8, Try.ntmps8
    go_wp2_with fail
    refine (sz1_is (szI_yes hl) _ _ _ hn).mono ?_
    rintro e w0 ⟨rfl, rfl⟩
    go_wp2_with fail
    refine (toS_any a cap T _ (HT.out.below HB0.out) hl).mono ?_
    rintro e w1 ⟨v, rfl, o, b⟩
    obtain ⟨aq, pq, rfl, tq, nq⟩ := Owns.tabN o
    have Bq := Lib.hid (Owns.btw o)
    have Oq_1 := Lib.hid o
    have Nq := Lib.hid nq
    have HB1 := Lib.hid (HB0.out.trans (b.mono HB0.out.size))
    have hs1 := Lib.hid b.size
    clear b o tq nq
    go_wp2_with fail
    refine (sless_any aq pq T _ (Owns.tabA Oq_1.out) Nq.out (by omega)).mono ?_
    rintro e w2 ⟨v, rfl, o, b⟩
    obtain ⟨aw, pw, rfl, tw, nw⟩ := Owns.tabN o
    have Bw := Lib.hid (Owns.btw o)
    have Ow_2 := Lib.hid o
    have Nw := Lib.hid nw
    have HB2 := Lib.hid (HB1.out.trans (b.mono HB1.out.size))
    have hs2 := Lib.hid b.size
    have Oq_2 := Lib.hid (owns_later Oq_1.out b)
    clear b o tw nw
    generalize hU : tlessM T = U at *
    have HU := Lib.hid hU
    clear hU
    go_wp2_with fail
    refine (toS_any a cap T _ (HT.out.below HB2.out) hl).mono ?_
    rintro e w3 ⟨v, rfl, o, b⟩
    obtain ⟨ax, px, rfl, tx, nx⟩ := Owns.tabN o
    have Bx := Lib.hid (Owns.btw o)
    have Ox_3 := Lib.hid o
    have Nx := Lib.hid nx
    have HB3 := Lib.hid (HB2.out.trans (b.mono HB2.out.size))
    have hs3 := Lib.hid b.size
    have Ow_3 := Lib.hid (owns_later Ow_2.out b)
    clear b o tx nx
    go_wp2_with fail
    refine (HU.out ▸ tless_any ax px T _ (Owns.tabA Ox_3.out) (by omega)).mono ?_
    rintro e w4 ⟨v, rfl, o, b⟩
    obtain ⟨ag, pg, rfl, tg, ng⟩ := Owns.tabN o
    have Bg := Lib.hid (Owns.btw o)
    have Og_4 := Lib.hid o
    have Ng := Lib.hid ng
    have HB4 := Lib.hid (HB3.out.trans (b.mono HB3.out.size))
    have hs4 := Lib.hid b.size
    have Ow_4 := Lib.hid (owns_later Ow_3.out b)
    have Ox_4 := Lib.hid (owns_later Ox_3.out b)
    clear b o tg ng
    go_wp2_with fail
    refine (eqS_same ag aw pg pw (U) _ (Owns.tabA Og_4.out) (Owns.tabA Ow_4.out) (by omega)).mono ?_
    rintro e w5 ⟨rfl, b⟩
    have HB5 := Lib.hid (HB4.out.trans (b.mono HB4.out.size))
    have hs5 := Lib.hid b.size
    have Ow_5 := Lib.hid (owns_later Ow_4.out b)
    have Ox_5 := Lib.hid (owns_later Ox_4.out b)
    have Og_5 := Lib.hid (owns_later Og_4.out b)
    clear b
    go_wp2_with fail
    refine (toS_any a cap T _ (HT.out.below HB5.out) hl).mono ?_
    rintro e w6 ⟨v, rfl, o, b⟩
    obtain ⟨ay, py, rfl, ty, ny⟩ := Owns.tabN o
    have By := Lib.hid (Owns.btw o)
    have Oy_6 := Lib.hid o
    have Ny := Lib.hid ny
    have HB6 := Lib.hid (HB5.out.trans (b.mono HB5.out.size))
    have hs6 := Lib.hid b.size
    have Ow_6 := Lib.hid (owns_later Ow_5.out b)
    have Ox_6 := Lib.hid (owns_later Ox_5.out b)
    have Og_6 := Lib.hid (owns_later Og_5.out b)
    clear b o ty ny
    go_wp2_with fail
    refine (eqS_same ax ay px py (T) _ (Owns.tabA Ox_6.out) (Owns.tabA Oy_6.out) (by omega)).mono ?_
    rintro e w7 ⟨rfl, b⟩
    have HB7 := Lib.hid (HB6.out.trans (b.mono HB6.out.size))
    have hs7 := Lib.hid b.size
    have Ow_7 := Lib.hid (owns_later Ow_6.out b)
    have Ox_7 := Lib.hid (owns_later Ox_6.out b)
    have Og_7 := Lib.hid (owns_later Og_6.out b)
    have Oy_7 := Lib.hid (owns_later Oy_6.out b)
    clear b
    go_wp2_with fail
    refine (mark_any _ (T) _ _ Ox_7.out (by omega)).mono ?_
    rintro e w8 ⟨rfl, o, g⟩
    have HB8 := Lib.hid (HB7.out.grown g HB7.out.size (fun k e => Nat.le_trans HB2.out.size (Bx.out k e).1))
    have hs8 := Lib.hid g.size
    have Ow_8 := Lib.hid (World.ownsRow.kept Ow_7.out g (Btw.apart Bw.out Bx.out (by have := hs1.out; have := hs2.out; have := hs3.out; have := hs4.out; have := hs5.out; have := hs6.out; have := hs7.out; omega)))
    have Og_8 := Lib.hid (World.ownsRow.kept Og_7.out g (Btw.apart Bg.out Bx.out (by have := hs1.out; have := hs2.out; have := hs3.out; have := hs4.out; have := hs5.out; have := hs6.out; have := hs7.out; omega)))
    have Ox_8 := Lib.hid o
    clear o g
    go_wp2_with fail
    refine (eqS_same ag aw pg pw (U) _ (Owns.tabA Og_8.out) (Owns.tabA Ow_8.out) (by omega)).mono ?_
    rintro e w9 ⟨rfl, b⟩
    have HB9 := Lib.hid (HB8.out.trans (b.mono HB8.out.size))
    have hs9 := Lib.hid b.size
    have Ow_9 := Lib.hid (owns_later Ow_8.out b)
    have Ox_9 := Lib.hid (owns_later Ox_8.out b)
    have Og_9 := Lib.hid (owns_later Og_8.out b)
    clear b
    go_wp2_with fail
    refine (mark_any _ (U) _ _ Og_9.out (by omega)).mono ?_
    rintro e w10 ⟨rfl, o, g⟩
    have HB10 := Lib.hid (HB9.out.grown g HB9.out.size (fun k e => Nat.le_trans HB3.out.size (Bg.out k e).1))
    have hs10 := Lib.hid g.size
    have Ow_10 := Lib.hid (World.ownsRow.kept Ow_9.out g (Btw.apart Bw.out Bg.out (by have := hs1.out; have := hs2.out; have := hs3.out; have := hs4.out; have := hs5.out; have := hs6.out; have := hs7.out; have := hs8.out; have := hs9.out; omega)))
    have Ox_10 := Lib.hid (World.ownsRow.kept Ox_9.out g (Btw.apart Bx.out Bg.out (by have := hs1.out; have := hs2.out; have := hs3.out; have := hs4.out; have := hs5.out; have := hs6.out; have := hs7.out; have := hs8.out; have := hs9.out; omega)))
    have Og_10 := Lib.hid o
    clear o g
    go_wp2_with fail
    refine (held_any _ _ _ _ (Owns.tabA Og_10.out) (by omega)).mono ?_
    rintro e w0 ⟨rfl, rfl⟩
    go_wp2_with fail
    refine (toS_any a cap T _ (HT.out.below HB10.out) hl).mono ?_
    rintro e w11 ⟨v, rfl, o, b⟩
    obtain ⟨az, pz, rfl, tz, nz⟩ := Owns.tabN o
    have Bz := Lib.hid (Owns.btw o)
    have Oz_11 := Lib.hid o
    have Nz := Lib.hid nz
    have HB11 := Lib.hid (HB10.out.trans (b.mono HB10.out.size))
    have hs11 := Lib.hid b.size
    have Ow_11 := Lib.hid (owns_later Ow_10.out b)
    have Og_11 := Lib.hid (owns_later Og_10.out b)
    clear b o tz nz
    go_wp2_with fail
    refine (HU.out ▸ tless_any az pz T _ (Owns.tabA Oz_11.out) (by omega)).mono ?_
    rintro e w12 ⟨v, rfl, o, b⟩
    obtain ⟨ah, ph, rfl, th, nh⟩ := Owns.tabN o
    have Bh := Lib.hid (Owns.btw o)
    have Oh_12 := Lib.hid o
    have Nh := Lib.hid nh
    have HB12 := Lib.hid (HB11.out.trans (b.mono HB11.out.size))
    have hs12 := Lib.hid b.size
    have Ow_12 := Lib.hid (owns_later Ow_11.out b)
    have Og_12 := Lib.hid (owns_later Og_11.out b)
    have Oz_12 := Lib.hid (owns_later Oz_11.out b)
    clear b o th nh
    go_wp2_with fail
    refine (eqS_same ah aw ph pw (U) _ (Owns.tabA Oh_12.out) (Owns.tabA Ow_12.out) (by omega)).mono ?_
    rintro e w13 ⟨rfl, b⟩
    have HB13 := Lib.hid (HB12.out.trans (b.mono HB12.out.size))
    have hs13 := Lib.hid b.size
    have Ow_13 := Lib.hid (owns_later Ow_12.out b)
    have Og_13 := Lib.hid (owns_later Og_12.out b)
    have Oh_13 := Lib.hid (owns_later Oh_12.out b)
    clear b
    go_wp2_with fail
    refine (held_any _ _ _ _ (Owns.tabA Og_13.out) (by omega)).mono ?_
    rintro e w0 ⟨rfl, rfl⟩
    go_wp2_with fail
    go_ret
    exact ⟨rfl, HB13.out⟩
  · go_enter Try.func8, Try.ntmps8
    go_wp2_with fail
    refine (sz1_is (szI_no hl) _ _ _ hn).mono ?_
    rintro e w0 ⟨rfl, rfl⟩
    go_wp2_with fail
    go_ret
    exact ⟨rfl, Below.refl _ _⟩

set_option maxRecDepth 100000 in
set_option maxHeartbeats 8000000 in
theorem exactTabPut_walk (a : Option Addr) (cap : Nat) (T : List E) (f b v : Int) (w : World) (hT : TabA w a T) (hn : T.length ≤ 9223372036854775807) :
    Calls Try.prog 4 #[.slice a T.length cap, .agg #[.int .i64 f, .int .i64 b, .int .i64 v]] w fun e w' => e = .returned (.bool true) ∧ Below w.heap.size w w' := by
  have HT := Lib.hid (hT.alloc (.cells #[.int .i64 f, .int .i64 b, .int .i64 v] 32))
  have HA := Lib.hid (At3.new w f b v 32)
  have HBX := Lib.hid ((Below.refl w.heap.size w).alloc (Nat.le_refl _) (.cells #[.int .i64 f, .int .i64 b, .int .i64 v] 32))
  have hXs : (w.alloc (.cells #[.int .i64 f, .int .i64 b, .int .i64 v] 32)).heap.size = w.heap.size + 1 := by simp
  have hlw := tput_len T (f, b, v)
  clear hT
  by_cases hl : T.length ≤ 1048576
  · have HB0 := Lib.hid (Below.refl (w.alloc (.cells #[.int .i64 f, .int .i64 b, .int .i64 v] 32)).heap.size (w.alloc (.cells #[.int .i64 f, .int .i64 b, .int .i64 v] 32)))
    go_enter Try.func4, Try.ntmps4
    go_wp2_with fail
    refine (sz1_is (szI_yes hl) _ _ _ hn).mono ?_
    rintro e w0 ⟨rfl, rfl⟩
    go_wp2_with fail
    generalize (w.alloc (.cells #[.int .i64 f, .int .i64 b, .int .i64 v] 32)) = wX at *
    focus
      refine wp_region_held_drew (S := fun W => W.cell? ⟨w.heap.size, 0, none⟩ = some (.int .i64 f) ∧ W.cell? ⟨w.heap.size, 1, none⟩ = some (.int .i64 b) ∧ W.cell? ⟨w.heap.size, 2, none⟩ = some (.int .i64 v) ∧ Below wX.heap.size wX W) (by kernel_rfl) ?_ (fun hHeld => ?_)
      · exact ⟨cell_later HB0.out.drew HA.out.1, cell_later HB0.out.drew HA.out.2.1, cell_later HB0.out.drew HA.out.2.2, HB0.out.drew⟩
      refine takeH (i := 0) (v := ?_) rfl rfl (by kernel_rfl) (by kernel_rfl) (by kernel_rfl) (fun _ _ _ h => h) (by rfl) ?_ (by assumption) ?_
      rotate_left 1
      · intro w hSw
        (try dsimp only at hSw)
        go_simp
        try with_reducible rfl
      try simp only [List.setIfInBounds_toArray, List.set_cons_zero, List.set_cons_succ]
      refine takeH (i := 2) (v := ?_) rfl rfl (by kernel_rfl) (by kernel_rfl) (by kernel_rfl) (fun _ _ _ h => h) (by rfl) ?_ (by assumption) ?_
      rotate_left 1
      · intro w hSw
        (try dsimp only at hSw)
        go_simp
        try with_reducible rfl
      try simp only [List.setIfInBounds_toArray, List.set_cons_zero, List.set_cons_succ]
      refine wpAnyH_ready (rs := [1]) (by kernel_rfl) (by simp) ?_
      refine AllReadyH.cons rfl (fun K hK => ?_) (AllReadyH.nil)
      go_simp
      refine (toS_any a cap T _ (HT.out.below hHeld.2.2.2) hl).mono ?_
      rintro e wA ⟨vA, rfl, oA, bA⟩
      obtain ⟨aA, pA, rfl, tA, nA⟩ := Owns.tabN oA
      go_wp2_with fail
      refine hK.out _ _ ?_ (fun hNew => ?_)
      · exact ⟨cell_later bA hHeld.1, cell_later bA hHeld.2.1, cell_later bA hHeld.2.2.1, hHeld.2.2.2.trans (bA.mono hHeld.2.2.2.size)⟩
      clear hK K hHeld
      have hHeld := hNew
      clear hNew
      try simp only [Act.put, List.setIfInBounds_toArray, List.set_cons_zero, List.set_cons_succ]
      refine wpAnyH_ready (rs := [3]) (by kernel_rfl) (by simp) ?_
      refine AllReadyH.cons rfl (fun K hK => ?_) (AllReadyH.nil)
      go_simp
      refine (toE_any f b v _).mono ?_
      rintro e wE ⟨rfl, bE⟩
      have tB := tA.below bE
      go_wp2_with fail
      refine hK.out _ _ ?_ (fun hNew => ?_)
      · exact ⟨cell_later bE hHeld.1, cell_later bE hHeld.2.1, cell_later bE hHeld.2.2.1, hHeld.2.2.2.trans (bE.mono hHeld.2.2.2.size)⟩
      clear hK K hHeld
      have hHeld := hNew
      clear hNew
      try simp only [Act.put, List.setIfInBounds_toArray, List.set_cons_zero, List.set_cons_succ]
      refine wpAnyH_ready (rs := [4]) (by kernel_rfl) (by simp) ?_
      refine AllReadyH.cons rfl (fun K hK => ?_) (AllReadyH.nil)
      go_simp
      refine (sput_any aA pA T f b v _ tB (by omega)).mono ?_
      rintro e wP ⟨vP, rfl, oP, bP⟩
      have oQ := owns_mono oP (show wX.heap.size ≤ _ from hHeld.2.2.2.size)
      go_wp2_with fail
      refine hK.out _ _ ?_ (fun hNew => ?_)
      · exact ⟨cell_later bP hHeld.1, cell_later bP hHeld.2.1, cell_later bP hHeld.2.2.1, hHeld.2.2.2.trans (bP.mono hHeld.2.2.2.size)⟩
      clear hK K hHeld
      have hHeld := hNew
      clear hNew
      try simp only [Act.put, List.setIfInBounds_toArray, List.set_cons_zero, List.set_cons_succ]
      refine takeH (i := 5) (v := ?_) rfl rfl (by kernel_rfl) (by kernel_rfl) (by kernel_rfl) (fun _ _ _ h => h) (by rfl) ?_ (by assumption) ?_
      rotate_left 1
      · intro w hSw
        (try dsimp only at hSw)
        go_simp
        try with_reducible rfl
      try simp only [List.setIfInBounds_toArray, List.set_cons_zero, List.set_cons_succ]
      refine takeH (i := 6) (v := ?_) rfl rfl (by kernel_rfl) (by kernel_rfl) (by kernel_rfl) (fun _ _ _ h => h) (by rfl) ?_ (by assumption) ?_
      rotate_left 1
      · intro w hSw
        (try dsimp only at hSw)
        go_simp
        try with_reducible rfl
      try simp only [List.setIfInBounds_toArray, List.set_cons_zero, List.set_cons_succ]
      refine takeH (i := 7) (v := ?_) rfl rfl (by kernel_rfl) (by kernel_rfl) (by kernel_rfl) (fun _ _ _ h => h) (by rfl) ?_ (by assumption) ?_
      rotate_left 1
      · intro w hSw
        (try dsimp only at hSw)
        go_simp
        try with_reducible rfl
      try simp only [List.setIfInBounds_toArray, List.set_cons_zero, List.set_cons_succ]
      refine takeH (i := 8) (v := ?_) rfl rfl (by kernel_rfl) (by kernel_rfl) (by kernel_rfl) (fun _ _ _ h => h) (by rfl) ?_ (by assumption) ?_
      rotate_left 1
      · intro w hSw
        (try dsimp only at hSw)
        go_simp
        try with_reducible rfl
      try simp only [List.setIfInBounds_toArray, List.set_cons_zero, List.set_cons_succ]
      refine takeH (i := 9) (v := ?_) rfl rfl (by kernel_rfl) (by kernel_rfl) (by kernel_rfl) (fun _ _ _ h => h) (by rfl) ?_ (by assumption) ?_
      rotate_left 1
      · intro w hSw
        (try dsimp only at hSw)
        go_simp
        try with_reducible rfl
      try simp only [List.setIfInBounds_toArray, List.set_cons_zero, List.set_cons_succ]
      refine wpAnyH_done (by kernel_rfl) ?_ _
      rotate_left
    all_goals
      have b := hHeld.2.2.2
      clear oP oA tA tB nA bA bE bP
      obtain ⟨aw, pw, rfl, tw, nw⟩ := Owns.tabN oQ
      have Bw := Lib.hid (Owns.btw oQ)
      have Ow_1 := Lib.hid oQ
      have HB1 := Lib.hid b
      have hs1 := Lib.hid b.size
      clear b oQ tw nw hHeld
      have HM := Lib.hid (show tputM T (f, b, v) = ((tputM T (f, b, v)).1, (tputM T (f, b, v)).2) from rfl)
      generalize (tputM T (f, b, v)).1 = U at *
      generalize (tputM T (f, b, v)).2 = ok at *
      go_wp2_with fail
      refine (toS_any a cap T _ (HT.out.below HB1.out) hl).mono ?_
      rintro e w2 ⟨v, rfl, o, b⟩
      obtain ⟨ax, px, rfl, tx, nx⟩ := Owns.tabN o
      have Bx := Lib.hid (Owns.btw o)
      have Ox_2 := Lib.hid o
      have Nx := Lib.hid nx
      have HB2 := Lib.hid (HB1.out.trans (b.mono HB1.out.size))
      have hs2 := Lib.hid b.size
      have Ow_2 := Lib.hid (owns_later Ow_1.out b)
      clear b o tx nx
      have c0 := cell_later HB2.out HA.out.1
      have c1 := cell_later HB2.out HA.out.2.1
      have c2 := cell_later HB2.out HA.out.2.2
      go_wp2_with fail
      refine (toE_any f b v _).mono ?_
      rintro e w3 ⟨rfl, b⟩
      have HB3 := Lib.hid (HB2.out.trans (b.mono HB2.out.size))
      have hs3 := Lib.hid b.size
      have Ow_3 := Lib.hid (owns_later Ow_2.out b)
      have Ox_3 := Lib.hid (owns_later Ox_2.out b)
      clear b
      clear c0 c1 c2
      go_wp2_with fail
      refine (HM.out ▸ tput_any ax px T f b v _ (Owns.tabA Ox_3.out) (by omega)).mono ?_
      rintro e w4 ⟨v, rfl, o, b⟩
      obtain ⟨ag, pg, rfl, tg, ng⟩ := Owns.tabN o
      have Bg := Lib.hid (Owns.btw o)
      have Og_4 := Lib.hid o
      have Ng := Lib.hid ng
      have HB4 := Lib.hid (HB3.out.trans (b.mono HB3.out.size))
      have hs4 := Lib.hid b.size
      have Ow_4 := Lib.hid (owns_later Ow_3.out b)
      have Ox_4 := Lib.hid (owns_later Ox_3.out b)
      clear b o tg ng
      go_wp2_with fail
      refine (eqS_same ag aw pg pw (U) _ (Owns.tabA Og_4.out) (Owns.tabA Ow_4.out) (by omega)).mono ?_
      rintro e w5 ⟨rfl, b⟩
      have HB5 := Lib.hid (HB4.out.trans (b.mono HB4.out.size))
      have hs5 := Lib.hid b.size
      have Ow_5 := Lib.hid (owns_later Ow_4.out b)
      have Ox_5 := Lib.hid (owns_later Ox_4.out b)
      have Og_5 := Lib.hid (owns_later Og_4.out b)
      clear b
      go_wp2_with fail
      refine (toS_any a cap T _ (HT.out.below HB5.out) hl).mono ?_
      rintro e w6 ⟨v, rfl, o, b⟩
      obtain ⟨ay, py, rfl, ty, ny⟩ := Owns.tabN o
      have By := Lib.hid (Owns.btw o)
      have Oy_6 := Lib.hid o
      have Ny := Lib.hid ny
      have HB6 := Lib.hid (HB5.out.trans (b.mono HB5.out.size))
      have hs6 := Lib.hid b.size
      have Ow_6 := Lib.hid (owns_later Ow_5.out b)
      have Ox_6 := Lib.hid (owns_later Ox_5.out b)
      have Og_6 := Lib.hid (owns_later Og_5.out b)
      clear b o ty ny
      go_wp2_with fail
      refine (eqS_same ax ay px py (T) _ (Owns.tabA Ox_6.out) (Owns.tabA Oy_6.out) (by omega)).mono ?_
      rintro e w7 ⟨rfl, b⟩
      have HB7 := Lib.hid (HB6.out.trans (b.mono HB6.out.size))
      have hs7 := Lib.hid b.size
      have Ow_7 := Lib.hid (owns_later Ow_6.out b)
      have Ox_7 := Lib.hid (owns_later Ox_6.out b)
      have Og_7 := Lib.hid (owns_later Og_6.out b)
      have Oy_7 := Lib.hid (owns_later Oy_6.out b)
      clear b
      go_wp2_with fail
      refine (mark_any _ (T) _ _ Ox_7.out (by omega)).mono ?_
      rintro e w8 ⟨rfl, o, g⟩
      have HB8 := Lib.hid (HB7.out.grown g HB7.out.size (fun k e => Nat.le_trans HB1.out.size (Bx.out k e).1))
      have hs8 := Lib.hid g.size
      have Ow_8 := Lib.hid (World.ownsRow.kept Ow_7.out g (Btw.apart Bw.out Bx.out (by have := hs1.out; have := hs2.out; have := hs3.out; have := hs4.out; have := hs5.out; have := hs6.out; have := hs7.out; omega)))
      have Og_8 := Lib.hid (World.ownsRow.kept Og_7.out g (Btw.apart Bg.out Bx.out (by have := hs1.out; have := hs2.out; have := hs3.out; have := hs4.out; have := hs5.out; have := hs6.out; have := hs7.out; omega)))
      have Ox_8 := Lib.hid o
      clear o g
      go_wp2_with fail
      refine (eqS_same ag aw pg pw (U) _ (Owns.tabA Og_8.out) (Owns.tabA Ow_8.out) (by omega)).mono ?_
      rintro e w9 ⟨rfl, b⟩
      have HB9 := Lib.hid (HB8.out.trans (b.mono HB8.out.size))
      have hs9 := Lib.hid b.size
      have Ow_9 := Lib.hid (owns_later Ow_8.out b)
      have Ox_9 := Lib.hid (owns_later Ox_8.out b)
      have Og_9 := Lib.hid (owns_later Og_8.out b)
      clear b
      go_wp2_with fail
      refine (mark_any _ (U) _ _ Og_9.out (by omega)).mono ?_
      rintro e w10 ⟨rfl, o, g⟩
      have HB10 := Lib.hid (HB9.out.grown g HB9.out.size (fun k e => Nat.le_trans HB3.out.size (Bg.out k e).1))
      have hs10 := Lib.hid g.size
      have Ow_10 := Lib.hid (World.ownsRow.kept Ow_9.out g (Btw.apart Bw.out Bg.out (by have := hs1.out; have := hs2.out; have := hs3.out; have := hs4.out; have := hs5.out; have := hs6.out; have := hs7.out; have := hs8.out; have := hs9.out; omega)))
      have Ox_10 := Lib.hid (World.ownsRow.kept Ox_9.out g (Btw.apart Bx.out Bg.out (by have := hs1.out; have := hs2.out; have := hs3.out; have := hs4.out; have := hs5.out; have := hs6.out; have := hs7.out; have := hs8.out; have := hs9.out; omega)))
      have Og_10 := Lib.hid o
      clear o g
      go_wp2_with fail
      refine (held_any _ _ _ _ (Owns.tabA Og_10.out) (by omega)).mono ?_
      rintro e w0 ⟨rfl, rfl⟩
      go_wp2_with fail
      focus
        refine wp_region_held_drew (S := fun W => W.cell? ⟨w.heap.size, 0, none⟩ = some (.int .i64 f) ∧ W.cell? ⟨w.heap.size, 1, none⟩ = some (.int .i64 b) ∧ W.cell? ⟨w.heap.size, 2, none⟩ = some (.int .i64 v) ∧ Below wX.heap.size wX W ∧ Below w10.heap.size w10 W) (by kernel_rfl) ?_ (fun hHeld => ?_)
        · exact ⟨cell_later HB10.out.drew HA.out.1, cell_later HB10.out.drew HA.out.2.1, cell_later HB10.out.drew HA.out.2.2, HB10.out.drew, (Below.refl _ _).drew⟩
        refine takeH (i := 0) (v := ?_) rfl rfl (by kernel_rfl) (by kernel_rfl) (by kernel_rfl) (fun _ _ _ h => h) (by rfl) ?_ (by assumption) ?_
        rotate_left 1
        · intro w hSw
          (try dsimp only at hSw)
          go_simp
          try with_reducible rfl
        try simp only [List.setIfInBounds_toArray, List.set_cons_zero, List.set_cons_succ]
        refine takeH (i := 2) (v := ?_) rfl rfl (by kernel_rfl) (by kernel_rfl) (by kernel_rfl) (fun _ _ _ h => h) (by rfl) ?_ (by assumption) ?_
        rotate_left 1
        · intro w hSw
          (try dsimp only at hSw)
          go_simp
          try with_reducible rfl
        try simp only [List.setIfInBounds_toArray, List.set_cons_zero, List.set_cons_succ]
        refine wpAnyH_ready (rs := [1]) (by kernel_rfl) (by simp) ?_
        refine AllReadyH.cons rfl (fun K hK => ?_) (AllReadyH.nil)
        go_simp
        refine (toS_any a cap T _ (HT.out.below hHeld.2.2.2.1) hl).mono ?_
        rintro e wA ⟨vA, rfl, oA, bA⟩
        obtain ⟨aA, pA, rfl, tA, nA⟩ := Owns.tabN oA
        go_wp2_with fail
        refine hK.out _ _ ?_ (fun hNew => ?_)
        · exact ⟨cell_later bA hHeld.1, cell_later bA hHeld.2.1, cell_later bA hHeld.2.2.1, hHeld.2.2.2.1.trans (bA.mono hHeld.2.2.2.1.size), hHeld.2.2.2.2.trans (bA.mono hHeld.2.2.2.2.size)⟩
        clear hK K hHeld
        have hHeld := hNew
        clear hNew
        try simp only [Act.put, List.setIfInBounds_toArray, List.set_cons_zero, List.set_cons_succ]
        refine wpAnyH_ready (rs := [3]) (by kernel_rfl) (by simp) ?_
        refine AllReadyH.cons rfl (fun K hK => ?_) (AllReadyH.nil)
        go_simp
        refine (toE_any f b v _).mono ?_
        rintro e wE ⟨rfl, bE⟩
        have tB := tA.below bE
        go_wp2_with fail
        refine hK.out _ _ ?_ (fun hNew => ?_)
        · exact ⟨cell_later bE hHeld.1, cell_later bE hHeld.2.1, cell_later bE hHeld.2.2.1, hHeld.2.2.2.1.trans (bE.mono hHeld.2.2.2.1.size), hHeld.2.2.2.2.trans (bE.mono hHeld.2.2.2.2.size)⟩
        clear hK K hHeld
        have hHeld := hNew
        clear hNew
        try simp only [Act.put, List.setIfInBounds_toArray, List.set_cons_zero, List.set_cons_succ]
        refine wpAnyH_ready (rs := [4]) (by kernel_rfl) (by simp) ?_
        refine AllReadyH.cons rfl (fun K hK => ?_) (AllReadyH.nil)
        go_simp
        refine (HM.out ▸ tput_any aA pA T f b v _ tB (by omega)).mono ?_
        rintro e wP ⟨vP, rfl, oP, bP⟩
        have oQ := owns_mono oP (show wX.heap.size ≤ _ from hHeld.2.2.2.1.size)
        go_wp2_with fail
        refine hK.out _ _ ?_ (fun hNew => ?_)
        · exact ⟨cell_later bP hHeld.1, cell_later bP hHeld.2.1, cell_later bP hHeld.2.2.1, hHeld.2.2.2.1.trans (bP.mono hHeld.2.2.2.1.size), hHeld.2.2.2.2.trans (bP.mono hHeld.2.2.2.2.size)⟩
        clear hK K hHeld
        have hHeld := hNew
        clear hNew
        try simp only [Act.put, List.setIfInBounds_toArray, List.set_cons_zero, List.set_cons_succ]
        refine takeH (i := 5) (v := ?_) rfl rfl (by kernel_rfl) (by kernel_rfl) (by kernel_rfl) (fun _ _ _ h => h) (by rfl) ?_ (by assumption) ?_
        rotate_left 1
        · intro w hSw
          (try dsimp only at hSw)
          go_simp
          try with_reducible rfl
        try simp only [List.setIfInBounds_toArray, List.set_cons_zero, List.set_cons_succ]
        refine takeH (i := 6) (v := ?_) rfl rfl (by kernel_rfl) (by kernel_rfl) (by kernel_rfl) (fun _ _ _ h => h) (by rfl) ?_ (by assumption) ?_
        rotate_left 1
        · intro w hSw
          (try dsimp only at hSw)
          go_simp
          try with_reducible rfl
        try simp only [List.setIfInBounds_toArray, List.set_cons_zero, List.set_cons_succ]
        refine takeH (i := 7) (v := ?_) rfl rfl (by kernel_rfl) (by kernel_rfl) (by kernel_rfl) (fun _ _ _ h => h) (by rfl) ?_ (by assumption) ?_
        rotate_left 1
        · intro w hSw
          (try dsimp only at hSw)
          go_simp
          try with_reducible rfl
        try simp only [List.setIfInBounds_toArray, List.set_cons_zero, List.set_cons_succ]
        refine takeH (i := 8) (v := ?_) rfl rfl (by kernel_rfl) (by kernel_rfl) (by kernel_rfl) (fun _ _ _ h => h) (by rfl) ?_ (by assumption) ?_
        rotate_left 1
        · intro w hSw
          (try dsimp only at hSw)
          go_simp
          try with_reducible rfl
        try simp only [List.setIfInBounds_toArray, List.set_cons_zero, List.set_cons_succ]
        refine takeH (i := 9) (v := ?_) rfl rfl (by kernel_rfl) (by kernel_rfl) (by kernel_rfl) (fun _ _ _ h => h) (by rfl) ?_ (by assumption) ?_
        rotate_left 1
        · intro w hSw
          (try dsimp only at hSw)
          go_simp
          try with_reducible rfl
        try simp only [List.setIfInBounds_toArray, List.set_cons_zero, List.set_cons_succ]
        refine wpAnyH_done (by kernel_rfl) ?_ _
        rotate_left
      all_goals
        have b := hHeld.2.2.2.2
        have HB11 := Lib.hid (hHeld.2.2.2.1)
        have hs11 := Lib.hid b.size
        clear oP oA tA tB nA bA bE bP
        obtain ⟨ah, ph, rfl, th, nh⟩ := Owns.tabN oQ
        have Oh_11 := Lib.hid oQ
        have Ow_11 := Lib.hid (owns_later Ow_10.out b)
        have Og_11 := Lib.hid (owns_later Og_10.out b)
        clear b oQ th nh hHeld
        go_wp2_with fail
        refine (eqS_same ah aw ph pw (U) _ (Owns.tabA Oh_11.out) (Owns.tabA Ow_11.out) (by omega)).mono ?_
        rintro e w12 ⟨rfl, b⟩
        have HB12 := Lib.hid (HB11.out.trans (b.mono HB11.out.size))
        have hs12 := Lib.hid b.size
        have Ow_12 := Lib.hid (owns_later Ow_11.out b)
        have Og_12 := Lib.hid (owns_later Og_11.out b)
        have Oh_12 := Lib.hid (owns_later Oh_11.out b)
        clear b
        go_wp2_with fail
        refine (held_any _ _ _ _ (Owns.tabA Og_12.out) (by omega)).mono ?_
        rintro e w0 ⟨rfl, rfl⟩
        go_wp2_with fail
        go_ret
        exact ⟨rfl, HBX.out.trans (HB12.out.mono (by omega))⟩
  · go_enter Try.func4, Try.ntmps4
    go_wp2_with fail
    refine (sz1_is (szI_no hl) _ _ _ hn).mono ?_
    rintro e w0 ⟨rfl, rfl⟩
    go_wp2_with fail
    go_ret
    exact ⟨rfl, HBX.out⟩

set_option maxRecDepth 100000 in
set_option maxHeartbeats 8000000 in
theorem exactTabDrop_walk (a : Option Addr) (cap : Nat) (T : List E) (f b : Int) (w : World) (hT : TabA w a T) (hn : T.length ≤ 9223372036854775807) :
    Calls Try.prog 5 #[.slice a T.length cap, .agg #[.int .i64 f, .int .i64 b]] w fun e w' => e = .returned (.bool true) ∧ Below w.heap.size w w' := by
  have HT := Lib.hid (hT.alloc (.cells #[.int .i64 f, .int .i64 b] 30))
  have HA := Lib.hid (At.new w f b 30)
  have HBX := Lib.hid ((Below.refl w.heap.size w).alloc (Nat.le_refl _) (.cells #[.int .i64 f, .int .i64 b] 30))
  have hXs : (w.alloc (.cells #[.int .i64 f, .int .i64 b] 30)).heap.size = w.heap.size + 1 := by simp
  have hlw := tdrop_len T f b
  clear hT
  by_cases hl : T.length ≤ 1048576
  · have HB0 := Lib.hid (Below.refl (w.alloc (.cells #[.int .i64 f, .int .i64 b] 30)).heap.size (w.alloc (.cells #[.int .i64 f, .int .i64 b] 30)))
    go_enter Try.func5, Try.ntmps5
    go_wp2_with fail
    refine (sz1_is (szI_yes hl) _ _ _ hn).mono ?_
    rintro e w0 ⟨rfl, rfl⟩
    go_wp2_with fail
    generalize (w.alloc (.cells #[.int .i64 f, .int .i64 b] 30)) = wX at *
    focus
      refine wp_region_held_drew (S := fun W => W.cell? ⟨w.heap.size, 0, none⟩ = some (.int .i64 f) ∧ W.cell? ⟨w.heap.size, 1, none⟩ = some (.int .i64 b) ∧ Below wX.heap.size wX W) (by kernel_rfl) ?_ (fun hHeld => ?_)
      · exact ⟨cell_later HB0.out.drew HA.out.1, cell_later HB0.out.drew HA.out.2.1, HB0.out.drew⟩
      refine takeH (i := 0) (v := ?_) rfl rfl (by kernel_rfl) (by kernel_rfl) (by kernel_rfl) (fun _ _ _ h => h) (by rfl) ?_ (by assumption) ?_
      rotate_left 1
      · intro w hSw
        (try dsimp only at hSw)
        go_simp
        try with_reducible rfl
      try simp only [List.setIfInBounds_toArray, List.set_cons_zero, List.set_cons_succ]
      refine takeH (i := 2) (v := ?_) rfl rfl (by kernel_rfl) (by kernel_rfl) (by kernel_rfl) (fun _ _ _ h => h) (by rfl) ?_ (by assumption) ?_
      rotate_left 1
      · intro w hSw
        (try dsimp only at hSw)
        go_simp
        try with_reducible rfl
      try simp only [List.setIfInBounds_toArray, List.set_cons_zero, List.set_cons_succ]
      refine wpAnyH_ready (rs := [1]) (by kernel_rfl) (by simp) ?_
      refine AllReadyH.cons rfl (fun K hK => ?_) (AllReadyH.nil)
      go_simp
      refine (toS_any a cap T _ (HT.out.below hHeld.2.2) hl).mono ?_
      rintro e wA ⟨vA, rfl, oA, bA⟩
      obtain ⟨aA, pA, rfl, tA, nA⟩ := Owns.tabN oA
      go_wp2_with fail
      refine hK.out _ _ ?_ (fun hNew => ?_)
      · exact ⟨cell_later bA hHeld.1, cell_later bA hHeld.2.1, hHeld.2.2.trans (bA.mono hHeld.2.2.size)⟩
      clear hK K hHeld
      have hHeld := hNew
      clear hNew
      try simp only [Act.put, List.setIfInBounds_toArray, List.set_cons_zero, List.set_cons_succ]
      refine wpAnyH_ready (rs := [3]) (by kernel_rfl) (by simp) ?_
      refine AllReadyH.cons rfl (fun K hK => ?_) (AllReadyH.nil)
      go_simp
      refine (to_any f b _).mono ?_
      rintro e wE ⟨rfl, bE⟩
      have tB := tA.below bE
      go_wp2_with fail
      refine hK.out _ _ ?_ (fun hNew => ?_)
      · exact ⟨cell_later bE hHeld.1, cell_later bE hHeld.2.1, hHeld.2.2.trans (bE.mono hHeld.2.2.size)⟩
      clear hK K hHeld
      have hHeld := hNew
      clear hNew
      try simp only [Act.put, List.setIfInBounds_toArray, List.set_cons_zero, List.set_cons_succ]
      refine wpAnyH_ready (rs := [4]) (by kernel_rfl) (by simp) ?_
      refine AllReadyH.cons rfl (fun K hK => ?_) (AllReadyH.nil)
      go_simp
      refine (sdrop_any aA pA T f b _ tB (by omega)).mono ?_
      rintro e wP ⟨vP, rfl, oP, bP⟩
      have oQ := owns_mono oP (show wX.heap.size ≤ _ from hHeld.2.2.size)
      go_wp2_with fail
      refine hK.out _ _ ?_ (fun hNew => ?_)
      · exact ⟨cell_later bP hHeld.1, cell_later bP hHeld.2.1, hHeld.2.2.trans (bP.mono hHeld.2.2.size)⟩
      clear hK K hHeld
      have hHeld := hNew
      clear hNew
      try simp only [Act.put, List.setIfInBounds_toArray, List.set_cons_zero, List.set_cons_succ]
      refine takeH (i := 5) (v := ?_) rfl rfl (by kernel_rfl) (by kernel_rfl) (by kernel_rfl) (fun _ _ _ h => h) (by rfl) ?_ (by assumption) ?_
      rotate_left 1
      · intro w hSw
        (try dsimp only at hSw)
        go_simp
        try with_reducible rfl
      try simp only [List.setIfInBounds_toArray, List.set_cons_zero, List.set_cons_succ]
      refine takeH (i := 6) (v := ?_) rfl rfl (by kernel_rfl) (by kernel_rfl) (by kernel_rfl) (fun _ _ _ h => h) (by rfl) ?_ (by assumption) ?_
      rotate_left 1
      · intro w hSw
        (try dsimp only at hSw)
        go_simp
        try with_reducible rfl
      try simp only [List.setIfInBounds_toArray, List.set_cons_zero, List.set_cons_succ]
      refine takeH (i := 7) (v := ?_) rfl rfl (by kernel_rfl) (by kernel_rfl) (by kernel_rfl) (fun _ _ _ h => h) (by rfl) ?_ (by assumption) ?_
      rotate_left 1
      · intro w hSw
        (try dsimp only at hSw)
        go_simp
        try with_reducible rfl
      try simp only [List.setIfInBounds_toArray, List.set_cons_zero, List.set_cons_succ]
      refine takeH (i := 8) (v := ?_) rfl rfl (by kernel_rfl) (by kernel_rfl) (by kernel_rfl) (fun _ _ _ h => h) (by rfl) ?_ (by assumption) ?_
      rotate_left 1
      · intro w hSw
        (try dsimp only at hSw)
        go_simp
        try with_reducible rfl
      try simp only [List.setIfInBounds_toArray, List.set_cons_zero, List.set_cons_succ]
      refine takeH (i := 9) (v := ?_) rfl rfl (by kernel_rfl) (by kernel_rfl) (by kernel_rfl) (fun _ _ _ h => h) (by rfl) ?_ (by assumption) ?_
      rotate_left 1
      · intro w hSw
        (try dsimp only at hSw)
        go_simp
        try with_reducible rfl
      try simp only [List.setIfInBounds_toArray, List.set_cons_zero, List.set_cons_succ]
      refine wpAnyH_done (by kernel_rfl) ?_ _
      rotate_left
    all_goals
      have b := hHeld.2.2
      clear oP oA tA tB nA bA bE bP
      obtain ⟨aw, pw, rfl, tw, nw⟩ := Owns.tabN oQ
      have Bw := Lib.hid (Owns.btw oQ)
      have Ow_1 := Lib.hid oQ
      have HB1 := Lib.hid b
      have hs1 := Lib.hid b.size
      clear b oQ tw nw hHeld
      have HM := Lib.hid (show tdropM T f b = ((tdropM T f b).1, (tdropM T f b).2) from rfl)
      generalize (tdropM T f b).1 = U at *
      generalize (tdropM T f b).2 = ok at *
      go_wp2_with fail
      refine (toS_any a cap T _ (HT.out.below HB1.out) hl).mono ?_
      rintro e w2 ⟨v, rfl, o, b⟩
      obtain ⟨ax, px, rfl, tx, nx⟩ := Owns.tabN o
      have Bx := Lib.hid (Owns.btw o)
      have Ox_2 := Lib.hid o
      have Nx := Lib.hid nx
      have HB2 := Lib.hid (HB1.out.trans (b.mono HB1.out.size))
      have hs2 := Lib.hid b.size
      have Ow_2 := Lib.hid (owns_later Ow_1.out b)
      clear b o tx nx
      have c0 := cell_later HB2.out HA.out.1
      have c1 := cell_later HB2.out HA.out.2.1
      go_wp2_with fail
      refine (to_any f b _).mono ?_
      rintro e w3 ⟨rfl, b⟩
      have HB3 := Lib.hid (HB2.out.trans (b.mono HB2.out.size))
      have hs3 := Lib.hid b.size
      have Ow_3 := Lib.hid (owns_later Ow_2.out b)
      have Ox_3 := Lib.hid (owns_later Ox_2.out b)
      clear b
      clear c0 c1
      go_wp2_with fail
      refine (HM.out ▸ tdrop_any ax px T f b _ (Owns.tabA Ox_3.out) (by omega)).mono ?_
      rintro e w4 ⟨v, rfl, o, b⟩
      obtain ⟨ag, pg, rfl, tg, ng⟩ := Owns.tabN o
      have Bg := Lib.hid (Owns.btw o)
      have Og_4 := Lib.hid o
      have Ng := Lib.hid ng
      have HB4 := Lib.hid (HB3.out.trans (b.mono HB3.out.size))
      have hs4 := Lib.hid b.size
      have Ow_4 := Lib.hid (owns_later Ow_3.out b)
      have Ox_4 := Lib.hid (owns_later Ox_3.out b)
      clear b o tg ng
      go_wp2_with fail
      refine (eqS_same ag aw pg pw (U) _ (Owns.tabA Og_4.out) (Owns.tabA Ow_4.out) (by omega)).mono ?_
      rintro e w5 ⟨rfl, b⟩
      have HB5 := Lib.hid (HB4.out.trans (b.mono HB4.out.size))
      have hs5 := Lib.hid b.size
      have Ow_5 := Lib.hid (owns_later Ow_4.out b)
      have Ox_5 := Lib.hid (owns_later Ox_4.out b)
      have Og_5 := Lib.hid (owns_later Og_4.out b)
      clear b
      go_wp2_with fail
      refine (toS_any a cap T _ (HT.out.below HB5.out) hl).mono ?_
      rintro e w6 ⟨v, rfl, o, b⟩
      obtain ⟨ay, py, rfl, ty, ny⟩ := Owns.tabN o
      have By := Lib.hid (Owns.btw o)
      have Oy_6 := Lib.hid o
      have Ny := Lib.hid ny
      have HB6 := Lib.hid (HB5.out.trans (b.mono HB5.out.size))
      have hs6 := Lib.hid b.size
      have Ow_6 := Lib.hid (owns_later Ow_5.out b)
      have Ox_6 := Lib.hid (owns_later Ox_5.out b)
      have Og_6 := Lib.hid (owns_later Og_5.out b)
      clear b o ty ny
      go_wp2_with fail
      refine (eqS_same ax ay px py (T) _ (Owns.tabA Ox_6.out) (Owns.tabA Oy_6.out) (by omega)).mono ?_
      rintro e w7 ⟨rfl, b⟩
      have HB7 := Lib.hid (HB6.out.trans (b.mono HB6.out.size))
      have hs7 := Lib.hid b.size
      have Ow_7 := Lib.hid (owns_later Ow_6.out b)
      have Ox_7 := Lib.hid (owns_later Ox_6.out b)
      have Og_7 := Lib.hid (owns_later Og_6.out b)
      have Oy_7 := Lib.hid (owns_later Oy_6.out b)
      clear b
      go_wp2_with fail
      refine (mark_any _ (T) _ _ Ox_7.out (by omega)).mono ?_
      rintro e w8 ⟨rfl, o, g⟩
      have HB8 := Lib.hid (HB7.out.grown g HB7.out.size (fun k e => Nat.le_trans HB1.out.size (Bx.out k e).1))
      have hs8 := Lib.hid g.size
      have Ow_8 := Lib.hid (World.ownsRow.kept Ow_7.out g (Btw.apart Bw.out Bx.out (by have := hs1.out; have := hs2.out; have := hs3.out; have := hs4.out; have := hs5.out; have := hs6.out; have := hs7.out; omega)))
      have Og_8 := Lib.hid (World.ownsRow.kept Og_7.out g (Btw.apart Bg.out Bx.out (by have := hs1.out; have := hs2.out; have := hs3.out; have := hs4.out; have := hs5.out; have := hs6.out; have := hs7.out; omega)))
      have Ox_8 := Lib.hid o
      clear o g
      go_wp2_with fail
      refine (eqS_same ag aw pg pw (U) _ (Owns.tabA Og_8.out) (Owns.tabA Ow_8.out) (by omega)).mono ?_
      rintro e w9 ⟨rfl, b⟩
      have HB9 := Lib.hid (HB8.out.trans (b.mono HB8.out.size))
      have hs9 := Lib.hid b.size
      have Ow_9 := Lib.hid (owns_later Ow_8.out b)
      have Ox_9 := Lib.hid (owns_later Ox_8.out b)
      have Og_9 := Lib.hid (owns_later Og_8.out b)
      clear b
      go_wp2_with fail
      refine (mark_any _ (U) _ _ Og_9.out (by omega)).mono ?_
      rintro e w10 ⟨rfl, o, g⟩
      have HB10 := Lib.hid (HB9.out.grown g HB9.out.size (fun k e => Nat.le_trans HB3.out.size (Bg.out k e).1))
      have hs10 := Lib.hid g.size
      have Ow_10 := Lib.hid (World.ownsRow.kept Ow_9.out g (Btw.apart Bw.out Bg.out (by have := hs1.out; have := hs2.out; have := hs3.out; have := hs4.out; have := hs5.out; have := hs6.out; have := hs7.out; have := hs8.out; have := hs9.out; omega)))
      have Ox_10 := Lib.hid (World.ownsRow.kept Ox_9.out g (Btw.apart Bx.out Bg.out (by have := hs1.out; have := hs2.out; have := hs3.out; have := hs4.out; have := hs5.out; have := hs6.out; have := hs7.out; have := hs8.out; have := hs9.out; omega)))
      have Og_10 := Lib.hid o
      clear o g
      go_wp2_with fail
      refine (held_any _ _ _ _ (Owns.tabA Og_10.out) (by omega)).mono ?_
      rintro e w0 ⟨rfl, rfl⟩
      go_wp2_with fail
      focus
        refine wp_region_held_drew (S := fun W => W.cell? ⟨w.heap.size, 0, none⟩ = some (.int .i64 f) ∧ W.cell? ⟨w.heap.size, 1, none⟩ = some (.int .i64 b) ∧ Below wX.heap.size wX W ∧ Below w10.heap.size w10 W) (by kernel_rfl) ?_ (fun hHeld => ?_)
        · exact ⟨cell_later HB10.out.drew HA.out.1, cell_later HB10.out.drew HA.out.2.1, HB10.out.drew, (Below.refl _ _).drew⟩
        refine takeH (i := 0) (v := ?_) rfl rfl (by kernel_rfl) (by kernel_rfl) (by kernel_rfl) (fun _ _ _ h => h) (by rfl) ?_ (by assumption) ?_
        rotate_left 1
        · intro w hSw
          (try dsimp only at hSw)
          go_simp
          try with_reducible rfl
        try simp only [List.setIfInBounds_toArray, List.set_cons_zero, List.set_cons_succ]
        refine takeH (i := 2) (v := ?_) rfl rfl (by kernel_rfl) (by kernel_rfl) (by kernel_rfl) (fun _ _ _ h => h) (by rfl) ?_ (by assumption) ?_
        rotate_left 1
        · intro w hSw
          (try dsimp only at hSw)
          go_simp
          try with_reducible rfl
        try simp only [List.setIfInBounds_toArray, List.set_cons_zero, List.set_cons_succ]
        refine wpAnyH_ready (rs := [1]) (by kernel_rfl) (by simp) ?_
        refine AllReadyH.cons rfl (fun K hK => ?_) (AllReadyH.nil)
        go_simp
        refine (toS_any a cap T _ (HT.out.below hHeld.2.2.1) hl).mono ?_
        rintro e wA ⟨vA, rfl, oA, bA⟩
        obtain ⟨aA, pA, rfl, tA, nA⟩ := Owns.tabN oA
        go_wp2_with fail
        refine hK.out _ _ ?_ (fun hNew => ?_)
        · exact ⟨cell_later bA hHeld.1, cell_later bA hHeld.2.1, hHeld.2.2.1.trans (bA.mono hHeld.2.2.1.size), hHeld.2.2.2.trans (bA.mono hHeld.2.2.2.size)⟩
        clear hK K hHeld
        have hHeld := hNew
        clear hNew
        try simp only [Act.put, List.setIfInBounds_toArray, List.set_cons_zero, List.set_cons_succ]
        refine wpAnyH_ready (rs := [3]) (by kernel_rfl) (by simp) ?_
        refine AllReadyH.cons rfl (fun K hK => ?_) (AllReadyH.nil)
        go_simp
        refine (to_any f b _).mono ?_
        rintro e wE ⟨rfl, bE⟩
        have tB := tA.below bE
        go_wp2_with fail
        refine hK.out _ _ ?_ (fun hNew => ?_)
        · exact ⟨cell_later bE hHeld.1, cell_later bE hHeld.2.1, hHeld.2.2.1.trans (bE.mono hHeld.2.2.1.size), hHeld.2.2.2.trans (bE.mono hHeld.2.2.2.size)⟩
        clear hK K hHeld
        have hHeld := hNew
        clear hNew
        try simp only [Act.put, List.setIfInBounds_toArray, List.set_cons_zero, List.set_cons_succ]
        refine wpAnyH_ready (rs := [4]) (by kernel_rfl) (by simp) ?_
        refine AllReadyH.cons rfl (fun K hK => ?_) (AllReadyH.nil)
        go_simp
        refine (HM.out ▸ tdrop_any aA pA T f b _ tB (by omega)).mono ?_
        rintro e wP ⟨vP, rfl, oP, bP⟩
        have oQ := owns_mono oP (show wX.heap.size ≤ _ from hHeld.2.2.1.size)
        go_wp2_with fail
        refine hK.out _ _ ?_ (fun hNew => ?_)
        · exact ⟨cell_later bP hHeld.1, cell_later bP hHeld.2.1, hHeld.2.2.1.trans (bP.mono hHeld.2.2.1.size), hHeld.2.2.2.trans (bP.mono hHeld.2.2.2.size)⟩
        clear hK K hHeld
        have hHeld := hNew
        clear hNew
        try simp only [Act.put, List.setIfInBounds_toArray, List.set_cons_zero, List.set_cons_succ]
        refine takeH (i := 5) (v := ?_) rfl rfl (by kernel_rfl) (by kernel_rfl) (by kernel_rfl) (fun _ _ _ h => h) (by rfl) ?_ (by assumption) ?_
        rotate_left 1
        · intro w hSw
          (try dsimp only at hSw)
          go_simp
          try with_reducible rfl
        try simp only [List.setIfInBounds_toArray, List.set_cons_zero, List.set_cons_succ]
        refine takeH (i := 6) (v := ?_) rfl rfl (by kernel_rfl) (by kernel_rfl) (by kernel_rfl) (fun _ _ _ h => h) (by rfl) ?_ (by assumption) ?_
        rotate_left 1
        · intro w hSw
          (try dsimp only at hSw)
          go_simp
          try with_reducible rfl
        try simp only [List.setIfInBounds_toArray, List.set_cons_zero, List.set_cons_succ]
        refine takeH (i := 7) (v := ?_) rfl rfl (by kernel_rfl) (by kernel_rfl) (by kernel_rfl) (fun _ _ _ h => h) (by rfl) ?_ (by assumption) ?_
        rotate_left 1
        · intro w hSw
          (try dsimp only at hSw)
          go_simp
          try with_reducible rfl
        try simp only [List.setIfInBounds_toArray, List.set_cons_zero, List.set_cons_succ]
        refine takeH (i := 8) (v := ?_) rfl rfl (by kernel_rfl) (by kernel_rfl) (by kernel_rfl) (fun _ _ _ h => h) (by rfl) ?_ (by assumption) ?_
        rotate_left 1
        · intro w hSw
          (try dsimp only at hSw)
          go_simp
          try with_reducible rfl
        try simp only [List.setIfInBounds_toArray, List.set_cons_zero, List.set_cons_succ]
        refine takeH (i := 9) (v := ?_) rfl rfl (by kernel_rfl) (by kernel_rfl) (by kernel_rfl) (fun _ _ _ h => h) (by rfl) ?_ (by assumption) ?_
        rotate_left 1
        · intro w hSw
          (try dsimp only at hSw)
          go_simp
          try with_reducible rfl
        try simp only [List.setIfInBounds_toArray, List.set_cons_zero, List.set_cons_succ]
        refine wpAnyH_done (by kernel_rfl) ?_ _
        rotate_left
      all_goals
        have b := hHeld.2.2.2
        have HB11 := Lib.hid (hHeld.2.2.1)
        have hs11 := Lib.hid b.size
        clear oP oA tA tB nA bA bE bP
        obtain ⟨ah, ph, rfl, th, nh⟩ := Owns.tabN oQ
        have Oh_11 := Lib.hid oQ
        have Ow_11 := Lib.hid (owns_later Ow_10.out b)
        have Og_11 := Lib.hid (owns_later Og_10.out b)
        clear b oQ th nh hHeld
        go_wp2_with fail
        refine (eqS_same ah aw ph pw (U) _ (Owns.tabA Oh_11.out) (Owns.tabA Ow_11.out) (by omega)).mono ?_
        rintro e w12 ⟨rfl, b⟩
        have HB12 := Lib.hid (HB11.out.trans (b.mono HB11.out.size))
        have hs12 := Lib.hid b.size
        have Ow_12 := Lib.hid (owns_later Ow_11.out b)
        have Og_12 := Lib.hid (owns_later Og_11.out b)
        have Oh_12 := Lib.hid (owns_later Oh_11.out b)
        clear b
        go_wp2_with fail
        refine (held_any _ _ _ _ (Owns.tabA Og_12.out) (by omega)).mono ?_
        rintro e w0 ⟨rfl, rfl⟩
        go_wp2_with fail
        go_ret
        exact ⟨rfl, HBX.out.trans (HB12.out.mono (by omega))⟩
  · go_enter Try.func5, Try.ntmps5
    go_wp2_with fail
    refine (sz1_is (szI_no hl) _ _ _ hn).mono ?_
    rintro e w0 ⟨rfl, rfl⟩
    go_wp2_with fail
    go_ret
    exact ⟨rfl, HBX.out⟩

end Go.Proofs.Ytmbcfdlemapppaa
