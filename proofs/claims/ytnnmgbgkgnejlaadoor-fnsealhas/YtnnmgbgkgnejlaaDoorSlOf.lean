/-
  The seal of a house of a route, by the document's model: l13Of.
-/
import Derived.Test.YtnnmgbgkgnejlaaDoorSlAt
import Derived.Test.YtnnmgbgkgnejlaaDoorSlSpec
import Derived.Test.YtnnmgbgkgnejlaaDoorRtSpec
import Derived.Deep.CutBlock
namespace Go.Proofs.YtnnmgbgkgnejlaaDoor
open Go.RowKit
set_option linter.unusedSimpArgs false
set_option linter.unusedVariables false

theorem OwnSl.aty {w : World} {R g : Nat} {v : SV} (h : OwnSl w R (.slice (some ⟨g, 0, none⟩) 1 1) [v]) : AtY w g v.cells := fun j u hj => by
  have hj5 : j < 5 := by have := (List.getElem?_eq_some_iff.1 hj).1; rwa [sl_five] at this
  have c := World.ownsRow.cells h (g := g) rfl j u (by have := cellsSl_at (L := [v]) (k := 0) (v := v) (j := j) rfl hj5; rw [Nat.zero_mul, Nat.zero_add] at this; rw [this]; exact hj)
  rw [Addr.add_mid, Nat.zero_add] at c
  exact ⟨c, World.ownsRow.frozenAt h j⟩
theorem ownsl_zero (w : World) (R : Nat) (hR : R ≤ w.heap.size) : OwnSl (w.alloc (.cells #[.int .i64 0, .int .i64 0, .int .i64 0, .int .i64 0, .slice none 0 0] 34)) R (.slice (some ⟨w.heap.size, 0, none⟩) 1 1) [⟨0, 0, 0, 0, none, 0, []⟩] := World.ownsRow_lit w #[.int .i64 0, .int .i64 0, .int .i64 0, .int .i64 0, .slice none 0 0] 1 hR (by unfold maxLen; omega) rfl
/-- what lies behind the region -/
structure CutS (W : World) (g : Nat) (h t f b : Int) (a : Option Addr) (c : Nat) (P : List Int) (wx : World) : Prop where
  bel : Below W.heap.size W wx
  low : W.heap.size ≤ g
  own : OwnI wx W.heap.size (.slice a P.length c) P
  box : AtY wx g [.int .i64 h, .int .i64 t, .int .i64 f, .int .i64 b, .slice a P.length c]
  sep : (Value.slice a P.length c).ownBlock = none ∨ (Value.slice a P.length c).ownBlock ≠ some g
theorem CutS.mk' {W W1 wx : World} {g : Nat} {h t f b : Int} {a : Option Addr} {c : Nat} {P : List Int} {z : SV} (bel : Below W.heap.size W W1) (hz : OwnSl W1 W.heap.size (.slice (some ⟨g, 0, none⟩) 1 1) [z]) (ho : OwnI W1 W.heap.size (.slice a P.length c) P)
    (aa : AtY wx g [.int .i64 h, .int .i64 t, .int .i64 f, .int .i64 b, .slice a P.length c]) (gg : W1.grownBy wx (some g)) : CutS W g h t f b a c P wx := by
  have hl := (World.ownsRow.lt hz g rfl).1
  have hsep := slrows_apart ho hz (by decide)
  exact ⟨bel.grown gg bel.size (fun k hk => by cases hk; exact hl), hl, World.ownsRow.kept ho gg hsep, aa, hsep⟩
theorem drop_get {P : List Int} {i : Nat} {h : Int} (hi : P[i]? = some h) : P.drop i = h :: P.drop (i + 1) := by
  have hl := (List.getElem?_eq_some_iff.1 hi)
  rw [← hl.2]; exact (List.drop_eq_getElem_cons hl.1)
set_option maxRecDepth 100000 in
set_option maxHeartbeats 4000000 in
theorem sof13_is (f b : Int) (a : Option Addr) (c : Nat) (P : List Int) (l : Int) (d : Option Addr) (e : Nat) (M : List Int) (tt : Int) (i : Nat) (hi : i < P.length) (w : World) (hm : IntA w a P ∧ P.length ≤ c ∧ P.length ≤ 2000000) :
    Calls Tryd.prog 60 #[.agg #[.int .i64 f, .int .i64 b, .slice a P.length c, .int .i64 l, .slice d M.length e], .int .i64 tt, .int .i64 (i : Int)] w fun en w' => ∃ (a' : Option Addr) (c' : Nat), en = .returned (slV ⟨P.getD i 0, whomAt tt P i, f, b, a', c', P.drop i⟩) ∧ OwnI w' w.heap.size (.slice a' (P.drop i).length c') (P.drop i) ∧ Below w.heap.size w w' := by
  obtain ⟨hI, hc, hPl⟩ := hm
  obtain ⟨pb, poff, h, rfl, hh, c0⟩ := hI.at hi
  obtain ⟨W, hW⟩ : ∃ W, (w.alloc (.cells #[.int .i64 f, .int .i64 b, .slice (some ⟨pb, poff, none⟩) P.length c, .int .i64 l, .slice d M.length e] 27)).alloc (.cells #[.int .i64 0, .int .i64 0, .int .i64 0, .int .i64 0, .slice none 0 0] 34) = W := ⟨_, rfl⟩
  have hb : Below w.heap.size w W := by rw [← hW]; exact ((Below.refl _ _).alloc (Nat.le_refl _) _).alloc (by simp) _
  have BX := Lib.hid (show AtY W w.heap.size [.int .i64 f, .int .i64 b, .slice (some ⟨pb, poff, none⟩) P.length c, .int .i64 l, .slice d M.length e] by rw [← hW]; exact (AtY.new5 w _ _ _ _ _ _).below ((Below.refl _ _).alloc (Nat.le_refl _) _))
  have RS := Lib.hid (show AtY W (w.heap.size + 1) [.int .i64 0, .int .i64 0, .int .i64 0, .int .i64 0, .slice none 0 0] by
    rw [← hW]
    have h1 := AtY.new5 (w.alloc (.cells #[.int .i64 f, .int .i64 b, .slice (some ⟨pb, poff, none⟩) P.length c, .int .i64 l, .slice d M.length e] 27)) (.int .i64 0) (.int .i64 0) (.int .i64 0) (.int .i64 0) (.slice none 0 0) 34
    simp only [World.size_alloc] at h1
    exact h1)
  have hWs : w.heap.size + 1 < W.heap.size := by rw [← hW]; simp
  have HB := Lib.hid hb
  have HI := Lib.hid (hI.below hb)
  have cP := cell_later hb c0
  have HH := Lib.hid hh
  have HPD := Lib.hid (drop_get hh)
  have hg0 : P.getD i 0 = h := by simp [List.getD, hh]
  obtain ⟨q0, q1, q2, q3, q4⟩ := BX.out.five
  have i0 : (0 : Int) ≤ (i : Int) := by omega
  have i1 : (i : Int) < (P.length : Int) := by omega
  have i2 : (i : Int) ≤ (P.length : Int) := by omega
  have i3 : (i : Int) ≤ (c : Int) := by omega
  have hic : P.length - i ≤ c - i := by omega
  have HDR := Lib.hid (IntA.drop HI.out i)
  clear hI hb c0 hh
  go_enter Tryd.func60, Tryd.ntmps60
  go_upto_region 1 with fail
  have HQ := Lib.hid (And.intro (And.intro q0 (And.intro q1 (And.intro q2 (And.intro q3 q4)))) cP)
  clear q0 q1 q2 q3 q4 cP
  go_cut [7] from 8 (fun y wx => ∃ (gz : Nat) (a' : Option Addr) (c' : Nat) (D : List Int), y = .pointer (some ⟨gz, 0, none⟩) ∧ Hid (P.drop i = D) ∧ Hid (CutS W gz h tt f b a' c' D wx))
  case first =>
    refine wp_region_held_drew (S := fun Wx => ((Wx.cell? ⟨w.heap.size, 0, none⟩ = some (.int .i64 f) ∧ Wx.cell? ⟨w.heap.size, 1, none⟩ = some (.int .i64 b) ∧ Wx.cell? ⟨w.heap.size, 2, none⟩ = some (.slice (some ⟨pb, poff, none⟩) P.length c) ∧ Wx.cell? ⟨w.heap.size, 3, none⟩ = some (.int .i64 l) ∧ Wx.cell? ⟨w.heap.size, 4, none⟩ = some (.slice d M.length e)) ∧ Wx.cell? ⟨pb, poff + i, none⟩ = some (.int .i64 h)) ∧ Hid (Below W.heap.size W Wx)) (by kernel_rfl) ?_ (fun hHeld => ?_)
    · exact ⟨HQ.out, Lib.hid (Below.refl _ W).drew⟩
    refine takeH (i := 0) (v := ?_) rfl rfl (by kernel_rfl) (by kernel_rfl) (by kernel_rfl) (fun _ _ _ h => h) (by rfl) ?_ (by assumption) ?_
    rotate_left 1
    · intro w hSw
      (try dsimp only at hSw)
      go_simp
      try with_reducible rfl
    try simp only [List.setIfInBounds_toArray, List.set_cons_zero, List.set_cons_succ]
    refine takeH (i := 1) (v := ?_) rfl rfl (by kernel_rfl) (by kernel_rfl) (by kernel_rfl) (fun _ _ _ h => h) (by rfl) ?_ (by assumption) ?_
    rotate_left 1
    · intro w hSw
      (try dsimp only at hSw)
      go_simp
      try with_reducible rfl
    try simp only [List.setIfInBounds_toArray, List.set_cons_zero, List.set_cons_succ]
    refine takeH (i := 2) (v := ?_) rfl rfl (by kernel_rfl) (by kernel_rfl) (by kernel_rfl) (fun _ _ _ h => h) (by rfl) ?_ (by assumption) ?_
    rotate_left 1
    · intro w hSw
      (try dsimp only at hSw)
      go_simp
      try with_reducible rfl
    try simp only [List.setIfInBounds_toArray, List.set_cons_zero, List.set_cons_succ]
    refine takeH (i := 3) (v := ?_) rfl rfl (by kernel_rfl) (by kernel_rfl) (by kernel_rfl) (fun _ _ _ h => h) (by rfl) ?_ (by assumption) ?_
    rotate_left 1
    · intro w hSw
      (try dsimp only at hSw)
      go_simp
      try with_reducible rfl
    try simp only [List.setIfInBounds_toArray, List.set_cons_zero, List.set_cons_succ]
    refine takeH (i := 4) (v := ?_) rfl rfl (by kernel_rfl) (by kernel_rfl) (by kernel_rfl) (fun _ _ _ h => h) (by rfl) ?_ (by assumption) ?_
    rotate_left 1
    · intro w hSw
      (try dsimp only at hSw)
      go_simp
      try with_reducible rfl
    try simp only [List.setIfInBounds_toArray, List.set_cons_zero, List.set_cons_succ]
    refine takeH (i := 5) (v := ?_) rfl rfl (by kernel_rfl) (by kernel_rfl) (by kernel_rfl) (fun _ _ _ h => h) (by rfl) ?_ (by assumption) ?_
    rotate_left 1
    · intro w hSw
      (try dsimp only at hSw)
      go_simp
      try with_reducible rfl
    try simp only [List.setIfInBounds_toArray, List.set_cons_zero, List.set_cons_succ]
    refine takeH (i := 6) (v := ?_) rfl rfl (by kernel_rfl) (by kernel_rfl) (by kernel_rfl) (fun _ _ _ h => h) (by rfl) ?_ (by assumption) ?_
    rotate_left 1
    · intro w hSw
      (try dsimp only at hSw)
      go_simp
      try with_reducible rfl
    try simp only [List.setIfInBounds_toArray, List.set_cons_zero, List.set_cons_succ]
    refine takeH (i := 7) (v := ?_) rfl rfl (by kernel_rfl) (by kernel_rfl) (by kernel_rfl) (fun _ _ _ h => h) (by rfl) ?_ (by assumption) ?_
    rotate_left 1
    · intro w hSw
      (try dsimp only at hSw)
      go_simp
      try with_reducible rfl
    try simp only [List.setIfInBounds_toArray, List.set_cons_zero, List.set_cons_succ]
    refine takeH (i := 9) (v := ?_) rfl rfl (by kernel_rfl) (by kernel_rfl) (by kernel_rfl) (fun _ _ _ h => h) (by rfl) ?_ (by assumption) ?_
    rotate_left 1
    · intro w hSw
      (try dsimp only at hSw)
      go_simp
      try with_reducible rfl
    try simp only [List.setIfInBounds_toArray, List.set_cons_zero, List.set_cons_succ]
    refine takeH (i := 10) (v := ?_) rfl rfl (by kernel_rfl) (by kernel_rfl) (by kernel_rfl) (fun _ _ _ h => h) (by rfl) ?_ (by assumption) ?_
    rotate_left 1
    · intro w hSw
      (try dsimp only at hSw)
      go_simp
      try with_reducible rfl
    try simp only [List.setIfInBounds_toArray, List.set_cons_zero, List.set_cons_succ]
    refine takeH (i := 11) (v := ?_) rfl rfl (by kernel_rfl) (by kernel_rfl) (by kernel_rfl) (fun _ _ _ h => h) (by rfl) ?_ (by assumption) ?_
    rotate_left 1
    · intro w hSw
      (try dsimp only at hSw)
      go_simp
      try with_reducible rfl
    try simp only [List.setIfInBounds_toArray, List.set_cons_zero, List.set_cons_succ]
    refine takeH (i := 12) (v := ?_) rfl rfl (by kernel_rfl) (by kernel_rfl) (by kernel_rfl) (fun _ _ _ h => h) (by rfl) ?_ (by assumption) ?_
    rotate_left 1
    · intro w hSw
      (try dsimp only at hSw)
      go_simp
      try with_reducible rfl
    try simp only [List.setIfInBounds_toArray, List.set_cons_zero, List.set_cons_succ]
    refine wpAnyH_ready (rs := [8, 15]) (by kernel_rfl) (by simp) ?_
    refine AllReadyH.cons rfl (fun K hK => ?_) (AllReadyH.cons rfl (fun K hK => ?_) (AllReadyH.nil))
    · generalize W.drew = wz0 at *
      go_simp
      have be1 : Below wz0.heap.size wz0 (wz0.alloc (.cells #[] 3)) := (Below.refl _ _).alloc (Nat.le_refl _) _
      have E1 := Lib.hid (owni_empty wz0 W.heap.size hHeld.2.out.size)
      generalize wz0.alloc (.cells #[] 3) = wz1 at *
      refine hK.out _ _ ?_ (fun hNew => ?_)
      · exact ⟨⟨⟨cell_later (be1) hHeld.1.1.1, cell_later (be1) hHeld.1.1.2.1, cell_later (be1) hHeld.1.1.2.2.1, cell_later (be1) hHeld.1.1.2.2.2.1, cell_later (be1) hHeld.1.1.2.2.2.2⟩, cell_later (be1) hHeld.1.2⟩, Lib.hid (next hHeld.2.out be1)⟩
      clear hK K hHeld
      have hHeld := hNew
      clear hNew
      try simp only [Act.put, List.setIfInBounds_toArray, List.set_cons_zero, List.set_cons_succ]
      refine wpAnyH_ready (rs := [13, 15]) (by kernel_rfl) (by simp) ?_
      refine AllReadyH.cons rfl (fun K hK => ?_) (AllReadyH.cons rfl (fun K hK => ?_) (AllReadyH.nil))
      · refine wp_appI (.tmp 16) (.tmp 20) rfl W.heap.size (.slice (some ⟨wz0.heap.size, 0, none⟩) 0 0) [] (by simp [Act.eval]) E1.out (some ⟨pb, poff + i, none⟩) (c - i) (P.drop i) (by simp [Act.eval]; omega) (HDR.out.below hHeld.2.out) (by simp; omega) (by simp; omega) hHeld.2.out.size ?_
        intro v2 w902 own2 grow2
        try rw [List.nil_append] at own2
        have bq2 : Below W.heap.size W w902 := Below.grown hHeld.2.out grow2 hHeld.2.out.size (fun k e => (World.ownsRow.lt E1.out k e).1)
        replace own2 : OwnI w902 W.heap.size v2 (P.drop i) := own2
        obtain ⟨a2, c2, rfl, _, _⟩ := OwnI.tab own2
        have O2 := Lib.hid own2
        clear own2
        generalize hw2 : w902 = wz2 at *
        clear hw2
        refine hK.out _ _ ?_ (fun hNew => ?_)
        · exact ⟨⟨⟨cell_later bq2 HQ.out.1.1, cell_later bq2 HQ.out.1.2.1, cell_later bq2 HQ.out.1.2.2.1, cell_later bq2 HQ.out.1.2.2.2.1, cell_later bq2 HQ.out.1.2.2.2.2⟩, cell_later bq2 HQ.out.2⟩, Lib.hid bq2⟩
        clear hK K hHeld
        have hHeld := hNew
        clear hNew
        try simp only [Act.put, List.setIfInBounds_toArray, List.set_cons_zero, List.set_cons_succ]
        refine takeH (i := 14) (v := ?_) rfl rfl (by kernel_rfl) (by kernel_rfl) (by kernel_rfl) (fun _ _ _ h => h) (by rfl) ?_ (by assumption) ?_
        rotate_left 1
        · intro w hSw
          (try dsimp only at hSw)
          go_simp
          try with_reducible rfl
        try simp only [List.setIfInBounds_toArray, List.set_cons_zero, List.set_cons_succ]
        refine wpAnyH_ready (rs := [15]) (by kernel_rfl) (by simp) ?_
        refine AllReadyH.cons rfl (fun K hK => ?_) (AllReadyH.nil)
        go_simp
        have be3 : Below wz2.heap.size wz2 (wz2.alloc (.cells #[.int .i64 0, .int .i64 0, .int .i64 0, .int .i64 0, .slice none 0 0] 34)) := (Below.refl _ _).alloc (Nat.le_refl _) _
        have O3 := Lib.hid (owni_later O2.out be3)
        have Z3 := Lib.hid (ownsl_zero wz2 W.heap.size hHeld.2.out.size)
        generalize wz2.alloc (.cells #[.int .i64 0, .int .i64 0, .int .i64 0, .int .i64 0, .slice none 0 0] 34) = wz3 at *
        refine hK.out _ _ ?_ (fun hNew => ?_)
        · exact ⟨⟨⟨cell_later (be3) hHeld.1.1.1, cell_later (be3) hHeld.1.1.2.1, cell_later (be3) hHeld.1.1.2.2.1, cell_later (be3) hHeld.1.1.2.2.2.1, cell_later (be3) hHeld.1.1.2.2.2.2⟩, cell_later (be3) hHeld.1.2⟩, Lib.hid (next hHeld.2.out be3)⟩
        clear hK K hHeld
        have hHeld := hNew
        clear hNew
        try simp only [Act.put, List.setIfInBounds_toArray, List.set_cons_zero, List.set_cons_succ]
        refine wpAnyH_ready (rs := [16]) (by kernel_rfl) (by simp) ?_
        refine AllReadyH.cons rfl (fun K hK => ?_) (AllReadyH.nil)
        refine wp_stY 34 (.tmp 7) (.tmp 22) rfl (wz2.heap.size) #[.int .i64 h, .int .i64 tt, .int .i64 f, .int .i64 b, .slice a2 (P.drop i).length c2] (by simp [Act.eval]) (by simp [Act.eval]) (oneSl5 ⟨h, tt, f, b, a2, c2, P.drop i⟩) infoSl5 _ (OwnSl.aty Z3.out) rfl ?_
        intro wz4 aa gg
        have HF : Hid (CutS W (wz2.heap.size) h tt f b a2 c2 (P.drop i) wz4) := Lib.hid (CutS.mk' hHeld.2.out Z3.out O3.out aa gg)
        refine hK.out _ _ ?_ (fun hNew => ?_)
        · exact ⟨⟨⟨cell_later HF.out.bel HQ.out.1.1, cell_later HF.out.bel HQ.out.1.2.1, cell_later HF.out.bel HQ.out.1.2.2.1, cell_later HF.out.bel HQ.out.1.2.2.2.1, cell_later HF.out.bel HQ.out.1.2.2.2.2⟩, cell_later HF.out.bel HQ.out.2⟩, Lib.hid HF.out.bel⟩
        clear hK K hHeld
        have hHeld := hNew
        clear hNew
        try simp only [Act.put, List.setIfInBounds_toArray, List.set_cons_zero, List.set_cons_succ]
        refine wpAnyH_done (by kernel_rfl) ?_ _
        clear hHeld
        go_wp2_with fail
        go_meet
        exact ⟨_, _, _, _, rfl, Lib.hid rfl, HF⟩
      · go_simp
        have be2 : Below wz1.heap.size wz1 (wz1.alloc (.cells #[.int .i64 0, .int .i64 0, .int .i64 0, .int .i64 0, .slice none 0 0] 34)) := (Below.refl _ _).alloc (Nat.le_refl _) _
        have E2 := Lib.hid (owni_later E1.out be2)
        have Z2 := Lib.hid (ownsl_zero wz1 W.heap.size hHeld.2.out.size)
        generalize wz1.alloc (.cells #[.int .i64 0, .int .i64 0, .int .i64 0, .int .i64 0, .slice none 0 0] 34) = wz2 at *
        refine hK.out _ _ ?_ (fun hNew => ?_)
        · exact ⟨⟨⟨cell_later (be2) hHeld.1.1.1, cell_later (be2) hHeld.1.1.2.1, cell_later (be2) hHeld.1.1.2.2.1, cell_later (be2) hHeld.1.1.2.2.2.1, cell_later (be2) hHeld.1.1.2.2.2.2⟩, cell_later (be2) hHeld.1.2⟩, Lib.hid (next hHeld.2.out be2)⟩
        clear hK K hHeld
        have hHeld := hNew
        clear hNew
        try simp only [Act.put, List.setIfInBounds_toArray, List.set_cons_zero, List.set_cons_succ]
        refine wpAnyH_ready (rs := [13]) (by kernel_rfl) (by simp) ?_
        refine AllReadyH.cons rfl (fun K hK => ?_) (AllReadyH.nil)
        refine wp_appI (.tmp 16) (.tmp 20) rfl W.heap.size (.slice (some ⟨wz0.heap.size, 0, none⟩) 0 0) [] (by simp [Act.eval]) E2.out (some ⟨pb, poff + i, none⟩) (c - i) (P.drop i) (by simp [Act.eval]; omega) (HDR.out.below hHeld.2.out) (by simp; omega) (by simp; omega) hHeld.2.out.size ?_
        intro v3 w903 own3 grow3
        try rw [List.nil_append] at own3
        have bq3 : Below W.heap.size W w903 := Below.grown hHeld.2.out grow3 hHeld.2.out.size (fun k e => (World.ownsRow.lt E2.out k e).1)
        have Z3 := Lib.hid (World.ownsRow.kept Z2.out grow3 (slrows_apart Z2.out E2.out (by decide)))
        replace own3 : OwnI w903 W.heap.size v3 (P.drop i) := own3
        obtain ⟨a3, c3, rfl, _, _⟩ := OwnI.tab own3
        have O3 := Lib.hid own3
        clear own3
        generalize hw3 : w903 = wz3 at *
        clear hw3
        refine hK.out _ _ ?_ (fun hNew => ?_)
        · exact ⟨⟨⟨cell_later bq3 HQ.out.1.1, cell_later bq3 HQ.out.1.2.1, cell_later bq3 HQ.out.1.2.2.1, cell_later bq3 HQ.out.1.2.2.2.1, cell_later bq3 HQ.out.1.2.2.2.2⟩, cell_later bq3 HQ.out.2⟩, Lib.hid bq3⟩
        clear hK K hHeld
        have hHeld := hNew
        clear hNew
        try simp only [Act.put, List.setIfInBounds_toArray, List.set_cons_zero, List.set_cons_succ]
        refine takeH (i := 14) (v := ?_) rfl rfl (by kernel_rfl) (by kernel_rfl) (by kernel_rfl) (fun _ _ _ h => h) (by rfl) ?_ (by assumption) ?_
        rotate_left 1
        · intro w hSw
          (try dsimp only at hSw)
          go_simp
          try with_reducible rfl
        try simp only [List.setIfInBounds_toArray, List.set_cons_zero, List.set_cons_succ]
        refine wpAnyH_ready (rs := [16]) (by kernel_rfl) (by simp) ?_
        refine AllReadyH.cons rfl (fun K hK => ?_) (AllReadyH.nil)
        refine wp_stY 34 (.tmp 7) (.tmp 22) rfl (wz1.heap.size) #[.int .i64 h, .int .i64 tt, .int .i64 f, .int .i64 b, .slice a3 (P.drop i).length c3] (by simp [Act.eval]) (by simp [Act.eval]) (oneSl5 ⟨h, tt, f, b, a3, c3, P.drop i⟩) infoSl5 _ (OwnSl.aty Z3.out) rfl ?_
        intro wz4 aa gg
        have HF : Hid (CutS W (wz1.heap.size) h tt f b a3 c3 (P.drop i) wz4) := Lib.hid (CutS.mk' hHeld.2.out Z3.out O3.out aa gg)
        refine hK.out _ _ ?_ (fun hNew => ?_)
        · exact ⟨⟨⟨cell_later HF.out.bel HQ.out.1.1, cell_later HF.out.bel HQ.out.1.2.1, cell_later HF.out.bel HQ.out.1.2.2.1, cell_later HF.out.bel HQ.out.1.2.2.2.1, cell_later HF.out.bel HQ.out.1.2.2.2.2⟩, cell_later HF.out.bel HQ.out.2⟩, Lib.hid HF.out.bel⟩
        clear hK K hHeld
        have hHeld := hNew
        clear hNew
        try simp only [Act.put, List.setIfInBounds_toArray, List.set_cons_zero, List.set_cons_succ]
        refine wpAnyH_done (by kernel_rfl) ?_ _
        clear hHeld
        go_wp2_with fail
        go_meet
        exact ⟨_, _, _, _, rfl, Lib.hid rfl, HF⟩
    · generalize W.drew = wz0 at *
      go_simp
      have be1 : Below wz0.heap.size wz0 (wz0.alloc (.cells #[.int .i64 0, .int .i64 0, .int .i64 0, .int .i64 0, .slice none 0 0] 34)) := (Below.refl _ _).alloc (Nat.le_refl _) _
      have Z1 := Lib.hid (ownsl_zero wz0 W.heap.size hHeld.2.out.size)
      generalize wz0.alloc (.cells #[.int .i64 0, .int .i64 0, .int .i64 0, .int .i64 0, .slice none 0 0] 34) = wz1 at *
      refine hK.out _ _ ?_ (fun hNew => ?_)
      · exact ⟨⟨⟨cell_later (be1) hHeld.1.1.1, cell_later (be1) hHeld.1.1.2.1, cell_later (be1) hHeld.1.1.2.2.1, cell_later (be1) hHeld.1.1.2.2.2.1, cell_later (be1) hHeld.1.1.2.2.2.2⟩, cell_later (be1) hHeld.1.2⟩, Lib.hid (next hHeld.2.out be1)⟩
      clear hK K hHeld
      have hHeld := hNew
      clear hNew
      try simp only [Act.put, List.setIfInBounds_toArray, List.set_cons_zero, List.set_cons_succ]
      refine wpAnyH_ready (rs := [8]) (by kernel_rfl) (by simp) ?_
      refine AllReadyH.cons rfl (fun K hK => ?_) (AllReadyH.nil)
      go_simp
      have be2 : Below wz1.heap.size wz1 (wz1.alloc (.cells #[] 3)) := (Below.refl _ _).alloc (Nat.le_refl _) _
      have Z2 := Lib.hid (ownsl_later Z1.out be2)
      have E2 := Lib.hid (owni_empty wz1 W.heap.size hHeld.2.out.size)
      generalize wz1.alloc (.cells #[] 3) = wz2 at *
      refine hK.out _ _ ?_ (fun hNew => ?_)
      · exact ⟨⟨⟨cell_later (be2) hHeld.1.1.1, cell_later (be2) hHeld.1.1.2.1, cell_later (be2) hHeld.1.1.2.2.1, cell_later (be2) hHeld.1.1.2.2.2.1, cell_later (be2) hHeld.1.1.2.2.2.2⟩, cell_later (be2) hHeld.1.2⟩, Lib.hid (next hHeld.2.out be2)⟩
      clear hK K hHeld
      have hHeld := hNew
      clear hNew
      try simp only [Act.put, List.setIfInBounds_toArray, List.set_cons_zero, List.set_cons_succ]
      refine wpAnyH_ready (rs := [13]) (by kernel_rfl) (by simp) ?_
      refine AllReadyH.cons rfl (fun K hK => ?_) (AllReadyH.nil)
      refine wp_appI (.tmp 16) (.tmp 20) rfl W.heap.size (.slice (some ⟨wz1.heap.size, 0, none⟩) 0 0) [] (by simp [Act.eval]) E2.out (some ⟨pb, poff + i, none⟩) (c - i) (P.drop i) (by simp [Act.eval]; omega) (HDR.out.below hHeld.2.out) (by simp; omega) (by simp; omega) hHeld.2.out.size ?_
      intro v3 w903 own3 grow3
      try rw [List.nil_append] at own3
      have bq3 : Below W.heap.size W w903 := Below.grown hHeld.2.out grow3 hHeld.2.out.size (fun k e => (World.ownsRow.lt E2.out k e).1)
      have Z3 := Lib.hid (World.ownsRow.kept Z2.out grow3 (slrows_apart Z2.out E2.out (by decide)))
      replace own3 : OwnI w903 W.heap.size v3 (P.drop i) := own3
      obtain ⟨a3, c3, rfl, _, _⟩ := OwnI.tab own3
      have O3 := Lib.hid own3
      clear own3
      generalize hw3 : w903 = wz3 at *
      clear hw3
      refine hK.out _ _ ?_ (fun hNew => ?_)
      · exact ⟨⟨⟨cell_later bq3 HQ.out.1.1, cell_later bq3 HQ.out.1.2.1, cell_later bq3 HQ.out.1.2.2.1, cell_later bq3 HQ.out.1.2.2.2.1, cell_later bq3 HQ.out.1.2.2.2.2⟩, cell_later bq3 HQ.out.2⟩, Lib.hid bq3⟩
      clear hK K hHeld
      have hHeld := hNew
      clear hNew
      try simp only [Act.put, List.setIfInBounds_toArray, List.set_cons_zero, List.set_cons_succ]
      refine takeH (i := 14) (v := ?_) rfl rfl (by kernel_rfl) (by kernel_rfl) (by kernel_rfl) (fun _ _ _ h => h) (by rfl) ?_ (by assumption) ?_
      rotate_left 1
      · intro w hSw
        (try dsimp only at hSw)
        go_simp
        try with_reducible rfl
      try simp only [List.setIfInBounds_toArray, List.set_cons_zero, List.set_cons_succ]
      refine wpAnyH_ready (rs := [16]) (by kernel_rfl) (by simp) ?_
      refine AllReadyH.cons rfl (fun K hK => ?_) (AllReadyH.nil)
      refine wp_stY 34 (.tmp 7) (.tmp 22) rfl (wz0.heap.size) #[.int .i64 h, .int .i64 tt, .int .i64 f, .int .i64 b, .slice a3 (P.drop i).length c3] (by simp [Act.eval]) (by simp [Act.eval]) (oneSl5 ⟨h, tt, f, b, a3, c3, P.drop i⟩) infoSl5 _ (OwnSl.aty Z3.out) rfl ?_
      intro wz4 aa gg
      have HF : Hid (CutS W (wz0.heap.size) h tt f b a3 c3 (P.drop i) wz4) := Lib.hid (CutS.mk' hHeld.2.out Z3.out O3.out aa gg)
      refine hK.out _ _ ?_ (fun hNew => ?_)
      · exact ⟨⟨⟨cell_later HF.out.bel HQ.out.1.1, cell_later HF.out.bel HQ.out.1.2.1, cell_later HF.out.bel HQ.out.1.2.2.1, cell_later HF.out.bel HQ.out.1.2.2.2.1, cell_later HF.out.bel HQ.out.1.2.2.2.2⟩, cell_later HF.out.bel HQ.out.2⟩, Lib.hid HF.out.bel⟩
      clear hK K hHeld
      have hHeld := hNew
      clear hNew
      try simp only [Act.put, List.setIfInBounds_toArray, List.set_cons_zero, List.set_cons_succ]
      refine wpAnyH_done (by kernel_rfl) ?_ _
      clear hHeld
      go_wp2_with fail
      go_meet
      exact ⟨_, _, _, _, rfl, Lib.hid rfl, HF⟩
  case rest =>
    obtain ⟨gz, a', c', D, rfl, HD, HF⟩ := hcut
    have bc := HF.out.bel
    have BXc := Lib.hid (BX.out.below bc)
    have RSc := Lib.hid (RS.out.below bc)
    have HBc := Lib.hid (next HB.out bc)
    have HIc := Lib.hid (HI.out.below bc)
    have hlow := HF.out.low
    obtain ⟨q0, q1, q2, q3, q4⟩ := BXc.out.five
    clear bc HQ BX RS HB HI HDR HPD
    by_cases hi0 : i = 0
    · have hgt : ¬ (i : Int) > 0 := by omega
      have hwh : whomAt tt P i = tt := by rw [whomAt, if_pos hi0]
      have HWH := Lib.hid hwh
      obtain ⟨z0, z1, z2, z3, z4⟩ := HF.out.box.five
      clear hi0 hwh
      go_wp2_with (refine wpList_stY rfl 34 (.tmp 6) (.tmp 32) rfl (w.heap.size + 1) #[.int .i64 h, .int .i64 tt, .int .i64 f, .int .i64 b, .slice a' D.length c'] ?x1 ?y1 (oneSl5 ⟨h, tt, f, b, a', c', D⟩) infoSl5 _ RSc.out rfl ?g1)
      try case x1 => rfl
      try case y1 => rfl
      intro w9 hA9 g9
      obtain ⟨y0, y1, y2, y3, y4⟩ := hA9.five
      have HO9 := Lib.hid (World.ownsRow.kept HF.out.own g9 (by
        cases e5 : (Value.slice a' D.length c').ownBlock with
        | none => exact .inl rfl
        | some k => exact .inr (fun q => by have := (HF.out.own.lt k e5).1; simp at q; omega)))
      have HB9 := Lib.hid (HBc.out.grown g9 HBc.out.size (fun k hk => by cases hk; omega))
      clear hA9 g9 z0 z1 z2 z3 z4
      go_wp2_with fail
      refine bodyPost_ret (v := slV ⟨h, tt, f, b, a', c', D⟩) (by simp [results, Tryd.results60, go_sem, y0, y1, y2, y3, y4]) rfl ⟨a', c', by rw [hg0, HWH.out, HD.out], by rw [HD.out]; exact owni_mono HO9.out (by omega), HB9.out⟩
    · have hgt : (i : Int) > 0 := by omega
      obtain ⟨k, rfl⟩ : ∃ k, i = k + 1 := ⟨i - 1, by omega⟩
      obtain ⟨pb2, poff2, u, eu, hu, cu⟩ := HIc.out.at (show k < P.length by omega)
      obtain ⟨rfl, rfl⟩ : pb = pb2 ∧ poff = poff2 := by simpa using eu
      have hwh : whomAt tt P (k + 1) = u := by rw [whomAt, if_neg (by omega)]; simp [List.getD, hu]
      have HWH := Lib.hid hwh
      have k0 : (0 : Int) ≤ (k : Int) := by omega
      have k1 : (k : Int) < (P.length : Int) := by omega
      have ek : IntKind.i64.wrap (((k + 1 : Nat) : Int) - 1) = (k : Int) := by rw [IntKind.wrap_i64]; omega
      clear eu hu hwh hi0
      go_wp2_with (refine wpList_st1Y rfl 3 (.tmp 31) (.tmp 30) rfl gz 1 (.int .i64 u) ?x2 ?y2 rfl rfl infoI1s _ HF.out.box (by simp) ?g2)
      try case x2 => rfl
      try case y2 => rfl
      intro w8 hA8 g8
      have HO8 := Lib.hid (World.ownsRow.kept HF.out.own g8 (by
        have h5 := HF.out.sep
        rcases h5 with h5 | h5
        · exact .inl h5
        · exact .inr h5))
      have hA8' : AtY w8 gz [.int .i64 h, .int .i64 u, .int .i64 f, .int .i64 b, .slice a' D.length c'] := hA8
      obtain ⟨z0, z1, z2, z3, z4⟩ := hA8'.five
      have RS8 := Lib.hid (RSc.out.only g8 (by simp; omega))
      have HB8 := Lib.hid (HBc.out.grown g8 HBc.out.size (fun k hk => by cases hk; omega))
      clear hA8 hA8' g8 q0 q1 q2 q3 q4 cu
      go_wp2_with (refine wpList_stY rfl 34 (.tmp 6) (.tmp 32) rfl (w.heap.size + 1) #[.int .i64 h, .int .i64 u, .int .i64 f, .int .i64 b, .slice a' D.length c'] ?x3 ?y3 (oneSl5 ⟨h, u, f, b, a', c', D⟩) infoSl5 _ RS8.out rfl ?g3)
      try case x3 => rfl
      try case y3 => rfl
      intro w9 hA9 g9
      obtain ⟨y0, y1, y2, y3, y4⟩ := hA9.five
      have HO9 := Lib.hid (World.ownsRow.kept HO8.out g9 (by
        cases e5 : (Value.slice a' D.length c').ownBlock with
        | none => exact .inl rfl
        | some k => exact .inr (fun q => by have := (HO8.out.lt k e5).1; simp at q; omega)))
      have HB9 := Lib.hid (HB8.out.grown g9 HB8.out.size (fun k hk => by cases hk; omega))
      clear hA9 g9 z0 z1 z2 z3 z4
      go_wp2_with fail
      refine bodyPost_ret (v := slV ⟨h, u, f, b, a', c', D⟩) (by simp [results, Tryd.results60, go_sem, y0, y1, y2, y3, y4]) rfl ⟨a', c', by rw [hg0, HWH.out, HD.out], by rw [HD.out]; exact owni_mono HO9.out (by omega), HB9.out⟩
end Go.Proofs.YtnnmgbgkgnejlaaDoor
