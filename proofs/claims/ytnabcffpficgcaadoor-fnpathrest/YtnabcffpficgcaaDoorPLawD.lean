/-
  The law on drawn paths: each house once.
-/
import Derived.Test.YtnabcffpficgcaaDoorPLawA
namespace Go.Proofs.YtnabcffpficgcaaDoor
open Go.RowKit
set_option linter.unusedSimpArgs false
set_option linter.unusedVariables false

/-- what is kept while a drawn path is taken apart -/
def FS (w : World) (p : Addr) (bd od r : Nat) (x : Int) (L : List Int) (W : World) : Prop :=
  W.cell? ⟨bd, od + r, none⟩ = some (.int .i64 x) ∧ EV W p ∧ Below w.heap.size w W ∧ IntA W (some ⟨bd, od, none⟩) L
theorem FS.below {w : World} {p : Addr} {bd od r : Nat} {x : Int} {L : List Int} {W W' : World} (h : FS w p bd od r x L W) (k : Below W.heap.size W W') : FS w p bd od r x L W' :=
  ⟨cell_later k h.1, h.2.1.below k, next h.2.2.1 k, h.2.2.2.below k⟩
theorem FS.drew {w : World} {p : Addr} {bd od r : Nat} {x : Int} {L : List Int} {W : World} (h : FS w p bd od r x L W) : FS w p bd od r x L W.drew := ⟨h.1, h.2.1, h.2.2.1.drew, h.2.2.2⟩
theorem FS.alloc {w : World} {p : Addr} {bd od r : Nat} {x : Int} {L : List Int} {W : World} (h : FS w p bd od r x L W) (o : Obj) : FS w p bd od r x L (W.alloc o) := h.below ((Below.refl _ _).alloc (Nat.le_refl _) o)
theorem FS.later {w : World} {p : Addr} {bd od r n : Nat} {x : Int} {L : List Int} {W W' : World} (h : FS w p bd od r x L W) (k : Below n W W') (hb : bd < n) (h0 : 0 < n) (hw : w.heap.size ≤ n) : FS w p bd od r x L W' := by
  refine ⟨(k.cell (p := ⟨bd, od + r, none⟩) hb).trans h.1, (k.cell (p := ⟨0, 0, none⟩) h0).trans h.2.1, h.2.2.1.trans (k.mono hw), ?_⟩
  rcases h.2.2.2 with e | ⟨b', off', e, h'⟩
  · exact .inl e
  · obtain ⟨rfl, rfl⟩ : bd = b' ∧ od = off' := by simpa using e
    exact .inr ⟨bd, od, rfl, fun i y hi => (k.cell (p := ⟨bd, od + i, none⟩) hb).trans (h' i y hi)⟩

set_option maxRecDepth 100000 in
set_option maxHeartbeats 1000000 in
theorem lawPathForm (a0 : Option Addr) (len0 cap0 : Nat) (zs0 : List Int) (a1 : Option Addr) (len1 cap1 : Nat) (zs1 : List Int) (w : World) (h0 : IsRow w a0 len0 cap0 zs0) (h1 : IsRow w a1 len1 cap1 zs1) (p : Addr) (hE : EV w p) (hX : True) :
    Calls Tryd.prog 15 #[.slice a0 len0 cap0, .slice a1 len1 cap1] w fun e w' => e = .returned (.bool true) ∧ Below w.heap.size w w' := by
  have H0 := Lib.hid h0
  have H1 := Lib.hid h1
  have HE := Lib.hid hE
  have HX := Lib.hid hX
  clear h0 hE hX h1
  by_cases hl0 : (1048576 : Int) < (len0 : Int)
  · go_enter Tryd.func15, Tryd.ntmps15
    go_wp2_with fail
    go_ret
    exact ⟨rfl, Below.refl _ _⟩
  by_cases hl1 : (1048576 : Int) < (len1 : Int)
  · go_enter Tryd.func15, Tryd.ntmps15
    go_wp2_with fail
    go_ret
    exact ⟨rfl, Below.refl _ _⟩
  have HB0 := Lib.hid (Below.refl w.heap.size w)
  go_enter Tryd.func15, Tryd.ntmps15
  go_wp2_with fail
  refine (dPathOk_any a0 len0 cap0 zs0 _ (isrow_later H0.out HB0.out)).mono ?_
  rintro e w1 ⟨v, L, rfl, hl6, o, b⟩
  have HB1 := Lib.hid (HB0.out.trans (b.mono HB0.out.size))
  have hs1 := Lib.hid b.size
  obtain ⟨ad, cd, rfl, hcd, td⟩ := OwnI.tab o
  have Bd := Lib.hid (OwnI.btw o)
  have Od_1 := Lib.hid o
  clear td hcd
  clear b o
  cases ho : pOk L with
  | false =>
    go_wp2_with fail
    refine (piok_is ho ad cd _ _ p rfl (by omega) (OwnI.intA Od_1.out).2.2 (HE.out.below HB1.out)).mono ?_
    rintro e w2 ⟨rfl, b⟩
    have HB2 := Lib.hid (HB1.out.trans (b.mono HB1.out.size))
    have hs2 := Lib.hid b.size
    have Od_2 := Lib.hid (owni_later Od_1.out b)
    clear b
    go_wp2_with fail
    refine (psok_is ho ad cd _ _ rfl (OwnI.intA Od_2.out).2.2 (OwnI.intA Od_2.out).2.1 (by omega)).mono ?_
    rintro e w3 ⟨rfl, b⟩
    have HB3 := Lib.hid (HB2.out.trans (b.mono HB2.out.size))
    have hs3 := Lib.hid b.size
    have Od_3 := Lib.hid (owni_later Od_2.out b)
    clear b
    go_wp2_with fail
    refine (psok_is ho ad cd _ _ rfl (OwnI.intA Od_3.out).2.2 (OwnI.intA Od_3.out).2.1 (by omega)).mono ?_
    rintro e w4 ⟨rfl, b⟩
    have HB4 := Lib.hid (HB3.out.trans (b.mono HB3.out.size))
    have hs4 := Lib.hid b.size
    have Od_4 := Lib.hid (owni_later Od_3.out b)
    clear b
    go_wp2_with fail
    go_ret
    exact ⟨rfl, HB4.out⟩
  | true =>
    go_wp2_with fail
    refine (piok_is ho ad cd _ _ p rfl (by omega) (OwnI.intA Od_1.out).2.2 (HE.out.below HB1.out)).mono ?_
    rintro e w2 ⟨rfl, b⟩
    have HB2 := Lib.hid (HB1.out.trans (b.mono HB1.out.size))
    have hs2 := Lib.hid b.size
    have Od_2 := Lib.hid (owni_later Od_1.out b)
    clear b
    go_wp2_with fail
    refine (psok_is ho ad cd _ _ rfl (OwnI.intA Od_2.out).2.2 (OwnI.intA Od_2.out).2.1 (by omega)).mono ?_
    rintro e w3 ⟨rfl, b⟩
    have HB3 := Lib.hid (HB2.out.trans (b.mono HB2.out.size))
    have hs3 := Lib.hid b.size
    have Od_3 := Lib.hid (owni_later Od_2.out b)
    clear b
    by_cases hl : L.length = 0
    · obtain rfl : L = [] := List.eq_nil_of_length_eq_zero hl
      go_wp2_with fail
      refine (psok_is ho ad cd _ _ rfl (OwnI.intA Od_3.out).2.2 (OwnI.intA Od_3.out).2.1 (by omega)).mono ?_
      rintro e w4 ⟨rfl, b⟩
      have HB4 := Lib.hid (HB3.out.trans (b.mono HB3.out.size))
      have hs4 := Lib.hid b.size
      have Od_4 := Lib.hid (owni_later Od_3.out b)
      clear b
      go_wp2_with fail
      go_ret
      exact ⟨rfl, HB4.out⟩
    · have HP := Lib.hid ((pOk_iff L).1 ho)
      have h5 := HP.out.len
      have t1 : (len1 : Int).tmod (L.length : Int) = ((len1 % L.length : Nat) : Int) := by rw [Int.tmod_eq_emod_of_nonneg (by omega)]; rfl
      have hr : len1 % L.length < L.length := Nat.mod_lt _ (by omega)
      generalize len1 % L.length = r at *
      have hl2 : ((L.length : Int) == 0) = false := by simpa using hl
      clear hl
      obtain ⟨bd, od, x, rfl, hx, cx⟩ := (OwnI.intA Od_3.out).2.2.at hr
      have hcd := (OwnI.intA Od_3.out).2.1
      have HF0 : Hid (FS w p bd od r x L w3) := Lib.hid ⟨cx, HE.out.below HB3.out, HB3.out, (OwnI.intA Od_3.out).2.2⟩
      have hbd : bd < w3.heap.size := World.block_lt_of_cell? _ _ cx
      have hwz : w.heap.size ≤ w3.heap.size := HB3.out.size
      have h0z : 0 < w3.heap.size := (HE.out.below HB3.out).lt
      have k1 : pOk (L.drop r) = true := pOk_yes (HP.out.drop r)
      have k2 : pOk (L.take r) = true := pOk_yes (HP.out.take r)
      have k3 : pOk ([] ++ L ++ [x]) = false := pOk_no fun h => (path_snoc.1 h).2.2 (by simpa using List.mem_of_getElem? hx)
      have k4 : pOk [0] = false := by decide
      have e1 : Hid (L.length - r = (L.drop r).length) := Lib.hid (by simp)
      have e2 : Hid (r = (L.take r).length) := Lib.hid (by rw [List.length_take]; omega)
      have j0 : (0 : Int) ≤ (r : Int) := by omega
      have j1 : (r : Int) < (L.length : Int) := by omega
      have j2 : (r : Int) ≤ (L.length : Int) := by omega
      have j3 : (L.length : Int) ≤ (cd : Int) := by omega
      have j4 : (r : Int) ≤ (cd : Int) := by omega
      have j5 : ¬ cd = r := by omega
      have j6 : ¬ cd - r = 0 := by omega
      have j7 : (L.length : Int) ≤ 5 := by omega
      clear ho hx cx
      go_wp2_with fail
      focus
        refine wp_region_held_drew (S := fun W => W.cell? ⟨bd, od + r, none⟩ = some (.int .i64 x) ∧ FS w p bd od r x L W) (by kernel_rfl) ?_ (fun hHeld => ?_)
        · exact ⟨HF0.out.1, HF0.out.drew⟩
        refine takeH (i := 0) (v := ?_) rfl rfl (by kernel_rfl) (by kernel_rfl) (by kernel_rfl) (fun _ _ _ h => h) (by rfl) ?_ (by assumption) ?_
        rotate_left 1
        · intro w hSw
          (try dsimp only at hSw)
          go_simp
          try with_reducible rfl
        try simp only [List.setIfInBounds_toArray, List.set_cons_zero, List.set_cons_succ]
        refine takeH (i := 1) (v := ?_) rfl rfl (by kernel_rfl) (by kernel_rfl) (by kernel_rfl) (fun _ _ _ h => h) (by rfl) ?_ (by assumption) ?_
        rotate_left 1
        · intro w hSw
          (try dsimp only at hSw)
          go_simp
          try with_reducible rfl
        try simp only [List.setIfInBounds_toArray, List.set_cons_zero, List.set_cons_succ]
        refine takeH (i := 2) (v := ?_) rfl rfl (by kernel_rfl) (by kernel_rfl) (by kernel_rfl) (fun _ _ _ h => h) (by rfl) ?_ (by assumption) ?_
        rotate_left 1
        · intro w hSw
          (try dsimp only at hSw)
          go_simp
          try with_reducible rfl
        try simp only [List.setIfInBounds_toArray, List.set_cons_zero, List.set_cons_succ]
        refine wpAnyH_ready (rs := [3]) (by kernel_rfl) (by simp) ?_
        refine AllReadyH.cons rfl (fun K hK => ?_) (AllReadyH.nil)
        go_simp
        refine (piok_is k1 _ _ _ _ p e1.out (by rw [← e1.out]; omega) (IntA.drop hHeld.2.2.2.2 r) hHeld.2.2.1).mono ?_
        rintro e wa ⟨rfl, ba⟩
        have hza := ba.size
        go_wp2_with fail
        refine hK.out _ _ ?_ (fun hNew => ?_)
        · exact ⟨(hHeld.2.below ba).1, hHeld.2.below ba⟩
        clear hK K hHeld
        have hHeld := hNew
        clear hNew
        try simp only [Act.put, List.setIfInBounds_toArray, List.set_cons_zero, List.set_cons_succ]
        refine takeH (i := 4) (v := ?_) rfl rfl (by kernel_rfl) (by kernel_rfl) (by kernel_rfl) (fun _ _ _ h => h) (by rfl) ?_ (by assumption) ?_
        rotate_left 1
        · intro w hSw
          (try dsimp only at hSw)
          go_simp
          try with_reducible rfl
        try simp only [List.setIfInBounds_toArray, List.set_cons_zero, List.set_cons_succ]
        refine takeH (i := 5) (v := ?_) rfl rfl (by kernel_rfl) (by kernel_rfl) (by kernel_rfl) (fun _ _ _ h => h) (by rfl) ?_ (by assumption) ?_
        rotate_left 1
        · intro w hSw
          (try dsimp only at hSw)
          go_simp
          try with_reducible rfl
        try simp only [List.setIfInBounds_toArray, List.set_cons_zero, List.set_cons_succ]
        refine takeH (i := 6) (v := ?_) rfl rfl (by kernel_rfl) (by kernel_rfl) (by kernel_rfl) (fun _ _ _ h => h) (by rfl) ?_ (by assumption) ?_
        rotate_left 1
        · intro w hSw
          (try dsimp only at hSw)
          go_simp
          try with_reducible rfl
        try simp only [List.setIfInBounds_toArray, List.set_cons_zero, List.set_cons_succ]
        refine takeH (i := 7) (v := ?_) rfl rfl (by kernel_rfl) (by kernel_rfl) (by kernel_rfl) (fun _ _ _ h => h) (by rfl) ?_ (by assumption) ?_
        rotate_left 1
        · intro w hSw
          (try dsimp only at hSw)
          go_simp
          try with_reducible rfl
        try simp only [List.setIfInBounds_toArray, List.set_cons_zero, List.set_cons_succ]
        refine wpAnyH_ready (rs := [8]) (by kernel_rfl) (by simp) ?_
        refine AllReadyH.cons rfl (fun K hK => ?_) (AllReadyH.nil)
        go_simp
        refine (piok_is k2 _ _ _ _ p e2.out (by rw [← e2.out]; omega) (IntA.take hHeld.2.2.2.2 r) hHeld.2.2.1).mono ?_
        rintro e wb ⟨rfl, bb⟩
        have hzb := bb.size
        have hR1 : bd < wb.heap.size := by simp at hza; omega
        have hR2 : w.heap.size ≤ wb.heap.size := by simp at hza; omega
        have hR3 : 0 < wb.heap.size := by simp at hza; omega
        go_wp2_with fail
        refine hK.out _ _ ?_ (fun hNew => ?_)
        · exact ⟨(hHeld.2.below bb).1, hHeld.2.below bb⟩
        clear hK K hHeld
        have hHeld := hNew
        clear hNew
        try simp only [Act.put, List.setIfInBounds_toArray, List.set_cons_zero, List.set_cons_succ]
        refine takeH (i := 9) (v := ?_) rfl rfl (by kernel_rfl) (by kernel_rfl) (by kernel_rfl) (fun _ _ _ h => h) (by rfl) ?_ (by assumption) ?_
        rotate_left 1
        · intro w hSw
          (try dsimp only at hSw)
          go_simp
          try with_reducible rfl
        try simp only [List.setIfInBounds_toArray, List.set_cons_zero, List.set_cons_succ]
        refine takeH (i := 10) (v := ?_) rfl rfl (by kernel_rfl) (by kernel_rfl) (by kernel_rfl) (fun _ _ _ h => h) (by rfl) ?_ (by assumption) ?_
        rotate_left 1
        · intro w hSw
          (try dsimp only at hSw)
          go_simp
          try with_reducible rfl
        try simp only [List.setIfInBounds_toArray, List.set_cons_zero, List.set_cons_succ]
        refine takeH (i := 12) (v := ?_) rfl rfl (by kernel_rfl) (by kernel_rfl) (by kernel_rfl) (fun _ _ _ h => h) (by rfl) ?_ (by assumption) ?_
        rotate_left 1
        · intro w hSw
          (try dsimp only at hSw)
          go_simp
          try with_reducible rfl
        try simp only [List.setIfInBounds_toArray, List.set_cons_zero, List.set_cons_succ]
        refine takeH (i := 14) (v := ?_) rfl rfl (by kernel_rfl) (by kernel_rfl) (by kernel_rfl) (fun _ _ _ h => h) (by rfl) ?_ (by assumption) ?_
        rotate_left 1
        · intro w hSw
          (try dsimp only at hSw)
          go_simp
          try with_reducible rfl
        try simp only [List.setIfInBounds_toArray, List.set_cons_zero, List.set_cons_succ]
        refine takeH (i := 15) (v := ?_) rfl rfl (by kernel_rfl) (by kernel_rfl) (by kernel_rfl) (fun _ _ _ h => h) (by rfl) ?_ (by assumption) ?_
        rotate_left 1
        · intro w hSw
          (try dsimp only at hSw)
          go_simp
          try with_reducible rfl
        try simp only [List.setIfInBounds_toArray, List.set_cons_zero, List.set_cons_succ]
        refine takeH (i := 16) (v := ?_) rfl rfl (by kernel_rfl) (by kernel_rfl) (by kernel_rfl) (fun _ _ _ h => h) (by rfl) ?_ (by assumption) ?_
        rotate_left 1
        · intro w hSw
          (try dsimp only at hSw)
          go_simp
          try with_reducible rfl
        try simp only [List.setIfInBounds_toArray, List.set_cons_zero, List.set_cons_succ]
        refine takeH (i := 17) (v := ?_) rfl rfl (by kernel_rfl) (by kernel_rfl) (by kernel_rfl) (fun _ _ _ h => h) (by rfl) ?_ (by assumption) ?_
        rotate_left 1
        · intro w hSw
          (try dsimp only at hSw)
          go_simp
          try with_reducible rfl
        try simp only [List.setIfInBounds_toArray, List.set_cons_zero, List.set_cons_succ]
        refine wpAnyH_ready (rs := [11, 18]) (by kernel_rfl) (by simp) ?_
        refine AllReadyH.cons rfl (fun K hK => ?_) (AllReadyH.cons rfl (fun K hK => ?_) (AllReadyH.nil))
        go_simp
        refine hK.out _ _ ?_ (fun hNew => ?_)
        · exact ⟨cellA hHeld.1 _, hHeld.2.alloc _⟩
        clear hK K hHeld
        have hHeld := hNew
        clear hNew
        try simp only [Act.put, List.setIfInBounds_toArray, List.set_cons_zero, List.set_cons_succ]
        refine wpAnyH_ready (rs := [13, 18]) (by kernel_rfl) (by simp) ?_
        refine AllReadyH.cons rfl (fun K hK => ?_) (AllReadyH.cons rfl (fun K hK => ?_) (AllReadyH.nil))
        refine wp_appI (.tmp 53) (.tmp 54) rfl wb.heap.size _ [] (by simp [Act.eval]) (owni_empty wb wb.heap.size (Nat.le_refl _)) _ cd L (by simp [Act.eval]) hHeld.2.2.2.2 hcd (by simp; omega) (by simp only [World.size_alloc]; omega) ?_
        intro v1 wc own1 grow1
        have bc := appi_below (L := []) (owni_empty wb wb.heap.size (Nat.le_refl _)) grow1 (by simp only [World.size_alloc]; omega)
        have hzc := bc.size
        clear grow1
        refine hK.out _ _ ?_ (fun hNew => ?_)
        · exact ⟨(hHeld.2.later bc hR1 hR3 hR2).1, hHeld.2.later bc hR1 hR3 hR2⟩
        clear hK K hHeld
        have hHeld := hNew
        clear hNew
        try simp only [Act.put, List.setIfInBounds_toArray, List.set_cons_zero, List.set_cons_succ]
        refine wpAnyH_ready (rs := [18]) (by kernel_rfl) (by simp) ?_
        refine AllReadyH.cons rfl (fun K hK => ?_) (AllReadyH.nil)
        go_simp
        refine hK.out _ _ ?_ (fun hNew => ?_)
        · exact ⟨cellA hHeld.1 _, hHeld.2.alloc _⟩
        clear hK K hHeld
        have hHeld := hNew
        clear hNew
        try simp only [Act.put, List.setIfInBounds_toArray, List.set_cons_zero, List.set_cons_succ]
        refine wpAnyH_ready (rs := [19]) (by kernel_rfl) (by simp) ?_
        refine AllReadyH.cons rfl (fun K hK => ?_) (AllReadyH.nil)
        have own1' := own1.alloc (.cells #[.int .i64 x] 3)
        refine wp_appI (.tmp 55) (.tmp 60) rfl wb.heap.size _ ([] ++ L) (by simp [Act.eval]) own1' _ 1 [x] (by simp [Act.eval]) (pnews1 wc x) (by simp) (by simp; omega) (by simp at hzc ⊢; omega) ?_
        intro v2 wd own2 grow2
        have bd2 := appi_below (L := [] ++ L) own1' grow2 (by simp at hzc ⊢; omega)
        have hzd := bd2.size
        obtain ⟨a2, c2, rfl, hc2, t2⟩ := OwnI.tab own2
        clear grow2
        refine hK.out _ _ ?_ (fun hNew => ?_)
        · exact ⟨(hHeld.2.later bd2 hR1 hR3 hR2).1, hHeld.2.later bd2 hR1 hR3 hR2⟩
        clear hK K hHeld
        have hHeld := hNew
        clear hNew
        try simp only [Act.put, List.setIfInBounds_toArray, List.set_cons_zero, List.set_cons_succ]
        refine wpAnyH_ready (rs := [20]) (by kernel_rfl) (by simp) ?_
        refine AllReadyH.cons rfl (fun K hK => ?_) (AllReadyH.nil)
        go_simp
        refine (piok_is k3 _ _ _ _ p (by simp) (by simp; omega) t2 hHeld.2.2.1).mono ?_
        rintro e we ⟨rfl, be⟩
        go_wp2_with fail
        refine hK.out _ _ ?_ (fun hNew => ?_)
        · exact ⟨(hHeld.2.below be).1, hHeld.2.below be⟩
        clear hK K hHeld
        have hHeld := hNew
        clear hNew
        try simp only [Act.put, List.setIfInBounds_toArray, List.set_cons_zero, List.set_cons_succ]
        refine takeH (i := 21) (v := ?_) rfl rfl (by kernel_rfl) (by kernel_rfl) (by kernel_rfl) (fun _ _ _ h => h) (by rfl) ?_ (by assumption) ?_
        rotate_left 1
        · intro w hSw
          (try dsimp only at hSw)
          go_simp
          try with_reducible rfl
        try simp only [List.setIfInBounds_toArray, List.set_cons_zero, List.set_cons_succ]
        refine takeH (i := 22) (v := ?_) rfl rfl (by kernel_rfl) (by kernel_rfl) (by kernel_rfl) (fun _ _ _ h => h) (by rfl) ?_ (by assumption) ?_
        rotate_left 1
        · intro w hSw
          (try dsimp only at hSw)
          go_simp
          try with_reducible rfl
        try simp only [List.setIfInBounds_toArray, List.set_cons_zero, List.set_cons_succ]
        refine takeH (i := 23) (v := ?_) rfl rfl (by kernel_rfl) (by kernel_rfl) (by kernel_rfl) (fun _ _ _ h => h) (by rfl) ?_ (by assumption) ?_
        rotate_left 1
        · intro w hSw
          (try dsimp only at hSw)
          go_simp
          try with_reducible rfl
        try simp only [List.setIfInBounds_toArray, List.set_cons_zero, List.set_cons_succ]
        refine wpAnyH_ready (rs := [24]) (by kernel_rfl) (by simp) ?_
        refine AllReadyH.cons rfl (fun K hK => ?_) (AllReadyH.nil)
        go_simp
        refine hK.out _ _ ?_ (fun hNew => ?_)
        · exact ⟨cellA hHeld.1 _, hHeld.2.alloc _⟩
        clear hK K hHeld
        have hHeld := hNew
        clear hNew
        try simp only [Act.put, List.setIfInBounds_toArray, List.set_cons_zero, List.set_cons_succ]
        refine wpAnyH_ready (rs := [25]) (by kernel_rfl) (by simp) ?_
        refine AllReadyH.cons rfl (fun K hK => ?_) (AllReadyH.nil)
        go_simp
        refine (piok_is k4 _ _ _ _ p rfl (by simp) (pnews1 we 0) hHeld.2.2.1).mono ?_
        rintro e wf ⟨rfl, bf⟩
        go_wp2_with fail
        refine hK.out _ _ ?_ (fun hNew => ?_)
        · exact ⟨(hHeld.2.below bf).1, hHeld.2.below bf⟩
        clear hK K hHeld
        have hHeld := hNew
        clear hNew
        try simp only [Act.put, List.setIfInBounds_toArray, List.set_cons_zero, List.set_cons_succ]
        refine takeH (i := 26) (v := ?_) rfl rfl (by kernel_rfl) (by kernel_rfl) (by kernel_rfl) (fun _ _ _ h => h) (by rfl) ?_ (by assumption) ?_
        rotate_left 1
        · intro w hSw
          (try dsimp only at hSw)
          go_simp
          try with_reducible rfl
        try simp only [List.setIfInBounds_toArray, List.set_cons_zero, List.set_cons_succ]
        refine takeH (i := 27) (v := ?_) rfl rfl (by kernel_rfl) (by kernel_rfl) (by kernel_rfl) (fun _ _ _ h => h) (by rfl) ?_ (by assumption) ?_
        rotate_left 1
        · intro w hSw
          (try dsimp only at hSw)
          go_simp
          try with_reducible rfl
        try simp only [List.setIfInBounds_toArray, List.set_cons_zero, List.set_cons_succ]
        refine takeH (i := 28) (v := ?_) rfl rfl (by kernel_rfl) (by kernel_rfl) (by kernel_rfl) (fun _ _ _ h => h) (by rfl) ?_ (by assumption) ?_
        rotate_left 1
        · intro w hSw
          (try dsimp only at hSw)
          go_simp
          try with_reducible rfl
        try simp only [List.setIfInBounds_toArray, List.set_cons_zero, List.set_cons_succ]
        refine takeH (i := 29) (v := ?_) rfl rfl (by kernel_rfl) (by kernel_rfl) (by kernel_rfl) (fun _ _ _ h => h) (by rfl) ?_ (by assumption) ?_
        rotate_left 1
        · intro w hSw
          (try dsimp only at hSw)
          go_simp
          try with_reducible rfl
        try simp only [List.setIfInBounds_toArray, List.set_cons_zero, List.set_cons_succ]
        refine takeH (i := 30) (v := ?_) rfl rfl (by kernel_rfl) (by kernel_rfl) (by kernel_rfl) (fun _ _ _ h => h) (by rfl) ?_ (by assumption) ?_
        rotate_left 1
        · intro w hSw
          (try dsimp only at hSw)
          go_simp
          try with_reducible rfl
        try simp only [List.setIfInBounds_toArray, List.set_cons_zero, List.set_cons_succ]
        refine takeH (i := 31) (v := ?_) rfl rfl (by kernel_rfl) (by kernel_rfl) (by kernel_rfl) (fun _ _ _ h => h) (by rfl) ?_ (by assumption) ?_
        rotate_left 1
        · intro w hSw
          (try dsimp only at hSw)
          go_simp
          try with_reducible rfl
        try simp only [List.setIfInBounds_toArray, List.set_cons_zero, List.set_cons_succ]
        refine takeH (i := 32) (v := ?_) rfl rfl (by kernel_rfl) (by kernel_rfl) (by kernel_rfl) (fun _ _ _ h => h) (by rfl) ?_ (by assumption) ?_
        rotate_left 1
        · intro w hSw
          (try dsimp only at hSw)
          go_simp
          try with_reducible rfl
        try simp only [List.setIfInBounds_toArray, List.set_cons_zero, List.set_cons_succ]
        refine takeH (i := 33) (v := ?_) rfl rfl (by kernel_rfl) (by kernel_rfl) (by kernel_rfl) (fun _ _ _ h => h) (by rfl) ?_ (by assumption) ?_
        rotate_left 1
        · intro w hSw
          (try dsimp only at hSw)
          go_simp
          try with_reducible rfl
        try simp only [List.setIfInBounds_toArray, List.set_cons_zero, List.set_cons_succ]
        refine wpAnyH_done (by kernel_rfl) ?_ _
        rotate_left
        go_simp
        refine hK.out _ _ ?_ (fun hNew => ?_)
        · exact ⟨cellA hHeld.1 _, hHeld.2.alloc _⟩
        clear hK K hHeld
        have hHeld := hNew
        clear hNew
        try simp only [Act.put, List.setIfInBounds_toArray, List.set_cons_zero, List.set_cons_succ]
        refine wpAnyH_ready (rs := [13]) (by kernel_rfl) (by simp) ?_
        refine AllReadyH.cons rfl (fun K hK => ?_) (AllReadyH.nil)
        refine wp_appI (.tmp 53) (.tmp 54) rfl wb.heap.size _ [] (by simp [Act.eval]) ((owni_empty wb wb.heap.size (Nat.le_refl _)).alloc (.cells #[.int .i64 x] 3)) _ cd L (by simp [Act.eval]) hHeld.2.2.2.2 hcd (by simp; omega) (by simp only [World.size_alloc]; omega) ?_
        intro v1 wc own1 grow1
        have bc := appi_below (L := []) ((owni_empty wb wb.heap.size (Nat.le_refl _)).alloc (.cells #[.int .i64 x] 3)) grow1 (by simp only [World.size_alloc]; omega)
        have hzc := bc.size
        have ox := World.ownsRow.kept (owni_one (wb.alloc (.cells #[] 3)) (wb.heap.size + 1) (by simp) x) grow1 (.inr (by simp [Value.ownBlock]))
        have tx := (OwnI.intA ox).2.2
        simp only [World.size_alloc] at tx
        clear grow1
        refine hK.out _ _ ?_ (fun hNew => ?_)
        · exact ⟨(hHeld.2.later bc hR1 hR3 hR2).1, hHeld.2.later bc hR1 hR3 hR2⟩
        clear hK K hHeld
        have hHeld := hNew
        clear hNew
        try simp only [Act.put, List.setIfInBounds_toArray, List.set_cons_zero, List.set_cons_succ]
        refine wpAnyH_ready (rs := [19]) (by kernel_rfl) (by simp) ?_
        refine AllReadyH.cons rfl (fun K hK => ?_) (AllReadyH.nil)
        have own1' := own1
        refine wp_appI (.tmp 55) (.tmp 60) rfl wb.heap.size _ ([] ++ L) (by simp [Act.eval]) own1' _ 1 [x] (by simp [Act.eval]) (tx) (by simp) (by simp; omega) (by simp at hzc ⊢; omega) ?_
        intro v2 wd own2 grow2
        have bd2 := appi_below (L := [] ++ L) own1' grow2 (by simp at hzc ⊢; omega)
        have hzd := bd2.size
        obtain ⟨a2, c2, rfl, hc2, t2⟩ := OwnI.tab own2
        clear grow2
        refine hK.out _ _ ?_ (fun hNew => ?_)
        · exact ⟨(hHeld.2.later bd2 hR1 hR3 hR2).1, hHeld.2.later bd2 hR1 hR3 hR2⟩
        clear hK K hHeld
        have hHeld := hNew
        clear hNew
        try simp only [Act.put, List.setIfInBounds_toArray, List.set_cons_zero, List.set_cons_succ]
        refine wpAnyH_ready (rs := [20]) (by kernel_rfl) (by simp) ?_
        refine AllReadyH.cons rfl (fun K hK => ?_) (AllReadyH.nil)
        go_simp
        refine (piok_is k3 _ _ _ _ p (by simp) (by simp; omega) t2 hHeld.2.2.1).mono ?_
        rintro e we ⟨rfl, be⟩
        go_wp2_with fail
        refine hK.out _ _ ?_ (fun hNew => ?_)
        · exact ⟨(hHeld.2.below be).1, hHeld.2.below be⟩
        clear hK K hHeld
        have hHeld := hNew
        clear hNew
        try simp only [Act.put, List.setIfInBounds_toArray, List.set_cons_zero, List.set_cons_succ]
        refine takeH (i := 21) (v := ?_) rfl rfl (by kernel_rfl) (by kernel_rfl) (by kernel_rfl) (fun _ _ _ h => h) (by rfl) ?_ (by assumption) ?_
        rotate_left 1
        · intro w hSw
          (try dsimp only at hSw)
          go_simp
          try with_reducible rfl
        try simp only [List.setIfInBounds_toArray, List.set_cons_zero, List.set_cons_succ]
        refine takeH (i := 22) (v := ?_) rfl rfl (by kernel_rfl) (by kernel_rfl) (by kernel_rfl) (fun _ _ _ h => h) (by rfl) ?_ (by assumption) ?_
        rotate_left 1
        · intro w hSw
          (try dsimp only at hSw)
          go_simp
          try with_reducible rfl
        try simp only [List.setIfInBounds_toArray, List.set_cons_zero, List.set_cons_succ]
        refine takeH (i := 23) (v := ?_) rfl rfl (by kernel_rfl) (by kernel_rfl) (by kernel_rfl) (fun _ _ _ h => h) (by rfl) ?_ (by assumption) ?_
        rotate_left 1
        · intro w hSw
          (try dsimp only at hSw)
          go_simp
          try with_reducible rfl
        try simp only [List.setIfInBounds_toArray, List.set_cons_zero, List.set_cons_succ]
        refine wpAnyH_ready (rs := [24]) (by kernel_rfl) (by simp) ?_
        refine AllReadyH.cons rfl (fun K hK => ?_) (AllReadyH.nil)
        go_simp
        refine hK.out _ _ ?_ (fun hNew => ?_)
        · exact ⟨cellA hHeld.1 _, hHeld.2.alloc _⟩
        clear hK K hHeld
        have hHeld := hNew
        clear hNew
        try simp only [Act.put, List.setIfInBounds_toArray, List.set_cons_zero, List.set_cons_succ]
        refine wpAnyH_ready (rs := [25]) (by kernel_rfl) (by simp) ?_
        refine AllReadyH.cons rfl (fun K hK => ?_) (AllReadyH.nil)
        go_simp
        refine (piok_is k4 _ _ _ _ p rfl (by simp) (pnews1 we 0) hHeld.2.2.1).mono ?_
        rintro e wf ⟨rfl, bf⟩
        go_wp2_with fail
        refine hK.out _ _ ?_ (fun hNew => ?_)
        · exact ⟨(hHeld.2.below bf).1, hHeld.2.below bf⟩
        clear hK K hHeld
        have hHeld := hNew
        clear hNew
        try simp only [Act.put, List.setIfInBounds_toArray, List.set_cons_zero, List.set_cons_succ]
        refine takeH (i := 26) (v := ?_) rfl rfl (by kernel_rfl) (by kernel_rfl) (by kernel_rfl) (fun _ _ _ h => h) (by rfl) ?_ (by assumption) ?_
        rotate_left 1
        · intro w hSw
          (try dsimp only at hSw)
          go_simp
          try with_reducible rfl
        try simp only [List.setIfInBounds_toArray, List.set_cons_zero, List.set_cons_succ]
        refine takeH (i := 27) (v := ?_) rfl rfl (by kernel_rfl) (by kernel_rfl) (by kernel_rfl) (fun _ _ _ h => h) (by rfl) ?_ (by assumption) ?_
        rotate_left 1
        · intro w hSw
          (try dsimp only at hSw)
          go_simp
          try with_reducible rfl
        try simp only [List.setIfInBounds_toArray, List.set_cons_zero, List.set_cons_succ]
        refine takeH (i := 28) (v := ?_) rfl rfl (by kernel_rfl) (by kernel_rfl) (by kernel_rfl) (fun _ _ _ h => h) (by rfl) ?_ (by assumption) ?_
        rotate_left 1
        · intro w hSw
          (try dsimp only at hSw)
          go_simp
          try with_reducible rfl
        try simp only [List.setIfInBounds_toArray, List.set_cons_zero, List.set_cons_succ]
        refine takeH (i := 29) (v := ?_) rfl rfl (by kernel_rfl) (by kernel_rfl) (by kernel_rfl) (fun _ _ _ h => h) (by rfl) ?_ (by assumption) ?_
        rotate_left 1
        · intro w hSw
          (try dsimp only at hSw)
          go_simp
          try with_reducible rfl
        try simp only [List.setIfInBounds_toArray, List.set_cons_zero, List.set_cons_succ]
        refine takeH (i := 30) (v := ?_) rfl rfl (by kernel_rfl) (by kernel_rfl) (by kernel_rfl) (fun _ _ _ h => h) (by rfl) ?_ (by assumption) ?_
        rotate_left 1
        · intro w hSw
          (try dsimp only at hSw)
          go_simp
          try with_reducible rfl
        try simp only [List.setIfInBounds_toArray, List.set_cons_zero, List.set_cons_succ]
        refine takeH (i := 31) (v := ?_) rfl rfl (by kernel_rfl) (by kernel_rfl) (by kernel_rfl) (fun _ _ _ h => h) (by rfl) ?_ (by assumption) ?_
        rotate_left 1
        · intro w hSw
          (try dsimp only at hSw)
          go_simp
          try with_reducible rfl
        try simp only [List.setIfInBounds_toArray, List.set_cons_zero, List.set_cons_succ]
        refine takeH (i := 32) (v := ?_) rfl rfl (by kernel_rfl) (by kernel_rfl) (by kernel_rfl) (fun _ _ _ h => h) (by rfl) ?_ (by assumption) ?_
        rotate_left 1
        · intro w hSw
          (try dsimp only at hSw)
          go_simp
          try with_reducible rfl
        try simp only [List.setIfInBounds_toArray, List.set_cons_zero, List.set_cons_succ]
        refine takeH (i := 33) (v := ?_) rfl rfl (by kernel_rfl) (by kernel_rfl) (by kernel_rfl) (fun _ _ _ h => h) (by rfl) ?_ (by assumption) ?_
        rotate_left 1
        · intro w hSw
          (try dsimp only at hSw)
          go_simp
          try with_reducible rfl
        try simp only [List.setIfInBounds_toArray, List.set_cons_zero, List.set_cons_succ]
        refine wpAnyH_done (by kernel_rfl) ?_ _
        rotate_left
        go_simp
        refine hK.out _ _ ?_ (fun hNew => ?_)
        · exact ⟨cellA hHeld.1 _, hHeld.2.alloc _⟩
        clear hK K hHeld
        have hHeld := hNew
        clear hNew
        try simp only [Act.put, List.setIfInBounds_toArray, List.set_cons_zero, List.set_cons_succ]
        refine wpAnyH_ready (rs := [11]) (by kernel_rfl) (by simp) ?_
        refine AllReadyH.cons rfl (fun K hK => ?_) (AllReadyH.nil)
        go_simp
        refine hK.out _ _ ?_ (fun hNew => ?_)
        · exact ⟨cellA hHeld.1 _, hHeld.2.alloc _⟩
        clear hK K hHeld
        have hHeld := hNew
        clear hNew
        try simp only [Act.put, List.setIfInBounds_toArray, List.set_cons_zero, List.set_cons_succ]
        refine wpAnyH_ready (rs := [13]) (by kernel_rfl) (by simp) ?_
        refine AllReadyH.cons rfl (fun K hK => ?_) (AllReadyH.nil)
        refine wp_appI (.tmp 53) (.tmp 54) rfl wb.heap.size _ [] (by simp [Act.eval]) (owni_empty (wb.alloc (.cells #[.int .i64 x] 3)) wb.heap.size (by simp)) _ cd L (by simp [Act.eval]) hHeld.2.2.2.2 hcd (by simp; omega) (by simp only [World.size_alloc]; omega) ?_
        intro v1 wc own1 grow1
        have bc := appi_below (L := []) (owni_empty (wb.alloc (.cells #[.int .i64 x] 3)) wb.heap.size (by simp)) grow1 (by simp only [World.size_alloc]; omega)
        have hzc := bc.size
        have ox := World.ownsRow.kept ((owni_one wb wb.heap.size (Nat.le_refl _) x).alloc (.cells #[] 3)) grow1 (.inr (by simp [Value.ownBlock]))
        have tx := (OwnI.intA ox).2.2
        clear grow1
        refine hK.out _ _ ?_ (fun hNew => ?_)
        · exact ⟨(hHeld.2.later bc hR1 hR3 hR2).1, hHeld.2.later bc hR1 hR3 hR2⟩
        clear hK K hHeld
        have hHeld := hNew
        clear hNew
        try simp only [Act.put, List.setIfInBounds_toArray, List.set_cons_zero, List.set_cons_succ]
        refine wpAnyH_ready (rs := [19]) (by kernel_rfl) (by simp) ?_
        refine AllReadyH.cons rfl (fun K hK => ?_) (AllReadyH.nil)
        have own1' := own1
        refine wp_appI (.tmp 55) (.tmp 60) rfl wb.heap.size _ ([] ++ L) (by simp [Act.eval]) own1' _ 1 [x] (by simp [Act.eval]) (tx) (by simp) (by simp; omega) (by simp at hzc ⊢; omega) ?_
        intro v2 wd own2 grow2
        have bd2 := appi_below (L := [] ++ L) own1' grow2 (by simp at hzc ⊢; omega)
        have hzd := bd2.size
        obtain ⟨a2, c2, rfl, hc2, t2⟩ := OwnI.tab own2
        clear grow2
        refine hK.out _ _ ?_ (fun hNew => ?_)
        · exact ⟨(hHeld.2.later bd2 hR1 hR3 hR2).1, hHeld.2.later bd2 hR1 hR3 hR2⟩
        clear hK K hHeld
        have hHeld := hNew
        clear hNew
        try simp only [Act.put, List.setIfInBounds_toArray, List.set_cons_zero, List.set_cons_succ]
        refine wpAnyH_ready (rs := [20]) (by kernel_rfl) (by simp) ?_
        refine AllReadyH.cons rfl (fun K hK => ?_) (AllReadyH.nil)
        go_simp
        refine (piok_is k3 _ _ _ _ p (by simp) (by simp; omega) t2 hHeld.2.2.1).mono ?_
        rintro e we ⟨rfl, be⟩
        go_wp2_with fail
        refine hK.out _ _ ?_ (fun hNew => ?_)
        · exact ⟨(hHeld.2.below be).1, hHeld.2.below be⟩
        clear hK K hHeld
        have hHeld := hNew
        clear hNew
        try simp only [Act.put, List.setIfInBounds_toArray, List.set_cons_zero, List.set_cons_succ]
        refine takeH (i := 21) (v := ?_) rfl rfl (by kernel_rfl) (by kernel_rfl) (by kernel_rfl) (fun _ _ _ h => h) (by rfl) ?_ (by assumption) ?_
        rotate_left 1
        · intro w hSw
          (try dsimp only at hSw)
          go_simp
          try with_reducible rfl
        try simp only [List.setIfInBounds_toArray, List.set_cons_zero, List.set_cons_succ]
        refine takeH (i := 22) (v := ?_) rfl rfl (by kernel_rfl) (by kernel_rfl) (by kernel_rfl) (fun _ _ _ h => h) (by rfl) ?_ (by assumption) ?_
        rotate_left 1
        · intro w hSw
          (try dsimp only at hSw)
          go_simp
          try with_reducible rfl
        try simp only [List.setIfInBounds_toArray, List.set_cons_zero, List.set_cons_succ]
        refine takeH (i := 23) (v := ?_) rfl rfl (by kernel_rfl) (by kernel_rfl) (by kernel_rfl) (fun _ _ _ h => h) (by rfl) ?_ (by assumption) ?_
        rotate_left 1
        · intro w hSw
          (try dsimp only at hSw)
          go_simp
          try with_reducible rfl
        try simp only [List.setIfInBounds_toArray, List.set_cons_zero, List.set_cons_succ]
        refine wpAnyH_ready (rs := [24]) (by kernel_rfl) (by simp) ?_
        refine AllReadyH.cons rfl (fun K hK => ?_) (AllReadyH.nil)
        go_simp
        refine hK.out _ _ ?_ (fun hNew => ?_)
        · exact ⟨cellA hHeld.1 _, hHeld.2.alloc _⟩
        clear hK K hHeld
        have hHeld := hNew
        clear hNew
        try simp only [Act.put, List.setIfInBounds_toArray, List.set_cons_zero, List.set_cons_succ]
        refine wpAnyH_ready (rs := [25]) (by kernel_rfl) (by simp) ?_
        refine AllReadyH.cons rfl (fun K hK => ?_) (AllReadyH.nil)
        go_simp
        refine (piok_is k4 _ _ _ _ p rfl (by simp) (pnews1 we 0) hHeld.2.2.1).mono ?_
        rintro e wf ⟨rfl, bf⟩
        go_wp2_with fail
        refine hK.out _ _ ?_ (fun hNew => ?_)
        · exact ⟨(hHeld.2.below bf).1, hHeld.2.below bf⟩
        clear hK K hHeld
        have hHeld := hNew
        clear hNew
        try simp only [Act.put, List.setIfInBounds_toArray, List.set_cons_zero, List.set_cons_succ]
        refine takeH (i := 26) (v := ?_) rfl rfl (by kernel_rfl) (by kernel_rfl) (by kernel_rfl) (fun _ _ _ h => h) (by rfl) ?_ (by assumption) ?_
        rotate_left 1
        · intro w hSw
          (try dsimp only at hSw)
          go_simp
          try with_reducible rfl
        try simp only [List.setIfInBounds_toArray, List.set_cons_zero, List.set_cons_succ]
        refine takeH (i := 27) (v := ?_) rfl rfl (by kernel_rfl) (by kernel_rfl) (by kernel_rfl) (fun _ _ _ h => h) (by rfl) ?_ (by assumption) ?_
        rotate_left 1
        · intro w hSw
          (try dsimp only at hSw)
          go_simp
          try with_reducible rfl
        try simp only [List.setIfInBounds_toArray, List.set_cons_zero, List.set_cons_succ]
        refine takeH (i := 28) (v := ?_) rfl rfl (by kernel_rfl) (by kernel_rfl) (by kernel_rfl) (fun _ _ _ h => h) (by rfl) ?_ (by assumption) ?_
        rotate_left 1
        · intro w hSw
          (try dsimp only at hSw)
          go_simp
          try with_reducible rfl
        try simp only [List.setIfInBounds_toArray, List.set_cons_zero, List.set_cons_succ]
        refine takeH (i := 29) (v := ?_) rfl rfl (by kernel_rfl) (by kernel_rfl) (by kernel_rfl) (fun _ _ _ h => h) (by rfl) ?_ (by assumption) ?_
        rotate_left 1
        · intro w hSw
          (try dsimp only at hSw)
          go_simp
          try with_reducible rfl
        try simp only [List.setIfInBounds_toArray, List.set_cons_zero, List.set_cons_succ]
        refine takeH (i := 30) (v := ?_) rfl rfl (by kernel_rfl) (by kernel_rfl) (by kernel_rfl) (fun _ _ _ h => h) (by rfl) ?_ (by assumption) ?_
        rotate_left 1
        · intro w hSw
          (try dsimp only at hSw)
          go_simp
          try with_reducible rfl
        try simp only [List.setIfInBounds_toArray, List.set_cons_zero, List.set_cons_succ]
        refine takeH (i := 31) (v := ?_) rfl rfl (by kernel_rfl) (by kernel_rfl) (by kernel_rfl) (fun _ _ _ h => h) (by rfl) ?_ (by assumption) ?_
        rotate_left 1
        · intro w hSw
          (try dsimp only at hSw)
          go_simp
          try with_reducible rfl
        try simp only [List.setIfInBounds_toArray, List.set_cons_zero, List.set_cons_succ]
        refine takeH (i := 32) (v := ?_) rfl rfl (by kernel_rfl) (by kernel_rfl) (by kernel_rfl) (fun _ _ _ h => h) (by rfl) ?_ (by assumption) ?_
        rotate_left 1
        · intro w hSw
          (try dsimp only at hSw)
          go_simp
          try with_reducible rfl
        try simp only [List.setIfInBounds_toArray, List.set_cons_zero, List.set_cons_succ]
        refine takeH (i := 33) (v := ?_) rfl rfl (by kernel_rfl) (by kernel_rfl) (by kernel_rfl) (fun _ _ _ h => h) (by rfl) ?_ (by assumption) ?_
        rotate_left 1
        · intro w hSw
          (try dsimp only at hSw)
          go_simp
          try with_reducible rfl
        try simp only [List.setIfInBounds_toArray, List.set_cons_zero, List.set_cons_succ]
        refine wpAnyH_done (by kernel_rfl) ?_ _
        rotate_left
      all_goals
        have HG := Lib.hid hHeld.2.2.2.1
        clear hHeld
        go_wp2_with fail
        go_ret
        exact ⟨rfl, HG.out⟩

end Go.Proofs.YtnabcffpficgcaaDoor
