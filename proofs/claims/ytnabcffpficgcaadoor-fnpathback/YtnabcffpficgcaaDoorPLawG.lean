/-
  The laws on reading paths: exact, read back, written in one way.
-/
import Derived.Test.YtnabcffpficgcaaDoorPReadI
import Derived.Test.YtnabcffpficgcaaDoorPLawA
namespace Go.Proofs.YtnabcffpficgcaaDoor
open Go.RowKit
set_option linter.unusedSimpArgs false
set_option linter.unusedVariables false

theorem rtrack_is (s : ByteArray) (w : World) (p : Addr) (hz : s.size ≤ 1048576) (hE : EV w p) (hX : PErrs w) (hM : MaxI w) : Calls Tryd.prog 50 #[.string s] w (RTrk w p s) := by
  by_cases hd : s = ⟨#[46]⟩
  · subst hd; exact rtrack_point w p
  · exact rtrack_rest s hd w p hz hE hX hM
set_option maxRecDepth 100000 in
set_option maxHeartbeats 1000000 in
theorem iread_is {s : ByteArray} {r : List Int × Bool} (k : pread s = r) (w : World) (p : Addr) (hz : s.size ≤ 1048576) (hE : EV w p) (hX : PErrs w) (hM : MaxI w) :
    Calls Tryd.prog 31 #[.string s] w (OwnA w r) := by
  have K := Lib.hid k
  have HE := Lib.hid hE
  have HX := Lib.hid (And.intro hX hM)
  clear k hE hX hM
  go_enter Tryd.func31, Tryd.ntmps31
  go_wp2_with fail
  refine (rtrack_is s _ p hz HE.out HX.out.1 HX.out.2).mono ?_
  rintro e w1 (⟨L, hp, hs, v, rfl, ho, hb⟩ | ⟨hn, rfl, hb⟩)
  · obtain rfl : r = (L, true) := by rw [← K.out, hs, pread_yes hp]
    obtain ⟨a2, c2, rfl, hc2, hI2⟩ := OwnI.tab ho
    have hE1 := (HE.out.below hb).alloc (.cells #[.int .u64 (bitsH L : Int), .slice a2 L.length c2] 46)
    have hT := AtV.new w1 (.int .u64 (bitsH L : Int)) (.slice a2 L.length c2) 46
    have HF := Lib.hid (And.intro (ho.alloc (.cells #[.int .u64 (bitsH L : Int), .slice a2 L.length c2] 46)) (hb.alloc hb.size (.cells #[.int .u64 (bitsH L : Int), .slice a2 L.length c2] 46)))
    obtain ⟨x0, x1, _, _⟩ := hT
    unfold EV at hE1
    clear ho hb hI2 hs hp
    go_wp2_with fail
    refine (is_nil p _).mono ?_
    rintro e w2 ⟨rfl, rfl⟩
    go_wp2_with fail
    go_ret2
    exact ⟨_, rfl, HF.out.1, HF.out.2⟩
  · obtain rfl : r = ([], false) := by rw [← K.out, pread_no hn]
    have hE1 := (HE.out.below hb).alloc (.cells #[zT, zS] 46)
    have HF := Lib.hid (hb.alloc hb.size (.cells #[zT, zS] 46))
    unfold EV at hE1
    clear hb hn
    go_wp2_with fail
    refine (is_same p _).mono ?_
    rintro e w2 ⟨rfl, rfl⟩
    go_wp2_with fail
    go_ret2
    exact ⟨_, rfl, owni_nil _ _, HF.out⟩

/-! a drawn text -/
def pWord (w : World) (B p : Nat) (e : Ending) (w' : World) : Prop := ∃ t : ByteArray, t.size ≤ 100 ∧ e = .returned (.string t) ∧ Rd w' B (p + 1) ∧ w.grownBy w' (some B)
set_option maxHeartbeats 400000 in
theorem pof_any (n L : Nat) (w : World) (B p : Nat) (h1 : 1 ≤ n) (h5 : n ≤ 5) (hp : p < 1000000) (hr : Rd w B p) (hL : L ≠ B) (hc : ∀ i, i < n → ∃ t : ByteArray, t.size ≤ 100 ∧ w.cell? ⟨L, i, none⟩ = some (.string t)) :
    Calls Tryd.prog 57 #[.pointer (some ⟨B, 0, none⟩), .slice (some ⟨L, 0, none⟩) n n] w (pWord w B p) := by
  have HC := Lib.hid hc
  clear hc
  go_enter Tryd.func57, Tryd.ntmps57
  go_wp2_with fail
  refine (pick_any n w B p (by omega) hp hr).mono ?_
  rintro e w1 ⟨x, x0, x1, rfl, hr1, hg1⟩
  obtain ⟨k, rfl⟩ := Int.eq_ofNat_of_zero_le x0
  obtain ⟨t, ht, hct⟩ := HC.out k (by omega)
  have c1 := only_cell hg1 hct hL
  clear hct
  go_wp2
  go_ret
  exact ⟨t, ht, rfl, hr1, hg1⟩
theorem pcells4 (w : World) : ∀ i, i < 4 → ∃ t : ByteArray, t.size ≤ 100 ∧ (w.alloc (.cells #[.string ⟨#[49]⟩, .string ⟨#[45]⟩, .string ⟨#[46]⟩, .string ⟨#[54]⟩] 9)).cell? ⟨w.heap.size, i, none⟩ = some (.string t)
  | 0, _ => ⟨⟨#[49]⟩, by decide, by simp⟩
  | 1, _ => ⟨⟨#[45]⟩, by decide, by simp⟩
  | 2, _ => ⟨⟨#[46]⟩, by decide, by simp⟩
  | 3, _ => ⟨⟨#[54]⟩, by decide, by simp⟩
theorem ptext_short (L : List Int) : (ptext L).size ≤ 100 := by
  by_cases h : Path L
  · have := ptext_size h; omega
  · rw [ptext_no (pOk_no h)]; decide
set_option maxHeartbeats 1000000 in
theorem dPathRead_any (a : Option Addr) (len cap : Nat) (zs : List Int) (w : World) (h : IsRow w a len cap zs) :
    Calls Tryd.prog 36 #[.slice a len cap] w fun e w' => ∃ t : ByteArray, t.size ≤ 1000 ∧ e = .returned (.string t) ∧ Below w.heap.size w w' := by
  have H := Lib.hid h
  clear h
  go_enter Tryd.func36, Tryd.ntmps36
  go_wp2_with fail
  refine (open_any a len cap zs _ H.out).mono ?_
  rintro e w1 ⟨rfl, hr1, hb1⟩
  go_wp2_with fail
  refine (path_any _ _ 0 (by omega) hr1).mono ?_
  rintro e w2 ⟨v, L, p', rfl, hl6, ho2, hr2, hp2, hg2⟩
  obtain ⟨a2, c2, rfl, hc2, hI2⟩ := OwnI.tab ho2
  go_wp2_with fail
  refine (stext_is rfl a2 c2 _ _ rfl hI2 hc2 (by omega)).mono ?_
  rintro e w3 ⟨rfl, hb3⟩
  have hz := ptext_short L
  generalize ptext L = s at *
  have hr3 := rd_below hr2 hb3
  have B3 : Below w.heap.size w w3 := next (below_only hb1 hg2 hb1.size (Nat.le_refl _)) hb3
  clear hr2 hb3 hg2 hr1 hb1 ho2 hI2
  go_wp2_with fail
  refine (pick_any _ _ _ _ (by omega) (by omega) hr3).mono ?_
  rintro e w4 ⟨x, x0, x1, rfl, hr4, hg4⟩
  replace B3 := below_only B3 hg4 B3.size (Nat.le_refl _)
  clear hr3 hg4
  go_wp2_with fail
  refine (pick_any _ _ _ _ (by omega) (by omega) hr4).mono ?_
  rintro e w5 ⟨y, y0, y1, rfl, hr5, hg5⟩
  replace B3 := below_only B3 hg5 B3.size (Nat.le_refl _)
  clear hr4 hg5
  have hL5 := rd_lt hr5
  obtain ⟨k, rfl⟩ := Int.eq_ofNat_of_zero_le x0
  have hk : k ≤ s.size := by omega
  by_cases e0 : y = 0
  · subst e0
    go_wp2
    go_ret
    exact ⟨_, by simp; omega, rfl, B3⟩
  by_cases e1 : y = 1
  · subst e1
    go_wp2_with fail
    refine wp_region_held_drew (S := fun w' => Below w.heap.size w w') (by kernel_rfl) ?_ (fun hHeld => ?_)
    · exact B3.drew
    refine takeH (i := 0) (v := ?_) rfl rfl (by kernel_rfl) (by kernel_rfl) (by kernel_rfl) (fun _ _ _ h => h) (by rfl) ?_ (by assumption) ?_
    rotate_left 1
    · intro w hSw
      (try dsimp only at hSw)
      go_simp
      try with_reducible rfl
    try simp only [List.setIfInBounds_toArray, List.set_cons_zero, List.set_cons_succ]
    refine takeH (i := 1) (v := ?_) rfl rfl (by kernel_rfl) (by kernel_rfl) (by kernel_rfl) (fun _ _ _ h => h) (by rfl) ?_ (by assumption) ?_
    rotate_left 1
    · intro w hSw
      (try dsimp only at hSw)
      go_simp
      try with_reducible rfl
    try simp only [List.setIfInBounds_toArray, List.set_cons_zero, List.set_cons_succ]
    refine takeH (i := 2) (v := ?_) rfl rfl (by kernel_rfl) (by kernel_rfl) (by kernel_rfl) (fun _ _ _ h => h) (by rfl) ?_ (by assumption) ?_
    rotate_left 1
    · intro w hSw
      (try dsimp only at hSw)
      go_simp
      try with_reducible rfl
    try simp only [List.setIfInBounds_toArray, List.set_cons_zero, List.set_cons_succ]
    refine takeH (i := 3) (v := ?_) rfl rfl (by kernel_rfl) (by kernel_rfl) (by kernel_rfl) (fun _ _ _ h => h) (by rfl) ?_ (by assumption) ?_
    rotate_left 1
    · intro w hSw
      (try dsimp only at hSw)
      go_simp
      try with_reducible rfl
    try simp only [List.setIfInBounds_toArray, List.set_cons_zero, List.set_cons_succ]
    refine takeH (i := 7) (v := ?_) rfl rfl (by kernel_rfl) (by kernel_rfl) (by kernel_rfl) (fun _ _ _ h => h) (by rfl) ?_ (by assumption) ?_
    rotate_left 1
    · intro w hSw
      (try dsimp only at hSw)
      go_simp
      try with_reducible rfl
    try simp only [List.setIfInBounds_toArray, List.set_cons_zero, List.set_cons_succ]
    refine takeH (i := 8) (v := ?_) rfl rfl (by kernel_rfl) (by kernel_rfl) (by kernel_rfl) (fun _ _ _ h => h) (by rfl) ?_ (by assumption) ?_
    rotate_left 1
    · intro w hSw
      (try dsimp only at hSw)
      go_simp
      try with_reducible rfl
    try simp only [List.setIfInBounds_toArray, List.set_cons_zero, List.set_cons_succ]
    refine takeH (i := 9) (v := ?_) rfl rfl (by kernel_rfl) (by kernel_rfl) (by kernel_rfl) (fun _ _ _ h => h) (by rfl) ?_ (by assumption) ?_
    rotate_left 1
    · intro w hSw
      (try dsimp only at hSw)
      go_simp
      try with_reducible rfl
    try simp only [List.setIfInBounds_toArray, List.set_cons_zero, List.set_cons_succ]
    refine wpAnyH_ready (rs := [4]) (by kernel_rfl) (by simp) ?_
    refine AllReadyH.cons rfl (fun K hK => ?_) (AllReadyH.nil)
    go_simp
    refine hK.out _ _ ?_ (fun hNew => ?_)
    · exact hHeld.alloc hHeld.size _
    clear hK K hHeld
    have hHeld := hNew
    clear hNew
    try simp only [Act.put, List.setIfInBounds_toArray, List.set_cons_zero, List.set_cons_succ]
    refine wpAnyH_ready (rs := [5]) (by kernel_rfl) (by simp) ?_
    refine AllReadyH.cons rfl (fun K hK => ?_) (AllReadyH.nil)
    go_simp
    refine (pof_any 4 _ _ _ _ (by omega) (by omega) (by omega) (rd_drew (rd_alloc hr5 _)) (by omega) (pcells4 w5)).mono ?_
    rintro e w6 ⟨t, ht, rfl, _, hg6⟩
    go_wp2_with fail
    refine hK.out _ _ ?_ (fun hNew => ?_)
    · exact below_only hHeld hg6 hHeld.size (Nat.le_refl _)
    clear hK K hHeld
    have hHeld := hNew
    clear hNew
    try simp only [Act.put, List.setIfInBounds_toArray, List.set_cons_zero, List.set_cons_succ]
    refine takeH (i := 6) (v := ?_) rfl rfl (by kernel_rfl) (by kernel_rfl) (by kernel_rfl) (fun _ _ _ h => h) (by rfl) ?_ (by assumption) ?_
    rotate_left 1
    · intro w hSw
      (try dsimp only at hSw)
      go_simp
      rw [if_neg (by omega)]
      try with_reducible rfl
    try simp only [List.setIfInBounds_toArray, List.set_cons_zero, List.set_cons_succ]
    refine takeH (i := 10) (v := ?_) rfl rfl (by kernel_rfl) (by kernel_rfl) (by kernel_rfl) (fun _ _ _ h => h) (by rfl) ?_ (by assumption) ?_
    rotate_left 1
    · intro w hSw
      (try dsimp only at hSw)
      go_simp
      rw [if_neg (by omega)]
      try with_reducible rfl
    try simp only [List.setIfInBounds_toArray, List.set_cons_zero, List.set_cons_succ]
    refine takeH (i := 11) (v := ?_) rfl rfl (by kernel_rfl) (by kernel_rfl) (by kernel_rfl) (fun _ _ _ h => h) (by rfl) ?_ (by assumption) ?_
    rotate_left 1
    · intro w hSw
      (try dsimp only at hSw)
      go_simp
      try with_reducible rfl
    try simp only [List.setIfInBounds_toArray, List.set_cons_zero, List.set_cons_succ]
    refine wpAnyH_done (by kernel_rfl) ?_ _
    go_wp2
    go_ret
    exact ⟨s.extract 0 k ++ t ++ s.extract k s.size, by simp only [ByteArray.size_append, ByteArray.size_extract]; omega, rfl, hHeld⟩
  go_wp2
  go_ret
  exact ⟨s, by omega, rfl, B3⟩

set_option maxRecDepth 100000 in
set_option maxHeartbeats 4000000 in
theorem exactPathRead_walk (s : ByteArray) (w : World) (_ : s.size ≤ maxLen) (p : Addr) (hE : EV w p) (hX : PErrs w ∧ MaxI w) :
    Calls Tryd.prog 7 #[.string s] w fun e w' => e = .returned (.bool true) ∧ Below w.heap.size w w' := by
  have HE := Lib.hid hE
  have HX := Lib.hid hX
  clear hE hX
  by_cases hl : 1048576 < s.size
  · go_enter Tryd.func7, Tryd.ntmps7
    go_wp2_with fail
    go_ret
    exact ⟨rfl, Below.refl _ _⟩
  have HB0 := Lib.hid (Below.refl w.heap.size w)
  obtain ⟨U, u, hU⟩ : ∃ U u, pread s = (U, u) := ⟨_, _, rfl⟩
  have hUl : U.length ≤ 5 := by have := pread_len s; rw [hU] at this; exact this
  have HU := Lib.hid hU
  have huu : (u != u) = false := by simp
  have hue : (u == u) = true := by simp
  clear hU
  go_enter Tryd.func7, Tryd.ntmps7
  go_wp2_with fail
  refine (sread_is HU.out _ (by omega)).mono ?_
  rintro e w1 ⟨v, rfl, o, b⟩
  have HB1 := Lib.hid (HB0.out.trans (b.mono HB0.out.size))
  have hs1 := Lib.hid b.size
  obtain ⟨aw, cw, rfl, hcw, tw⟩ := OwnI.tab o
  have Bw := Lib.hid (OwnI.btw o)
  have Ow_1 := Lib.hid o
  clear tw hcw
  clear b o
  go_wp2_with fail
  refine (iread_is HU.out _ p (by omega) (HE.out.below HB1.out) (HX.out.1.on HB1.out (Nat.le_refl _)) (HX.out.2.below HB1.out)).mono ?_
  rintro e w2 ⟨v, rfl, o, b⟩
  have HB2 := Lib.hid (HB1.out.trans (b.mono HB1.out.size))
  have hs2 := Lib.hid b.size
  have Ow_2 := Lib.hid (owni_later Ow_1.out b)
  obtain ⟨ag, cg, rfl, hcg, tg⟩ := OwnI.tab o
  have Bg := Lib.hid (OwnI.btw o)
  have Og_2 := Lib.hid o
  clear tg hcg
  clear b o
  go_wp2_with fail
  refine (eqI_is (show decide (U = U) = true from decide_eq_true rfl) ag aw cg cw _ _ _ rfl rfl (OwnI.intA Og_2.out).2.2 (OwnI.intA Ow_2.out).2.2 (by omega) (by omega)).mono ?_
  rintro e w3 ⟨rfl, b⟩
  have HB3 := Lib.hid (HB2.out.trans (b.mono HB2.out.size))
  have hs3 := Lib.hid b.size
  have Ow_3 := Lib.hid (owni_later Ow_2.out b)
  have Og_3 := Lib.hid (owni_later Og_2.out b)
  clear b
  go_wp2_with fail
  refine (pmark_any _ (U) _ _ Og_3.out (by omega)).mono ?_
  rintro e w4 ⟨rfl, o, g⟩
  have HB4 := Lib.hid (HB3.out.grown g HB3.out.size (fun k e => Nat.le_trans HB1.out.size (Bg.out k e).1))
  have hs4 := Lib.hid g.size
  have Ow_4 := Lib.hid (World.ownsRow.kept Ow_3.out g (pBtw.apart Bw.out Bg.out (by have := hs1.out; have := hs2.out; have := hs3.out; omega)))
  have Og_4 := Lib.hid o
  clear o g
  go_wp2_with fail
  refine (pheld_any _ _ _ _ ((OwnI.intA Og_4.out).2.2) (by omega)).mono ?_
  rintro e w0 ⟨rfl, rfl⟩
  have hnu : ¬ ((U.length : Int) + 1 < 0) := by omega
  have heu : ((U.length : Int) + 1 != (U.length : Int) + 1) = false := by simp
  go_wp2_with fail
  refine (iread_is HU.out _ p (by omega) (HE.out.below HB4.out) (HX.out.1.on HB4.out (Nat.le_refl _)) (HX.out.2.below HB4.out)).mono ?_
  rintro e w5 ⟨v, rfl, o, b⟩
  have HB5 := Lib.hid (HB4.out.trans (b.mono HB4.out.size))
  have hs5 := Lib.hid b.size
  have Ow_5 := Lib.hid (owni_later Ow_4.out b)
  have Og_5 := Lib.hid (owni_later Og_4.out b)
  obtain ⟨ah, ch, rfl, hch, th⟩ := OwnI.tab o
  have Bh := Lib.hid (OwnI.btw o)
  have Oh_5 := Lib.hid o
  clear th hch
  clear b o
  go_wp2_with fail
  refine (eqI_is (show decide (U = U) = true from decide_eq_true rfl) ah aw ch cw _ _ _ rfl rfl (OwnI.intA Oh_5.out).2.2 (OwnI.intA Ow_5.out).2.2 (by omega) (by omega)).mono ?_
  rintro e w6 ⟨rfl, b⟩
  have HB6 := Lib.hid (HB5.out.trans (b.mono HB5.out.size))
  have hs6 := Lib.hid b.size
  have Ow_6 := Lib.hid (owni_later Ow_5.out b)
  have Og_6 := Lib.hid (owni_later Og_5.out b)
  have Oh_6 := Lib.hid (owni_later Oh_5.out b)
  clear b
  go_wp2_with fail
  refine (pheld_any _ _ _ _ ((OwnI.intA Og_6.out).2.2) (by omega)).mono ?_
  rintro e w0 ⟨rfl, rfl⟩
  go_wp2_with fail
  go_ret
  exact ⟨rfl, HB6.out⟩

set_option maxRecDepth 100000 in
set_option maxHeartbeats 1000000 in
theorem lawPathBack (a0 : Option Addr) (len0 cap0 : Nat) (zs0 : List Int) (w : World) (h0 : IsRow w a0 len0 cap0 zs0) (p : Addr) (hE : EV w p) (hX : PErrs w ∧ MaxI w) :
    Calls Tryd.prog 9 #[.slice a0 len0 cap0] w fun e w' => e = .returned (.bool true) ∧ Below w.heap.size w w' := by
  have H0 := Lib.hid h0
  have HE := Lib.hid hE
  have HX := Lib.hid hX
  clear h0 hE hX
  by_cases hl0 : (1048576 : Int) < (len0 : Int)
  · go_enter Tryd.func9, Tryd.ntmps9
    go_wp2_with fail
    go_ret
    exact ⟨rfl, Below.refl _ _⟩
  have HB0 := Lib.hid (Below.refl w.heap.size w)
  go_enter Tryd.func9, Tryd.ntmps9
  go_wp2_with fail
  refine (dPathText_any a0 len0 cap0 zs0 _ (isrow_later H0.out HB0.out)).mono ?_
  rintro e w1 ⟨v, L, rfl, hl6, o, b⟩
  have HB1 := Lib.hid (HB0.out.trans (b.mono HB0.out.size))
  have hs1 := Lib.hid b.size
  obtain ⟨ad, cd, rfl, hcd, td⟩ := OwnI.tab o
  have Bd := Lib.hid (OwnI.btw o)
  have Od_1 := Lib.hid o
  clear td hcd
  clear b o
  generalize hU : ptext L = s
  have HU := Lib.hid hU
  have hsz : s.size ≤ 100 := by rw [← hU]; exact ptext_short L
  have hse : (s.toList == s.toList) = true := by simp
  have hsn : (s.toList != s.toList) = false := by simp
  clear hU
  go_wp2_with fail
  refine (itext_is HU.out ad cd _ _ p rfl (by omega) (OwnI.intA Od_1.out).2.2 (HE.out.below HB1.out)).mono ?_
  rintro e w2 ⟨rfl, b⟩
  have HB2 := Lib.hid (HB1.out.trans (b.mono HB1.out.size))
  have hs2 := Lib.hid b.size
  have Od_2 := Lib.hid (owni_later Od_1.out b)
  clear b
  go_wp2_with fail
  refine (stext_is HU.out ad cd _ _ rfl (OwnI.intA Od_2.out).2.2 (OwnI.intA Od_2.out).2.1 (by omega)).mono ?_
  rintro e w3 ⟨rfl, b⟩
  have HB3 := Lib.hid (HB2.out.trans (b.mono HB2.out.size))
  have hs3 := Lib.hid b.size
  have Od_3 := Lib.hid (owni_later Od_2.out b)
  clear b
  by_cases hp : Path L
  · have HP := Lib.hid hp
    have hne : (s.toList == ([] : List UInt8)) = false := empty_ne (by have := ptext_pos hp; rw [HU.out] at this; omega)
    have HV : Hid (pread s = (L, true)) := Lib.hid (by rw [← HU.out]; exact pread_yes hp)
    have ho : pOk L = true := pOk_yes hp
    clear hp
    go_wp2_with fail
    refine (iread_is HV.out _ p (by omega) (HE.out.below HB3.out) (HX.out.1.on HB3.out (Nat.le_refl _)) (HX.out.2.below HB3.out)).mono ?_
    rintro e w4 ⟨v, rfl, o, b⟩
    have HB4 := Lib.hid (HB3.out.trans (b.mono HB3.out.size))
    have hs4 := Lib.hid b.size
    have Od_4 := Lib.hid (owni_later Od_3.out b)
    obtain ⟨aq, cq, rfl, hcq, tq⟩ := OwnI.tab o
    have Bq := Lib.hid (OwnI.btw o)
    have Oq_4 := Lib.hid o
    clear tq hcq
    clear b o
    go_wp2_with fail
    refine (lyI_is (show decide (L = L) = true from decide_eq_true rfl) aq ad cq cd _ _ _ rfl rfl (OwnI.intA Oq_4.out).2.2 (OwnI.intA Od_4.out).2.2 (by omega) (by omega)).mono ?_
    rintro e w5 ⟨rfl, b⟩
    have HB5 := Lib.hid (HB4.out.trans (b.mono HB4.out.size))
    have hs5 := Lib.hid b.size
    have Od_5 := Lib.hid (owni_later Od_4.out b)
    have Oq_5 := Lib.hid (owni_later Oq_4.out b)
    clear b
    go_wp2_with fail
    refine (piok_is ho ad cd _ _ p rfl (by omega) (OwnI.intA Od_5.out).2.2 (HE.out.below HB5.out)).mono ?_
    rintro e w6 ⟨rfl, b⟩
    have HB6 := Lib.hid (HB5.out.trans (b.mono HB5.out.size))
    have hs6 := Lib.hid b.size
    have Od_6 := Lib.hid (owni_later Od_5.out b)
    have Oq_6 := Lib.hid (owni_later Oq_5.out b)
    clear b
    go_wp2_with fail
    go_ret
    exact ⟨rfl, HB6.out⟩
  · obtain rfl : s = ⟨#[]⟩ := by rw [← HU.out]; exact ptext_no (pOk_no hp)
    have HP := Lib.hid hp
    clear hp
    go_wp2_with fail
    refine (stext_is HU.out ad cd _ _ rfl (OwnI.intA Od_3.out).2.2 (OwnI.intA Od_3.out).2.1 (by omega)).mono ?_
    rintro e w4 ⟨rfl, b⟩
    have HB4 := Lib.hid (HB3.out.trans (b.mono HB3.out.size))
    have hs4 := Lib.hid b.size
    have Od_4 := Lib.hid (owni_later Od_3.out b)
    clear b
    go_wp2_with fail
    go_ret
    exact ⟨rfl, HB4.out⟩

set_option maxRecDepth 100000 in
set_option maxHeartbeats 1000000 in
theorem lawPathStrict (a0 : Option Addr) (len0 cap0 : Nat) (zs0 : List Int) (w : World) (h0 : IsRow w a0 len0 cap0 zs0) (p : Addr) (hE : EV w p) (hX : PErrs w ∧ MaxI w) :
    Calls Tryd.prog 10 #[.slice a0 len0 cap0] w fun e w' => e = .returned (.bool true) ∧ Below w.heap.size w w' := by
  have H0 := Lib.hid h0
  have HE := Lib.hid hE
  have HX := Lib.hid hX
  clear h0 hE hX
  by_cases hl0 : (1048576 : Int) < (len0 : Int)
  · go_enter Tryd.func10, Tryd.ntmps10
    go_wp2_with fail
    go_ret
    exact ⟨rfl, Below.refl _ _⟩
  have HB0 := Lib.hid (Below.refl w.heap.size w)
  go_enter Tryd.func10, Tryd.ntmps10
  go_wp2_with fail
  refine (dPathRead_any a0 len0 cap0 zs0 _ (isrow_later H0.out HB0.out)).mono ?_
  rintro e w1 ⟨s, hsz, rfl, b⟩
  have HB1 := Lib.hid (HB0.out.trans (b.mono HB0.out.size))
  have hs1 := Lib.hid b.size
  clear b
  rcases pread_or s with ⟨L, hp, hs, hU⟩ | ⟨hno, hU⟩
  · have HP := Lib.hid hp
    have HS : Hid (ptext L = s) := Lib.hid hs.symm
    have HU := Lib.hid hU
    have ho : pOk L = true := pOk_yes hp
    have hL5 := hp.len
    have hse : (s.toList == s.toList) = true := by simp
    have hsn : (s.toList != s.toList) = false := by simp
    clear hp hs hU
    go_wp2_with fail
    refine (sread_is HU.out _ (by omega)).mono ?_
    rintro e w2 ⟨v, rfl, o, b⟩
    have HB2 := Lib.hid (HB1.out.trans (b.mono HB1.out.size))
    have hs2 := Lib.hid b.size
    obtain ⟨aw, cw, rfl, hcw, tw⟩ := OwnI.tab o
    have Bw := Lib.hid (OwnI.btw o)
    have Ow_2 := Lib.hid o
    clear tw hcw
    clear b o
    go_wp2_with fail
    refine (iread_is HU.out _ p (by omega) (HE.out.below HB2.out) (HX.out.1.on HB2.out (Nat.le_refl _)) (HX.out.2.below HB2.out)).mono ?_
    rintro e w3 ⟨v, rfl, o, b⟩
    have HB3 := Lib.hid (HB2.out.trans (b.mono HB2.out.size))
    have hs3 := Lib.hid b.size
    have Ow_3 := Lib.hid (owni_later Ow_2.out b)
    obtain ⟨ag, cg, rfl, hcg, tg⟩ := OwnI.tab o
    have Bg := Lib.hid (OwnI.btw o)
    have Og_3 := Lib.hid o
    clear tg hcg
    clear b o
    go_wp2_with fail
    refine (lyI_is (show decide (L = L) = true from decide_eq_true rfl) ag aw cg cw _ _ _ rfl rfl (OwnI.intA Og_3.out).2.2 (OwnI.intA Ow_3.out).2.2 (by omega) (by omega)).mono ?_
    rintro e w4 ⟨rfl, b⟩
    have HB4 := Lib.hid (HB3.out.trans (b.mono HB3.out.size))
    have hs4 := Lib.hid b.size
    have Ow_4 := Lib.hid (owni_later Ow_3.out b)
    have Og_4 := Lib.hid (owni_later Og_3.out b)
    clear b
    go_wp2_with fail
    refine (piok_is ho ag cg _ _ p rfl (by omega) (OwnI.intA Og_4.out).2.2 (HE.out.below HB4.out)).mono ?_
    rintro e w5 ⟨rfl, b⟩
    have HB5 := Lib.hid (HB4.out.trans (b.mono HB4.out.size))
    have hs5 := Lib.hid b.size
    have Ow_5 := Lib.hid (owni_later Ow_4.out b)
    have Og_5 := Lib.hid (owni_later Og_4.out b)
    clear b
    go_wp2_with fail
    refine (itext_is HS.out ag cg _ _ p rfl (by omega) (OwnI.intA Og_5.out).2.2 (HE.out.below HB5.out)).mono ?_
    rintro e w6 ⟨rfl, b⟩
    have HB6 := Lib.hid (HB5.out.trans (b.mono HB5.out.size))
    have hs6 := Lib.hid b.size
    have Ow_6 := Lib.hid (owni_later Ow_5.out b)
    have Og_6 := Lib.hid (owni_later Og_5.out b)
    clear b
    go_wp2_with fail
    go_ret
    exact ⟨rfl, HB6.out⟩
  · have HU := Lib.hid hU
    clear hno hU
    go_wp2_with fail
    refine (sread_is HU.out _ (by omega)).mono ?_
    rintro e w2 ⟨v, rfl, o, b⟩
    have HB2 := Lib.hid (HB1.out.trans (b.mono HB1.out.size))
    have hs2 := Lib.hid b.size
    obtain ⟨aw, cw, rfl, hcw, tw⟩ := OwnI.tab o
    have Bw := Lib.hid (OwnI.btw o)
    have Ow_2 := Lib.hid o
    clear tw hcw
    clear b o
    go_wp2_with fail
    refine (iread_is HU.out _ p (by omega) (HE.out.below HB2.out) (HX.out.1.on HB2.out (Nat.le_refl _)) (HX.out.2.below HB2.out)).mono ?_
    rintro e w3 ⟨v, rfl, o, b⟩
    have HB3 := Lib.hid (HB2.out.trans (b.mono HB2.out.size))
    have hs3 := Lib.hid b.size
    have Ow_3 := Lib.hid (owni_later Ow_2.out b)
    obtain ⟨ag, cg, rfl, hcg, tg⟩ := OwnI.tab o
    have Bg := Lib.hid (OwnI.btw o)
    have Og_3 := Lib.hid o
    clear tg hcg
    clear b o
    go_wp2_with fail
    refine (lyI_is (show decide (([] : List Int) = ([] : List Int)) = true from decide_eq_true rfl) ag aw cg cw _ _ _ rfl rfl (OwnI.intA Og_3.out).2.2 (OwnI.intA Ow_3.out).2.2 (by simp) (by simp)).mono ?_
    rintro e w4 ⟨rfl, b⟩
    have HB4 := Lib.hid (HB3.out.trans (b.mono HB3.out.size))
    have hs4 := Lib.hid b.size
    have Ow_4 := Lib.hid (owni_later Ow_3.out b)
    have Og_4 := Lib.hid (owni_later Og_3.out b)
    clear b
    go_wp2_with fail
    refine (lyI_is (show decide (([] : List Int) = ([] : List Int)) = true from decide_eq_true rfl) ag aw cg cw _ _ _ rfl rfl (OwnI.intA Og_4.out).2.2 (OwnI.intA Ow_4.out).2.2 (by simp) (by simp)).mono ?_
    rintro e w5 ⟨rfl, b⟩
    have HB5 := Lib.hid (HB4.out.trans (b.mono HB4.out.size))
    have hs5 := Lib.hid b.size
    have Ow_5 := Lib.hid (owni_later Ow_4.out b)
    have Og_5 := Lib.hid (owni_later Og_4.out b)
    clear b
    go_wp2_with fail
    go_ret
    exact ⟨rfl, HB5.out⟩

end Go.Proofs.YtnabcffpficgcaaDoor
