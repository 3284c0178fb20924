/-
  The door seat: a drawn text, some spoilt: some text that is not long.
-/
import Derived.Test.YtglmoacgaacmeaaDoorDoorI
namespace Go.Proofs.YtglmoacgaacmeaaDoor
open Go.RowKit
set_option linter.unusedSimpArgs false

def Word (w : World) (B p : Nat) (e : Ending) (w' : World) : Prop := ∃ t : ByteArray, t.size ≤ 100 ∧ e = .returned (.string t) ∧ Rd w' B (p + 1) ∧ w.grownBy w' (some B)

set_option maxHeartbeats 400000 in
theorem of_any (n L : Nat) (w : World) (B p : Nat) (h1 : 1 ≤ n) (h5 : n ≤ 5) (hp : p < 1000000) (hr : Rd w B p) (hL : L ≠ B) (hc : ∀ i, i < n → ∃ t : ByteArray, t.size ≤ 100 ∧ w.cell? ⟨L, i, none⟩ = some (.string t)) :
    Calls Tryd.prog 30 #[.pointer (some ⟨B, 0, none⟩), .slice (some ⟨L, 0, none⟩) n n] w (Word w B p) := by
  have HC := Lib.hid hc
  clear hc
  go_enter Tryd.func30, Tryd.ntmps30
  go_wp2_with fail
  refine (pick_any n w B p (by omega) hp hr).mono ?_
  rintro e w1 ⟨x, x0, x1, rfl, hr1, hg1⟩
  obtain ⟨k, rfl⟩ := Int.eq_ofNat_of_zero_le x0
  obtain ⟨t, ht, hct⟩ := HC.out k (by omega)
  have c1 := only_cell hg1 hct hL
  clear hct
  go_wp2
  go_ret
  exact ⟨t, ht, rfl, hr1, hg1⟩

theorem rtext_size (f b : Int) : (rtext f b).size ≤ 100 := by
  by_cases ho : okB f b = true
  · obtain ⟨f0, f1, b0, b8⟩ := okB_in ho
    rw [rtext, if_pos ho]
    have h1 := dec_len (n := f.toNat) (by omega); have h2 := dec_len (n := b.toNat) (by omega)
    show (txt f b).data.size ≤ _
    rw [← Array.length_toList, txt_data, List.length_append, List.length_cons]
    omega
  · rw [rtext, if_neg ho]; decide

theorem cells3 (w : World) : ∀ i, i < 3 → ∃ t : ByteArray, t.size ≤ 100 ∧ (w.alloc (.cells #[.string ⟨#[48]⟩, .string ⟨#[47]⟩, .string ⟨#[49]⟩] 9)).cell? ⟨w.heap.size, i, none⟩ = some (.string t)
  | 0, _ => ⟨⟨#[48]⟩, by decide, by simp⟩
  | 1, _ => ⟨⟨#[47]⟩, by decide, by simp⟩
  | 2, _ => ⟨⟨#[49]⟩, by decide, by simp⟩
theorem cells5 (w : World) : ∀ i, i < 5 → ∃ t : ByteArray, t.size ≤ 100 ∧ (w.alloc (.cells #[.string ⟨#[49, 47, 55]⟩, .string ⟨#[50, 53, 54, 47, 48]⟩, .string ⟨#[48, 47, 57]⟩, .string ⟨#[48, 48, 47, 56]⟩, .string ⟨#[97, 47, 49]⟩] 9)).cell? ⟨w.heap.size, i, none⟩ = some (.string t)
  | 0, _ => ⟨⟨#[49, 47, 55]⟩, by decide, by simp⟩
  | 1, _ => ⟨⟨#[50, 53, 54, 47, 48]⟩, by decide, by simp⟩
  | 2, _ => ⟨⟨#[48, 47, 57]⟩, by decide, by simp⟩
  | 3, _ => ⟨⟨#[48, 48, 47, 56]⟩, by decide, by simp⟩
  | 4, _ => ⟨⟨#[97, 47, 49]⟩, by decide, by simp⟩

set_option maxHeartbeats 1000000 in
theorem dRead_any (a : Option Addr) (len cap : Nat) (zs : List Int) (w : World) (h : IsRow w a len cap zs) :
    Calls Tryd.prog 16 #[.slice a len cap] w fun e w' => ∃ t : ByteArray, t.size ≤ 1000 ∧ e = .returned (.string t) ∧ Below w.heap.size w w' := by
  have H := Lib.hid h
  clear h
  go_enter Tryd.func16, Tryd.ntmps16
  go_wp2_with fail
  refine (open_any a len cap zs _ H.out).mono ?_
  rintro e w1 ⟨rfl, hr1, hb1⟩
  go_wp2_with fail
  refine (range_any _ _ 0 (by omega) hr1).mono ?_
  rintro e w2 ⟨f, b, p', hs, rfl, hr2, hp2, hg2⟩
  go_wp2_with fail
  refine (stext_any f b _).mono ?_
  rintro e w3 ⟨rfl, hb3⟩
  have hz := rtext_size f b
  generalize rtext f b = s at *
  have hr3 := rd_below hr2 hb3
  have B3 : Below w.heap.size w w3 := next (below_only hb1 hg2 hb1.size (Nat.le_refl _)) hb3
  clear hr2 hb3 hg2 hr1 hb1 hs
  go_wp2_with fail
  refine (pick_any _ _ _ _ (by omega) (by omega) hr3).mono ?_
  rintro e w4 ⟨x, x0, x1, rfl, hr4, hg4⟩
  replace B3 := below_only B3 hg4 B3.size (Nat.le_refl _)
  clear hr3 hg4
  go_wp2_with fail
  refine (pick_any _ _ _ _ (by omega) (by omega) hr4).mono ?_
  rintro e w5 ⟨y, y0, y1, rfl, hr5, hg5⟩
  replace B3 := below_only B3 hg5 B3.size (Nat.le_refl _)
  clear hr4 hg5
  have hL5 := rd_lt hr5
  by_cases e0 : y = 0
  · go_wp2
    go_ret
    exact ⟨_, by simp; omega, rfl, B3⟩
  by_cases e1 : y = 1
  · obtain ⟨k, rfl⟩ := Int.eq_ofNat_of_zero_le x0
    have hk : k ≤ s.size := by omega
    go_wp2_with fail
    refine wp_region_held_drew (S := fun w' => Below w.heap.size w w') (by kernel_rfl) ?_ (fun hHeld => ?_)
    · exact B3.drew
    refine takeH (i := 0) (v := ?_) rfl rfl (by kernel_rfl) (by kernel_rfl) (by kernel_rfl) (fun _ _ _ h => h) (by rfl) ?_ (by assumption) ?_
    rotate_left 1
    · intro w hSw
      (try dsimp only at hSw)
      go_simp
      try with_reducible rfl
    try simp only [List.setIfInBounds_toArray, List.set_cons_zero, List.set_cons_succ]
    refine takeH (i := 1) (v := ?_) rfl rfl (by kernel_rfl) (by kernel_rfl) (by kernel_rfl) (fun _ _ _ h => h) (by rfl) ?_ (by assumption) ?_
    rotate_left 1
    · intro w hSw
      (try dsimp only at hSw)
      go_simp
      try with_reducible rfl
    try simp only [List.setIfInBounds_toArray, List.set_cons_zero, List.set_cons_succ]
    refine takeH (i := 2) (v := ?_) rfl rfl (by kernel_rfl) (by kernel_rfl) (by kernel_rfl) (fun _ _ _ h => h) (by rfl) ?_ (by assumption) ?_
    rotate_left 1
    · intro w hSw
      (try dsimp only at hSw)
      go_simp
      try with_reducible rfl
    try simp only [List.setIfInBounds_toArray, List.set_cons_zero, List.set_cons_succ]
    refine takeH (i := 3) (v := ?_) rfl rfl (by kernel_rfl) (by kernel_rfl) (by kernel_rfl) (fun _ _ _ h => h) (by rfl) ?_ (by assumption) ?_
    rotate_left 1
    · intro w hSw
      (try dsimp only at hSw)
      go_simp
      try with_reducible rfl
    try simp only [List.setIfInBounds_toArray, List.set_cons_zero, List.set_cons_succ]
    refine takeH (i := 7) (v := ?_) rfl rfl (by kernel_rfl) (by kernel_rfl) (by kernel_rfl) (fun _ _ _ h => h) (by rfl) ?_ (by assumption) ?_
    rotate_left 1
    · intro w hSw
      (try dsimp only at hSw)
      go_simp
      try with_reducible rfl
    try simp only [List.setIfInBounds_toArray, List.set_cons_zero, List.set_cons_succ]
    refine takeH (i := 8) (v := ?_) rfl rfl (by kernel_rfl) (by kernel_rfl) (by kernel_rfl) (fun _ _ _ h => h) (by rfl) ?_ (by assumption) ?_
    rotate_left 1
    · intro w hSw
      (try dsimp only at hSw)
      go_simp
      try with_reducible rfl
    try simp only [List.setIfInBounds_toArray, List.set_cons_zero, List.set_cons_succ]
    refine takeH (i := 9) (v := ?_) rfl rfl (by kernel_rfl) (by kernel_rfl) (by kernel_rfl) (fun _ _ _ h => h) (by rfl) ?_ (by assumption) ?_
    rotate_left 1
    · intro w hSw
      (try dsimp only at hSw)
      go_simp
      try with_reducible rfl
    try simp only [List.setIfInBounds_toArray, List.set_cons_zero, List.set_cons_succ]
    refine wpAnyH_ready (rs := [4]) (by kernel_rfl) (by simp) ?_
    refine AllReadyH.cons rfl (fun K hK => ?_) (AllReadyH.nil)
    go_simp
    refine hK.out _ _ ?_ (fun hNew => ?_)
    · exact hHeld.alloc hHeld.size _
    clear hK K hHeld
    have hHeld := hNew
    clear hNew
    try simp only [Act.put, List.setIfInBounds_toArray, List.set_cons_zero, List.set_cons_succ]
    refine wpAnyH_ready (rs := [5]) (by kernel_rfl) (by simp) ?_
    refine AllReadyH.cons rfl (fun K hK => ?_) (AllReadyH.nil)
    go_simp
    refine (of_any 3 _ _ _ _ (by omega) (by omega) (by omega) (rd_drew (rd_alloc hr5 _)) (by omega) (cells3 w5)).mono ?_
    rintro e w6 ⟨t, ht, rfl, _, hg6⟩
    go_wp2_with fail
    refine hK.out _ _ ?_ (fun hNew => ?_)
    · exact below_only hHeld hg6 hHeld.size (Nat.le_refl _)
    clear hK K hHeld
    have hHeld := hNew
    clear hNew
    try simp only [Act.put, List.setIfInBounds_toArray, List.set_cons_zero, List.set_cons_succ]
    refine takeH (i := 6) (v := ?_) rfl rfl (by kernel_rfl) (by kernel_rfl) (by kernel_rfl) (fun _ _ _ h => h) (by rfl) ?_ (by assumption) ?_
    rotate_left 1
    · intro w hSw
      (try dsimp only at hSw)
      go_simp
      rw [if_neg (by omega)]
      try with_reducible rfl
    try simp only [List.setIfInBounds_toArray, List.set_cons_zero, List.set_cons_succ]
    refine takeH (i := 10) (v := ?_) rfl rfl (by kernel_rfl) (by kernel_rfl) (by kernel_rfl) (fun _ _ _ h => h) (by rfl) ?_ (by assumption) ?_
    rotate_left 1
    · intro w hSw
      (try dsimp only at hSw)
      go_simp
      rw [if_neg (by omega)]
      try with_reducible rfl
    try simp only [List.setIfInBounds_toArray, List.set_cons_zero, List.set_cons_succ]
    refine takeH (i := 11) (v := ?_) rfl rfl (by kernel_rfl) (by kernel_rfl) (by kernel_rfl) (fun _ _ _ h => h) (by rfl) ?_ (by assumption) ?_
    rotate_left 1
    · intro w hSw
      (try dsimp only at hSw)
      go_simp
      try with_reducible rfl
    try simp only [List.setIfInBounds_toArray, List.set_cons_zero, List.set_cons_succ]
    refine wpAnyH_done (by kernel_rfl) ?_ _
    go_wp2
    go_ret
    exact ⟨s.extract 0 k ++ t ++ s.extract k s.size, by simp only [ByteArray.size_append, ByteArray.size_extract]; omega, rfl, hHeld⟩
  by_cases e2 : y = 2
  · go_wp2_with fail
    refine (of_any 5 _ _ _ _ (by omega) (by omega) (by omega) (rd_alloc hr5 _) (by omega) (cells5 w5)).mono ?_
    rintro e w6 ⟨t, ht, rfl, _, hg6⟩
    replace B3 := below_only (B3.alloc B3.size _) hg6 (B3.alloc B3.size _).size (Nat.le_refl _)
    go_wp2
    go_ret
    exact ⟨t, by omega, rfl, B3⟩
  go_wp2
  go_ret
  exact ⟨s, by omega, rfl, B3⟩
set_option maxRecDepth 4000 in
set_option maxHeartbeats 1000000 in
theorem lawStrict (a : Option Addr) (len cap : Nat) (zs : List Int) (w : World) (h : IsRow w a len cap zs) (he : Errs w ∧ Pow w) :
    Calls Tryd.prog 6 #[.slice a len cap] w fun e w' => e = .returned (.bool true) ∧ Below w.heap.size w w' := by
  by_cases hl : 1048576 < len
  · clear h
    go_enter Tryd.func6, Tryd.ntmps6
    go_wp2
    go_ret
    exact ⟨rfl, Below.refl _ _⟩
  have H := Lib.hid h
  clear h
  have hlb : decide (1048576 < (len : Int)) = false := by simp; omega
  go_enter Tryd.func6, Tryd.ntmps6
  go_wp2_with fail
  refine (dRead_any a len cap zs _ H.out).mono ?_
  rintro e w1 ⟨s, hz, rfl, hb1⟩
  go_wp2_with fail
  by_cases hy : ∃ f b, okB f b = true ∧ s = txt f b
  · obtain ⟨f, b, ho, hs⟩ := hy
    have HS := Lib.hid hs
    clear hs
    refine Calls.mono (HS.out ▸ sread_yes ho w1) ?_
    rintro e w2 ⟨rfl, hb⟩
    have q0 := At.new w2 f b 25
    have B1 := next (next hb1 hb) ((Below.refl _ _).alloc (Nat.le_refl _) (.cells #[.int .i64 f, .int .i64 b] 25))
    clear hb1 hb
    go_wp2_with fail
    generalize (w2.alloc (.cells #[.int .i64 f, .int .i64 b] 25)) = W1 at *
    refine Calls.mono (HS.out ▸ iread_yes f b W1 (he.2.on B1 (Nat.le_refl _)) ho) ?_
    rintro e w3 ⟨rfl, hb⟩
    replace q0 := (q0.below hb).alloc (.cells #[.int .i64 f, .int .i64 b] 25)
    replace B1 := next (next B1 hb) ((Below.refl _ _).alloc (Nat.le_refl _) (.cells #[.int .i64 f, .int .i64 b] 25))
    have q1 := At.new w3 f b 25
    clear hb
    obtain ⟨x0, x1, _, _⟩ := id q0
    obtain ⟨y0, y1, _, _⟩ := id q1
    have HE := Lib.hid (show rtext f b = s by rw [rtext, if_pos ho, HS.out])
    go_wp2_with fail
    generalize (w3.alloc (.cells #[.int .i64 f, .int .i64 b] 25)) = W2 at *
    refine (rok_is ho _).mono ?_
    rintro e w4 ⟨rfl, hb⟩
    replace q1 := q1.below hb
    replace B1 := next B1 hb
    clear hb y0 y1
    obtain ⟨y0, y1, _, _⟩ := id q1
    go_wp2_with fail
    refine (itext_any f b _ (he.2.on B1 (Nat.le_refl _))).mono ?_
    rintro e w5 ⟨rfl, hb⟩
    rw [HE.out]
    replace B1 := next B1 hb
    clear hb
    go_wp2
    go_ret
    exact ⟨rfl, B1⟩
  · have hno : ∀ f b, okB f b = true → s ≠ txt f b := fun f b ho e => hy ⟨f, b, ho, e⟩
    clear hy
    have HN := Lib.hid hno
    clear hno
    refine (sread_no HN.out w1).mono ?_
    rintro e w2 ⟨rfl, hb⟩
    have q0 := At.new w2 0 0 25
    have B1 := next (next hb1 hb) ((Below.refl _ _).alloc (Nat.le_refl _) (.cells #[.int .i64 0, .int .i64 0] 25))
    clear hb1 hb
    go_wp2_with fail
    generalize (w2.alloc (.cells #[.int .i64 0, .int .i64 0] 25)) = W1 at *
    refine (iread_no s W1 (by omega) (he.1.on B1 (Nat.le_refl _)) (he.2.on B1 (Nat.le_refl _)) HN.out).mono ?_
    rintro e w3 ⟨rfl, hb⟩
    replace q0 := (q0.below hb).alloc (.cells #[.int .i64 0, .int .i64 0] 25)
    replace B1 := next (next B1 hb) ((Below.refl _ _).alloc (Nat.le_refl _) (.cells #[.int .i64 0, .int .i64 0] 25))
    have q1 := At.new w3 0 0 25
    clear hb
    obtain ⟨x0, x1, _, _⟩ := id q0
    obtain ⟨y0, y1, _, _⟩ := id q1
    go_wp2
    go_ret
    exact ⟨rfl, B1⟩
end Go.Proofs.YtglmoacgaacmeaaDoor
