/-
  The door seat: two ranges have two texts: the walk of the law.
-/
import Derived.Test.YtglmoacgaacmeaaDoorLawE0
import Derived.Test.YtglmoacgaacmeaaDoorDoorB
import Derived.Test.YtglmoacgaacmeaaDoorDoorM
namespace Go.Proofs.YtglmoacgaacmeaaDoor
open Go.RowKit
set_option linter.unusedSimpArgs false

theorem if_agg {f g b c : Int} {w : World} : (if f = g then if b = c then Result.ok (Next.value (Value.bool true)) w else Result.ok (Next.value (Value.bool false)) w else Result.ok (Next.value (Value.bool false)) w) = Result.ok (Next.value (Value.bool (decide (f = g ∧ b = c)))) w := by
  by_cases h1 : f = g <;> by_cases h2 : b = c <;> simp [h1, h2]
theorem txt_list (f b : Int) : (txt f b).data.toList = Lib.decDigits f.toNat ++ [47] ++ Lib.decDigits b.toNat := by
  simp [txt, dig, ByteArray.data_append]
theorem rtext_inj {f b g c : Int} (ho : okB f b = true) (hg : okB g c = true) (h : rtext f b = rtext g c) : f = g ∧ b = c := by
  obtain ⟨f0, f1, b0, b8⟩ := okB_in ho
  obtain ⟨g0, g1, c0, c8⟩ := okB_in hg
  rw [rtext, if_pos ho, rtext, if_pos hg] at h
  have k := congrArg (fun s : ByteArray => back s.data.toList) h
  simp only [txt_list] at k
  rw [back_text (by omega) (by omega), back_text (by omega) (by omega)] at k
  simp only [Prod.mk.injEq] at k
  omega

theorem texts_eq {f b g c : Int} (ho : okB f b = true) (hg : okB g c = true) : (((rtext f b).toList == (rtext g c).toList) == (decide (f = g) && decide (b = c))) = true := by
  by_cases h : f = g ∧ b = c
  · obtain ⟨rfl, rfl⟩ := h
    simp
  · have h1 : (decide (f = g) && decide (b = c)) = false := by simp; intro h2; exact fun h3 => h ⟨h2, h3⟩
    have h2 : ((rtext f b).toList == (rtext g c).toList) = false := by
      rw [beq_eq_false_iff_ne]
      intro k
      exact h (rtext_inj ho hg (ByteArray.ext (by simpa [ByteArray.toList_eq] using k)))
    rw [h1, h2]; rfl

set_option maxRecDepth 100000 in
set_option maxHeartbeats 2000000 in
theorem lawTexts (a : Option Addr) (len cap : Nat) (zs : List Int) (w : World) (h : IsRow w a len cap zs) (ht : Pow w) :
    Calls Tryd.prog 7 #[.slice a len cap] w fun e w' => e = .returned (.bool true) ∧ Below w.heap.size w w' := by
  by_cases hl : 1048576 < len
  · clear h
    go_enter Tryd.func7, Tryd.ntmps7
    go_wp2
    go_ret
    exact ⟨rfl, Below.refl _ _⟩
  have H := Lib.hid h
  clear h
  have hlb : decide (1048576 < (len : Int)) = false := by simp; omega
  go_enter Tryd.func7, Tryd.ntmps7
  go_wp2_with fail
  refine (dCmp_any a len cap zs _ H.out).mono ?_
  rintro e w1 ⟨f, b, g, c, hs, hs', rfl, hb1⟩
  have HS := Lib.hid (And.intro hs hs')
  clear hs hs'
  have rA := (At.new w1 f b 25).alloc (.cells #[.int .i64 g, .int .i64 c] 25)
  have rC := At.new (w1.alloc (.cells #[.int .i64 f, .int .i64 b] 25)) g c 25
  simp only [World.size_alloc] at rC
  have hz1 := hb1.size
  have B1 := next hb1 (alloc2 w1 (.cells #[.int .i64 f, .int .i64 b] 25) (.cells #[.int .i64 g, .int .i64 c] 25))
  clear hb1
  go_wp2_with fail
  generalize (w1.alloc (.cells #[.int .i64 f, .int .i64 b] 25)).alloc (.cells #[.int .i64 g, .int .i64 c] 25) = W1 at *
  generalize w1.heap.size = A at *
  by_cases ho : okB f b = true
  · by_cases hg : okB g c = true
    · obtain ⟨n, hn⟩ : ∃ n, cmpOk f b g c = n := ⟨_, rfl⟩
      have HC := Lib.hid hn
      clear hn
      refine (rcmp_is HC.out _).mono ?_
      rintro e w2 ⟨rfl, hb⟩
      replace rA := rA.below hb
      replace rC := rC.below hb
      replace B1 := next B1 hb
      clear hb
      obtain ⟨a0, a1, _, _⟩ := id rA
      obtain ⟨c0, c1, _, _⟩ := id rC
      go_wp2_with fail
      refine (scmp_is HC.out _).mono ?_
      rintro e w3 ⟨rfl, hb⟩
      replace rA := rA.below hb
      replace rC := rC.below hb
      replace B1 := next B1 hb
      clear hb
      clear a0 a1 c0 c1
      obtain ⟨a0, a1, _, _⟩ := id rA
      obtain ⟨c0, c1, _, _⟩ := id rC
      go_wp2_with fail
      refine (sok_is ho _).mono ?_
      rintro e w4 ⟨rfl, hb⟩
      replace rA := rA.below hb
      replace rC := rC.below hb
      replace B1 := next B1 hb
      clear hb
      clear a0 a1 c0 c1
      obtain ⟨a0, a1, _, _⟩ := id rA
      obtain ⟨c0, c1, _, _⟩ := id rC
      go_wp2_with fail
      refine (sok_is hg _).mono ?_
      rintro e w5 ⟨rfl, hb⟩
      replace rA := rA.below hb
      replace rC := rC.below hb
      replace B1 := next B1 hb
      clear hb
      clear a0 a1 c0 c1
      obtain ⟨a0, a1, _, _⟩ := id rA
      obtain ⟨c0, c1, _, _⟩ := id rC
      go_wp2_with fail
      refine wp_region_held_drew (S := fun w' => w'.cell? ⟨A, 0, none⟩ = some (.int .i64 f) ∧ w'.cell? ⟨A, 1, none⟩ = some (.int .i64 b) ∧ w'.cell? ⟨A + 1, 0, none⟩ = some (.int .i64 g) ∧ w'.cell? ⟨A + 1, 1, none⟩ = some (.int .i64 c) ∧ Below w.heap.size w w') (by kernel_rfl) ?_ (fun hHeld => ?_)
      · exact ⟨a0, a1, c0, c1, B1.drew⟩
      refine takeH (i := 0) (v := ?_) rfl rfl (by kernel_rfl) (by kernel_rfl) (by kernel_rfl) (fun _ _ _ h => h) (by rfl) ?_ (by assumption) ?_
      rotate_left 1
      · intro w hSw
        (try dsimp only at hSw)
        go_simp
        try with_reducible rfl
      try simp only [List.setIfInBounds_toArray, List.set_cons_zero, List.set_cons_succ]
      refine takeH (i := 2) (v := ?_) rfl rfl (by kernel_rfl) (by kernel_rfl) (by kernel_rfl) (fun _ _ _ h => h) (by rfl) ?_ (by assumption) ?_
      rotate_left 1
      · intro w hSw
        (try dsimp only at hSw)
        go_simp
        try with_reducible rfl
      try simp only [List.setIfInBounds_toArray, List.set_cons_zero, List.set_cons_succ]
      refine takeH (i := 5) (v := ?_) rfl rfl (by kernel_rfl) (by kernel_rfl) (by kernel_rfl) (fun _ _ _ h => h) (by rfl) ?_ (by assumption) ?_
      rotate_left 1
      · intro w hSw
        (try dsimp only at hSw)
        go_simp
        try with_reducible rfl
      try simp only [List.setIfInBounds_toArray, List.set_cons_zero, List.set_cons_succ]
      refine takeH (i := 6) (v := ?_) rfl rfl (by kernel_rfl) (by kernel_rfl) (by kernel_rfl) (fun _ _ _ h => h) (by rfl) ?_ (by assumption) ?_
      rotate_left 1
      · intro w hSw
        (try dsimp only at hSw)
        go_simp
        try with_reducible rfl
      try simp only [List.setIfInBounds_toArray, List.set_cons_zero, List.set_cons_succ]
      refine takeH (i := 7) (v := ?_) rfl rfl (by kernel_rfl) (by kernel_rfl) (by kernel_rfl) (fun _ _ _ h => h) (by rfl) ?_ (by assumption) ?_
      rotate_left 1
      · intro w hSw
        (try dsimp only at hSw)
        go_simp
        rw [if_agg]
        try with_reducible rfl
      try simp only [List.setIfInBounds_toArray, List.set_cons_zero, List.set_cons_succ]
      refine wpAnyH_ready (rs := [1]) (by kernel_rfl) (by simp) ?_
      refine AllReadyH.cons rfl (fun K hK => ?_) (AllReadyH.nil)
      go_simp
      refine (itext_any f b _ (ht.on hHeld.2.2.2.2 (Nat.le_refl _))).mono ?_
      rintro e w6 ⟨rfl, hb⟩
      go_wp2_with fail
      refine hK.out _ _ ?_ (fun hNew => ?_)
      · exact ⟨cell_later hb hHeld.1, cell_later hb hHeld.2.1, cell_later hb hHeld.2.2.1, cell_later hb hHeld.2.2.2.1, below_on hHeld.2.2.2.2 hb hHeld.2.2.2.2.size⟩
      clear hK K hHeld
      have hHeld := hNew
      clear hNew
      try simp only [Act.put, List.setIfInBounds_toArray, List.set_cons_zero, List.set_cons_succ]
      refine wpAnyH_ready (rs := [3]) (by kernel_rfl) (by simp) ?_
      refine AllReadyH.cons rfl (fun K hK => ?_) (AllReadyH.nil)
      go_simp
      refine (itext_any g c _ (ht.on hHeld.2.2.2.2 (Nat.le_refl _))).mono ?_
      rintro e w7 ⟨rfl, hb⟩
      go_wp2_with fail
      refine hK.out _ _ ?_ (fun hNew => ?_)
      · exact ⟨cell_later hb hHeld.1, cell_later hb hHeld.2.1, cell_later hb hHeld.2.2.1, cell_later hb hHeld.2.2.2.1, below_on hHeld.2.2.2.2 hb hHeld.2.2.2.2.size⟩
      clear hK K hHeld
      have hHeld := hNew
      clear hNew
      try simp only [Act.put, List.setIfInBounds_toArray, List.set_cons_zero, List.set_cons_succ]
      refine takeH (i := 4) (v := ?_) rfl rfl (by kernel_rfl) (by kernel_rfl) (by kernel_rfl) (fun _ _ _ h => h) (by rfl) ?_ (by assumption) ?_
      rotate_left 1
      · intro w hSw
        (try dsimp only at hSw)
        go_simp
        try with_reducible rfl
      try simp only [List.setIfInBounds_toArray, List.set_cons_zero, List.set_cons_succ]
      refine takeH (i := 8) (v := ?_) rfl rfl (by kernel_rfl) (by kernel_rfl) (by kernel_rfl) (fun _ _ _ h => h) (by rfl) ?_ (by assumption) ?_
      rotate_left 1
      · intro w hSw
        (try dsimp only at hSw)
        go_simp
        try with_reducible rfl
      try simp only [List.setIfInBounds_toArray, List.set_cons_zero, List.set_cons_succ]
      refine takeH (i := 9) (v := ?_) rfl rfl (by kernel_rfl) (by kernel_rfl) (by kernel_rfl) (fun _ _ _ h => h) (by rfl) ?_ (by assumption) ?_
      rotate_left 1
      · intro w hSw
        (try dsimp only at hSw)
        go_simp
        try with_reducible rfl
      try simp only [List.setIfInBounds_toArray, List.set_cons_zero, List.set_cons_succ]
      refine wpAnyH_done (by kernel_rfl) ?_ _
      go_wp2
      go_ret
      exact ⟨ret_bool (texts_eq ho hg), hHeld.2.2.2.2⟩
    · have hg' : okB g c = false := by simpa using hg
      clear hg
      have HC := Lib.hid (cmpOk_no2 (f := f) (b := b) hg')
      refine (rcmp_is HC.out _).mono ?_
      rintro e w2 ⟨rfl, hb⟩
      replace rA := rA.below hb
      replace rC := rC.below hb
      replace B1 := next B1 hb
      clear hb
      obtain ⟨a0, a1, _, _⟩ := id rA
      obtain ⟨c0, c1, _, _⟩ := id rC
      go_wp2_with fail
      refine (scmp_is HC.out _).mono ?_
      rintro e w3 ⟨rfl, hb⟩
      replace rA := rA.below hb
      replace rC := rC.below hb
      replace B1 := next B1 hb
      clear hb
      clear a0 a1 c0 c1
      obtain ⟨a0, a1, _, _⟩ := id rA
      obtain ⟨c0, c1, _, _⟩ := id rC
      go_wp2_with fail
      refine (sok_is ho _).mono ?_
      rintro e w4 ⟨rfl, hb⟩
      replace rA := rA.below hb
      replace rC := rC.below hb
      replace B1 := next B1 hb
      clear hb
      clear a0 a1 c0 c1
      obtain ⟨a0, a1, _, _⟩ := id rA
      obtain ⟨c0, c1, _, _⟩ := id rC
      go_wp2_with fail
      refine (sok_is hg' _).mono ?_
      rintro e w5 ⟨rfl, hb⟩
      replace rA := rA.below hb
      replace rC := rC.below hb
      replace B1 := next B1 hb
      clear hb
      clear a0 a1 c0 c1
      obtain ⟨a0, a1, _, _⟩ := id rA
      obtain ⟨c0, c1, _, _⟩ := id rC
      go_wp2_with fail
      refine (scmp_is HC.out _).mono ?_
      rintro e w6 ⟨rfl, hb⟩
      replace rA := rA.below hb
      replace rC := rC.below hb
      replace B1 := next B1 hb
      clear hb
      go_wp2
      go_ret
      exact ⟨rfl, B1⟩
  · have ho' : okB f b = false := by simpa using ho
    clear ho
    have HC := Lib.hid (cmpOk_no1 (g := g) (c := c) ho')
    refine (rcmp_is HC.out _).mono ?_
    rintro e w2 ⟨rfl, hb⟩
    replace rA := rA.below hb
    replace rC := rC.below hb
    replace B1 := next B1 hb
    clear hb
    obtain ⟨a0, a1, _, _⟩ := id rA
    obtain ⟨c0, c1, _, _⟩ := id rC
    go_wp2_with fail
    refine (scmp_is HC.out _).mono ?_
    rintro e w3 ⟨rfl, hb⟩
    replace rA := rA.below hb
    replace rC := rC.below hb
    replace B1 := next B1 hb
    clear hb
    clear a0 a1 c0 c1
    obtain ⟨a0, a1, _, _⟩ := id rA
    obtain ⟨c0, c1, _, _⟩ := id rC
    go_wp2_with fail
    refine (sok_is ho' _).mono ?_
    rintro e w4 ⟨rfl, hb⟩
    replace rA := rA.below hb
    replace rC := rC.below hb
    replace B1 := next B1 hb
    clear hb
    clear a0 a1 c0 c1
    obtain ⟨a0, a1, _, _⟩ := id rA
    obtain ⟨c0, c1, _, _⟩ := id rC
    go_wp2_with fail
    refine (scmp_is HC.out _).mono ?_
    rintro e w6 ⟨rfl, hb⟩
    replace rA := rA.below hb
    replace rC := rC.below hb
    replace B1 := next B1 hb
    clear hb
    go_wp2
    go_ret
    exact ⟨rfl, B1⟩

end Go.Proofs.YtglmoacgaacmeaaDoor
