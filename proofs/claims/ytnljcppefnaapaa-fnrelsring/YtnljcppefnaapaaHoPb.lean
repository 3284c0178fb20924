/-
  The program's relations: agree, relationsOf.
-/
import Derived.Test.YtnljcppefnaapaaHoPa
namespace Go.Proofs.Ytnljcppefnaapaa
open Go.RowKit
open Go.Maps (Keyed)
set_option linter.unusedSimpArgs false
set_option linter.unusedVariables false

/-- a loop over them, under way -/
structure Rg (w : World) (f : Int → Int → Int) (b r : Nat) (left : Lit → Bool) (cnt : Nat) : Prop where
  rg : ∃ n D, n ≤ 100 ∧ w.ranges Try.prog 63 (plainElem Try.prog 3) b r n D left cnt ∧ Kn f D
theorem Rg.rels {w : World} {f : Int → Int → Int} {b r cnt : Nat} {left : Lit → Bool} (h : Rg w f b r left cnt) : Rels w f b := by
  obtain ⟨n, D, hn, hr, hk⟩ := h.rg
  exact ⟨n, D, hn, hr.owns, hk⟩
theorem Rg.below {w w' : World} {f : Int → Int → Int} {b r cnt : Nat} {left : Lit → Bool} (h : Rg w f b r left cnt) (k : Below w.heap.size w w') : Rg w' f b r left cnt := by
  obtain ⟨n, D, hn, hr, hk⟩ := h.rg
  exact ⟨n, D, hn, hr.kept (row := none) ⟨k.os, k.tape, k.output, k.size, fun i hi _ => k.block i hi⟩ (by simp) (by simp), hk⟩
theorem Rg.left_eq {w : World} {f : Int → Int → Int} {b r cnt : Nat} {left : Lit → Bool} (h : Rg w f b r left cnt) : w.rangeLeft b r = cnt := by
  obtain ⟨n, D, hn, hr, hk⟩ := h.rg
  exact hr.left_eq
theorem wpList_range_R {ops : Array Oper} {rest : List Oper} {o : Oper} {a : Act} {w : World} {Q : Exit → Act → World → Prop} (hg : o.guard = none) (m : Operand) (hop : o.op = Op.range 48 m)
    (f : Int → Int → Int) (b : Nat) (hm : a.eval m = .map (some b)) (hR : Rels w f b) (G : Int → Int → Prop)
    (hK : ∀ w' left cnt, Rg w' f b w.heap.size left cnt → Don f left G → Below w.heap.size w w' → w'.heap.size = w.heap.size + 1 → wpList Try.prog ops Q rest (a.put o.dst (.pointer (some ⟨w.heap.size, 0, none⟩))) w') :
    wpList Try.prog ops Q (o :: rest) a w := by
  obtain ⟨n, D, hn, ho, hk⟩ := hR.own
  refine wpList_range_own w hg m 48 hop 63 3 lawK Try.underlying48 _ b n D hm ho (fun w' h1 h2 h3 => ?_)
  exact hK w' _ _ ⟨n, D, hn, h1, hk⟩ (Don.start hk G) ⟨h2.os, h2.tape, h2.output, h2.size, fun i hi => h2.block i hi (by simp)⟩ h3
theorem wpList_next_R {ops : Array Oper} {rest : List Oper} {o : Oper} {a : Act} {w : World} {Q : Exit → Act → World → Prop} (hg : o.guard = none) (it : Operand) (hop : o.op = Op.next it false)
    (f : Int → Int → Int) (b r : Nat) (left : Lit → Bool) (cnt : Nat) (hit : a.eval it = .pointer (some ⟨r, 0, none⟩)) (h : Rg w f b r left cnt) (G : Int → Int → Prop) (hG : Don f left G) (B : Nat) (hB : B ≤ r)
    (hDone : (∀ p q, Iw p → Iw q → f p q ≠ 0 → G p q) → wpList Try.prog ops Q rest (a.put o.dst (.tuple #[.bool false])) w)
    (hMore : ∀ (p q c : Int) (w' : World), f p q = c → Iw p → Iw q → c ≠ 0 → (G p q → ∃ left' cnt', Rg w' f b r left' cnt' ∧ Don f left' G ∧ cnt' < cnt) → Rels w' f b → Below B w w' → w'.heap.size = w.heap.size →
      (Instr.entry (.pointer (some ⟨r, 0, none⟩))).run Try.prog w' = .ok (.tuple #[KV p q, .int .i64 c]) w' → wpList Try.prog ops Q rest (a.put o.dst (.tuple #[.bool true, KV p q, .int .i64 c])) w') :
    wpList Try.prog ops Q (o :: rest) a w := by
  obtain ⟨n, D, hn, hr, hk⟩ := h.rg
  refine wpList_next_K hg it hop b r n D left cnt f hk hit hr (fun hl => hDone (fun p q hp hq hf => hG.all hl hp hq hf)) (fun p q c w' cnt' hf hp hq hc h1 h2 h3 h4 h5 => ?_)
  exact hMore p q c w' hf hp hq hc (fun g => ⟨_, cnt', ⟨n, D, hn, h1, hk⟩, hG.step hp hq g, h2⟩) ⟨n, D, hn, h1.owns, hk⟩ ((Below.refl B w).grown h3 (by have := hr.lt; omega) (fun k hk => by cases hk; exact hB)) h4 h5

theorem look_K {w : World} {f : Int → Int → Int} {b : Nat} (h : Rels w f b) {p q : Int} (hp : Iw p) (hq : Iw q) : (Instr.lookup 48 (.map (some b)) (KV p q) false).run Try.prog w = .ok (.int .i64 (f p q)) w := by
  obtain ⟨n, D, hn, ho, hk⟩ := h.own
  obtain ⟨c, hrun, hat, _⟩ := ho.lookup_int lawK Try.underlying48 Try.underlying3 (zeroI w) (keyP hp hq)
  rw [hk.el p q hp hq] at hat
  obtain rfl : f p q = c := by simpa using hat
  exact hrun
set_option maxRecDepth 100000 in
set_option maxHeartbeats 2000000 in
theorem agree_is {f : Int → Int → Int} {x : Bool} (h1 : x = true → ∀ p q, Iw p → Iw q → f p q ≠ 0 → agr f p q) (h0 : (∀ p q, Iw p → Iw q → f p q ≠ 0 → agr f p q) → x = true) (n b : Nat) (w : World) (hR : Rels w f b) :
    Calls Try.prog 58 #[RelV n b] w fun e w' => e = .returned (.bool x) ∧ Below w.heap.size w w' := by
  have H1 := Lib.hid h1
  have H0 := Lib.hid h0
  have HB := Lib.hid ((Below.refl w.heap.size w).alloc (Nat.le_refl _) (.cells #[.int .i64 (n : Int), .map (some b)] 50))
  obtain ⟨W, hW⟩ : ∃ W, w.alloc (.cells #[.int .i64 (n : Int), .map (some b)] 50) = W := ⟨_, rfl⟩
  have c1 : W.cell? ⟨w.heap.size, 1, none⟩ = some (.map (some b)) := by rw [← hW]; simp
  have HR := Lib.hid (show Rels W f b by rw [← hW]; exact hR.below ((Below.refl _ _).alloc (Nat.le_refl _) _))
  have HBW := Lib.hid (show Below w.heap.size w W by rw [← hW]; exact HB.out)
  have hWlt : w.heap.size < W.heap.size := by rw [← hW]; simp
  clear h1 h0 HB hR
  go_enter Try.func58, Try.ntmps58
  go_wp2_with (at_range; refine wpList_range_R rfl _ rfl f b rfl HR.out (agr f) ?_; intro w0 left0 cnt0 hrg0 hdon0 hb0 hs0)
  have R0 := Lib.hid hrg0
  have D0 := Lib.hid hdon0
  have B0 := Lib.hid hb0
  clear hrg0 hdon0 hb0 hs0
  go_frame
  go_loopw [3, 4] (fun _ _ wr => ∃ left cnt, Hid (Rg wr f b W.heap.size left cnt) ∧ Hid (Don f left (agr f)) ∧ Hid (Below W.heap.size W wr)) (fun _ _ wr => wr.rangeLeft b W.heap.size)
  case atStart => exact ⟨left0, cnt0, R0, D0, B0⟩
  case round =>
    obtain ⟨left, cnt, RG, DN, BW⟩ := hrel
    have HC := Lib.hid (cell_later BW.out c1)
    have HWr := Lib.hid (HBW.out.trans (BW.out.mono HBW.out.size))
    clear R0 D0 B0
    go_wp2_with (at_next; refine wpList_next_R rfl _ rfl f b W.heap.size left cnt rfl RG.out (agr f) DN.out W.heap.size (Nat.le_refl _) ?_ ?_)
    · intro hall
      have HX := Lib.hid (H0.out hall)
      clear hall
      go_wp2_with fail
      go_ret
      exact ⟨ret_bool HX.out.symm, HWr.out⟩
    · intro p q c w1 hf hp hq hc hnext hr1 hb1 hs1 hen
      have HF := Lib.hid hf
      have HNX := Lib.hid hnext
      have c2 : w1.cell? ⟨w.heap.size, 1, none⟩ = some (.map (some b)) := by rw [hb1.cell hWlt]; exact HC.out
      have HW1 := Lib.hid (HWr.out.trans (hb1.mono HBW.out.size))
      have BW1 := Lib.hid (BW.out.trans hb1)
      obtain ⟨W2, hW2⟩ : ∃ W2, w1.alloc (.cells #[.int .i64 p, .int .i64 q] 63) = W2 := ⟨_, rfl⟩
      have HC2 := Lib.hid (show W2.cell? ⟨w1.heap.size, 0, none⟩ = some (.int .i64 p) ∧ W2.cell? ⟨w1.heap.size, 1, none⟩ = some (.int .i64 q) ∧ W2.cell? ⟨w.heap.size, 1, none⟩ = some (.map (some b)) by
        rw [← hW2]; exact ⟨by simp, by simp, cell_later ((Below.refl _ _).alloc (Nat.le_refl _) _) c2⟩)
      have HB2 := Lib.hid (show Below w1.heap.size w1 W2 by rw [← hW2]; exact (Below.refl _ _).alloc (Nat.le_refl _) _)
      have HR2 := Lib.hid (hr1.below HB2.out)
      have HW2 := Lib.hid (next HW1.out HB2.out)
      obtain ⟨s, hs⟩ : ∃ s, f q p = s := ⟨_, rfl⟩
      have HS := Lib.hid hs
      clear hf hnext hb1 hs1 hr1 c2 hs
      by_cases hpq : p = q
      · have e1 : (p == q) = true := by simp [hpq]
        have HX := Lib.hid (show false = x by cases x with | false => rfl | true => exact ((H1.out rfl p q hp hq (by rw [HF.out]; exact hc)).1 hpq).elim)
        clear hpq
        go_wp2_with fail
        refine wp_region_held_drew (S := fun Wx => (Wx.cell? ⟨w1.heap.size, 0, none⟩ = some (.int .i64 p) ∧ Wx.cell? ⟨w1.heap.size, 1, none⟩ = some (.int .i64 q) ∧ Wx.cell? ⟨w.heap.size, 1, none⟩ = some (.map (some b))) ∧ Hid (Below W2.heap.size W2 Wx ∧ Rels Wx f b)) (by kernel_rfl) ?_ (fun hHeld => ?_)
        · exact ⟨HC2.out, Lib.hid ⟨(Below.refl _ W2).drew, HR2.out.below (Below.refl _ W2).drew⟩⟩
        refine takeH (i := 0) (v := ?_) rfl rfl (by kernel_rfl) (by kernel_rfl) (by kernel_rfl) (fun _ _ _ h => h) (by rfl) ?_ (by assumption) ?_
        rotate_left 1
        · intro w hSw
          (try dsimp only at hSw)
          go_simp
          try with_reducible rfl
        try simp only [List.setIfInBounds_toArray, List.set_cons_zero, List.set_cons_succ]
        refine takeH (i := 1) (v := ?_) rfl rfl (by kernel_rfl) (by kernel_rfl) (by kernel_rfl) (fun _ _ _ h => h) (by rfl) ?_ (by assumption) ?_
        rotate_left 1
        · intro w hSw
          (try dsimp only at hSw)
          go_simp
          try with_reducible rfl
        try simp only [List.setIfInBounds_toArray, List.set_cons_zero, List.set_cons_succ]
        refine takeH (i := 2) (v := ?_) rfl rfl (by kernel_rfl) (by kernel_rfl) (by kernel_rfl) (fun _ _ _ h => h) (by rfl) ?_ (by assumption) ?_
        rotate_left 1
        · intro w hSw
          (try dsimp only at hSw)
          go_simp
          try with_reducible rfl
        try simp only [List.setIfInBounds_toArray, List.set_cons_zero, List.set_cons_succ]
        refine takeH (i := 3) (v := ?_) rfl rfl (by kernel_rfl) (by kernel_rfl) (by kernel_rfl) (fun _ _ _ h => h) (by rfl) ?_ (by assumption) ?_
        rotate_left 1
        · intro w hSw
          (try dsimp only at hSw)
          go_simp
          try with_reducible rfl
        try simp only [List.setIfInBounds_toArray, List.set_cons_zero, List.set_cons_succ]
        refine takeH (i := 4) (v := ?_) rfl rfl (by kernel_rfl) (by kernel_rfl) (by kernel_rfl) (fun _ _ _ h => h) (by rfl) ?_ (by assumption) ?_
        rotate_left 1
        · intro w hSw
          (try dsimp only at hSw)
          go_simp
          try with_reducible rfl
        try simp only [List.setIfInBounds_toArray, List.set_cons_zero, List.set_cons_succ]
        refine takeH (i := 5) (v := ?_) rfl rfl (by kernel_rfl) (by kernel_rfl) (by kernel_rfl) (fun _ _ _ h => h) (by rfl) ?_ (by assumption) ?_
        rotate_left 1
        · intro w hSw
          (try dsimp only at hSw)
          go_simp
          try with_reducible rfl
        try simp only [List.setIfInBounds_toArray, List.set_cons_zero, List.set_cons_succ]
        refine skipH (i := 6) rfl rfl (by kernel_rfl) (by kernel_rfl) (by kernel_rfl) (fun _ _ _ h => h) (by rfl) (by assumption) ?_
        try simp only [List.setIfInBounds_toArray, List.set_cons_zero, List.set_cons_succ]
        refine skipH (i := 7) rfl rfl (by kernel_rfl) (by kernel_rfl) (by kernel_rfl) (fun _ _ _ h => h) (by rfl) (by assumption) ?_
        try simp only [List.setIfInBounds_toArray, List.set_cons_zero, List.set_cons_succ]
        refine skipH (i := 8) rfl rfl (by kernel_rfl) (by kernel_rfl) (by kernel_rfl) (fun _ _ _ h => h) (by rfl) (by assumption) ?_
        try simp only [List.setIfInBounds_toArray, List.set_cons_zero, List.set_cons_succ]
        refine skipH (i := 9) rfl rfl (by kernel_rfl) (by kernel_rfl) (by kernel_rfl) (fun _ _ _ h => h) (by rfl) (by assumption) ?_
        try simp only [List.setIfInBounds_toArray, List.set_cons_zero, List.set_cons_succ]
        refine skipH (i := 10) rfl rfl (by kernel_rfl) (by kernel_rfl) (by kernel_rfl) (fun _ _ _ h => h) (by rfl) (by assumption) ?_
        try simp only [List.setIfInBounds_toArray, List.set_cons_zero, List.set_cons_succ]
        refine skipH (i := 11) rfl rfl (by kernel_rfl) (by kernel_rfl) (by kernel_rfl) (fun _ _ _ h => h) (by rfl) (by assumption) ?_
        try simp only [List.setIfInBounds_toArray, List.set_cons_zero, List.set_cons_succ]
        refine skipH (i := 12) rfl rfl (by kernel_rfl) (by kernel_rfl) (by kernel_rfl) (fun _ _ _ h => h) (by rfl) (by assumption) ?_
        try simp only [List.setIfInBounds_toArray, List.set_cons_zero, List.set_cons_succ]
        refine skipH (i := 13) rfl rfl (by kernel_rfl) (by kernel_rfl) (by kernel_rfl) (fun _ _ _ h => h) (by rfl) (by assumption) ?_
        try simp only [List.setIfInBounds_toArray, List.set_cons_zero, List.set_cons_succ]
        refine takeH (i := 14) (v := ?_) rfl rfl (by kernel_rfl) (by kernel_rfl) (by kernel_rfl) (fun _ _ _ h => h) (by rfl) ?_ (by assumption) ?_
        rotate_left 1
        · intro w hSw
          (try dsimp only at hSw)
          go_simp
          try with_reducible rfl
        try simp only [List.setIfInBounds_toArray, List.set_cons_zero, List.set_cons_succ]
        refine wpAnyH_done (by kernel_rfl) ?_ _
        have HB3 := Lib.hid (next HW2.out hHeld.2.out.1)
        clear hHeld
        go_wp2_with fail
        go_ret
        exact ⟨ret_bool HX.out, HB3.out⟩
      have e1 : (p == q) = false := by simp [hpq]
      by_cases hag : s = relB c
      · have e2 : (s != relB c) = false := by simp [hag]
        have HA := Lib.hid (show agr f p q from ⟨hpq, by rw [HS.out, HF.out]; exact hag⟩)
        clear hpq hag
        go_wp2_with fail
        refine wp_region_held_drew (S := fun Wx => (Wx.cell? ⟨w1.heap.size, 0, none⟩ = some (.int .i64 p) ∧ Wx.cell? ⟨w1.heap.size, 1, none⟩ = some (.int .i64 q) ∧ Wx.cell? ⟨w.heap.size, 1, none⟩ = some (.map (some b))) ∧ Hid (Below W2.heap.size W2 Wx ∧ Rels Wx f b)) (by kernel_rfl) ?_ (fun hHeld => ?_)
        · exact ⟨HC2.out, Lib.hid ⟨(Below.refl _ W2).drew, HR2.out.below (Below.refl _ W2).drew⟩⟩
        refine takeH (i := 0) (v := ?_) rfl rfl (by kernel_rfl) (by kernel_rfl) (by kernel_rfl) (fun _ _ _ h => h) (by rfl) ?_ (by assumption) ?_
        rotate_left 1
        · intro w hSw
          (try dsimp only at hSw)
          go_simp
          try with_reducible rfl
        try simp only [List.setIfInBounds_toArray, List.set_cons_zero, List.set_cons_succ]
        refine takeH (i := 1) (v := ?_) rfl rfl (by kernel_rfl) (by kernel_rfl) (by kernel_rfl) (fun _ _ _ h => h) (by rfl) ?_ (by assumption) ?_
        rotate_left 1
        · intro w hSw
          (try dsimp only at hSw)
          go_simp
          try with_reducible rfl
        try simp only [List.setIfInBounds_toArray, List.set_cons_zero, List.set_cons_succ]
        refine takeH (i := 2) (v := ?_) rfl rfl (by kernel_rfl) (by kernel_rfl) (by kernel_rfl) (fun _ _ _ h => h) (by rfl) ?_ (by assumption) ?_
        rotate_left 1
        · intro w hSw
          (try dsimp only at hSw)
          go_simp
          try with_reducible rfl
        try simp only [List.setIfInBounds_toArray, List.set_cons_zero, List.set_cons_succ]
        refine takeH (i := 3) (v := ?_) rfl rfl (by kernel_rfl) (by kernel_rfl) (by kernel_rfl) (fun _ _ _ h => h) (by rfl) ?_ (by assumption) ?_
        rotate_left 1
        · intro w hSw
          (try dsimp only at hSw)
          go_simp
          try with_reducible rfl
        try simp only [List.setIfInBounds_toArray, List.set_cons_zero, List.set_cons_succ]
        refine takeH (i := 4) (v := ?_) rfl rfl (by kernel_rfl) (by kernel_rfl) (by kernel_rfl) (fun _ _ _ h => h) (by rfl) ?_ (by assumption) ?_
        rotate_left 1
        · intro w hSw
          (try dsimp only at hSw)
          go_simp
          try with_reducible rfl
        try simp only [List.setIfInBounds_toArray, List.set_cons_zero, List.set_cons_succ]
        refine takeH (i := 5) (v := ?_) rfl rfl (by kernel_rfl) (by kernel_rfl) (by kernel_rfl) (fun _ _ _ h => h) (by rfl) ?_ (by assumption) ?_
        rotate_left 1
        · intro w hSw
          (try dsimp only at hSw)
          go_simp
          try with_reducible rfl
        try simp only [List.setIfInBounds_toArray, List.set_cons_zero, List.set_cons_succ]
        refine takeH (i := 6) (v := ?_) rfl rfl (by kernel_rfl) (by kernel_rfl) (by kernel_rfl) (fun _ _ _ h => h) (by rfl) ?_ (by assumption) ?_
        rotate_left 1
        · intro w hSw
          (try dsimp only at hSw)
          go_simp
          try with_reducible rfl
        try simp only [List.setIfInBounds_toArray, List.set_cons_zero, List.set_cons_succ]
        refine takeH (i := 7) (v := ?_) rfl rfl (by kernel_rfl) (by kernel_rfl) (by kernel_rfl) (fun _ _ _ h => h) (by rfl) ?_ (by assumption) ?_
        rotate_left 1
        · intro w hSw
          (try dsimp only at hSw)
          go_simp
          try with_reducible rfl
        try simp only [List.setIfInBounds_toArray, List.set_cons_zero, List.set_cons_succ]
        refine takeH (i := 8) (v := ?_) rfl rfl (by kernel_rfl) (by kernel_rfl) (by kernel_rfl) (fun _ _ _ h => h) (by rfl) ?_ (by assumption) ?_
        rotate_left 1
        · intro w hSw
          (try dsimp only at hSw)
          go_simp
          try with_reducible rfl
        try simp only [List.setIfInBounds_toArray, List.set_cons_zero, List.set_cons_succ]
        refine takeH (i := 11) (v := ?_) rfl rfl (by kernel_rfl) (by kernel_rfl) (by kernel_rfl) (fun _ _ _ h => h) (by rfl) ?_ (by assumption) ?_
        rotate_left 1
        · intro w hSw
          (try dsimp only at hSw)
          go_simp
          try with_reducible rfl
        try simp only [List.setIfInBounds_toArray, List.set_cons_zero, List.set_cons_succ]
        refine wpAnyH_ready (rs := [9]) (by kernel_rfl) (by simp) ?_
        refine AllReadyH.cons rfl (fun K hK => ?_) (AllReadyH.nil)
        go_simp
        refine (turned_is p q _).mono ?_
        rintro e wq ⟨rfl, bq⟩
        go_wp2_with fail
        refine hK.out _ _ ?_ (fun hNew => ?_)
        · exact ⟨⟨cell_later bq hHeld.1.1, cell_later bq hHeld.1.2.1, cell_later bq hHeld.1.2.2⟩, Lib.hid ⟨next hHeld.2.out.1 bq, hHeld.2.out.2.below bq⟩⟩
        clear hK K hHeld
        have hHeld := hNew
        clear hNew
        try simp only [Act.put, List.setIfInBounds_toArray, List.set_cons_zero, List.set_cons_succ]
        refine takeH (i := 10) (v := ?_) rfl rfl (by kernel_rfl) (by kernel_rfl) (by kernel_rfl) (fun _ _ _ h => h) (by rfl) ?_ (by assumption) ?_
        rotate_left 1
        · intro w hSw
          (try dsimp only at hSw)
          go_simp
          rw [look_K hSw.2.out.2 hq hp, HS.out]
          rfl
          try with_reducible rfl
        try simp only [List.setIfInBounds_toArray, List.set_cons_zero, List.set_cons_succ]
        refine wpAnyH_ready (rs := [12]) (by kernel_rfl) (by simp) ?_
        refine AllReadyH.cons rfl (fun K hK => ?_) (AllReadyH.nil)
        go_simp
        refine (seen_is c _).mono ?_
        rintro e wq ⟨rfl, rfl⟩
        go_wp2_with fail
        refine hK.out _ _ ?_ (fun hNew => ?_)
        · exact hHeld
        clear hK K hHeld
        have hHeld := hNew
        clear hNew
        try simp only [Act.put, List.setIfInBounds_toArray, List.set_cons_zero, List.set_cons_succ]
        refine takeH (i := 13) (v := ?_) rfl rfl (by kernel_rfl) (by kernel_rfl) (by kernel_rfl) (fun _ _ _ h => h) (by rfl) ?_ (by assumption) ?_
        rotate_left 1
        · intro w hSw
          (try dsimp only at hSw)
          go_simp
          try with_reducible rfl
        try simp only [List.setIfInBounds_toArray, List.set_cons_zero, List.set_cons_succ]
        refine takeH (i := 14) (v := ?_) rfl rfl (by kernel_rfl) (by kernel_rfl) (by kernel_rfl) (fun _ _ _ h => h) (by rfl) ?_ (by assumption) ?_
        rotate_left 1
        · intro w hSw
          (try dsimp only at hSw)
          go_simp
          try with_reducible rfl
        try simp only [List.setIfInBounds_toArray, List.set_cons_zero, List.set_cons_succ]
        refine wpAnyH_done (by kernel_rfl) ?_ _
        obtain ⟨left', cnt', RG1, DN1, hlt⟩ := HNX.out HA.out
        have hbx := next HB2.out hHeld.2.out.1
        have RG3 := Lib.hid (RG1.below hbx)
        have BW3 := Lib.hid (BW1.out.trans (hbx.mono BW1.out.size))
        have DN3 := Lib.hid DN1
        clear RG1 DN1 hbx hHeld
        go_wp2_with fail
        go_roundw
        case rel => exact ⟨left', cnt', RG3, DN3, BW3⟩
        case measure => rw [RG3.out.left_eq, RG.out.left_eq]; exact hlt
      · have e2 : (s != relB c) = true := by simp [hag]
        have HX := Lib.hid (show false = x by cases x with | false => rfl | true => exact (hag (by rw [← HS.out, ← HF.out]; exact (H1.out rfl p q hp hq (by rw [HF.out]; exact hc)).2)).elim)
        clear hpq hag
        go_wp2_with fail
        refine wp_region_held_drew (S := fun Wx => (Wx.cell? ⟨w1.heap.size, 0, none⟩ = some (.int .i64 p) ∧ Wx.cell? ⟨w1.heap.size, 1, none⟩ = some (.int .i64 q) ∧ Wx.cell? ⟨w.heap.size, 1, none⟩ = some (.map (some b))) ∧ Hid (Below W2.heap.size W2 Wx ∧ Rels Wx f b)) (by kernel_rfl) ?_ (fun hHeld => ?_)
        · exact ⟨HC2.out, Lib.hid ⟨(Below.refl _ W2).drew, HR2.out.below (Below.refl _ W2).drew⟩⟩
        refine takeH (i := 0) (v := ?_) rfl rfl (by kernel_rfl) (by kernel_rfl) (by kernel_rfl) (fun _ _ _ h => h) (by rfl) ?_ (by assumption) ?_
        rotate_left 1
        · intro w hSw
          (try dsimp only at hSw)
          go_simp
          try with_reducible rfl
        try simp only [List.setIfInBounds_toArray, List.set_cons_zero, List.set_cons_succ]
        refine takeH (i := 1) (v := ?_) rfl rfl (by kernel_rfl) (by kernel_rfl) (by kernel_rfl) (fun _ _ _ h => h) (by rfl) ?_ (by assumption) ?_
        rotate_left 1
        · intro w hSw
          (try dsimp only at hSw)
          go_simp
          try with_reducible rfl
        try simp only [List.setIfInBounds_toArray, List.set_cons_zero, List.set_cons_succ]
        refine takeH (i := 2) (v := ?_) rfl rfl (by kernel_rfl) (by kernel_rfl) (by kernel_rfl) (fun _ _ _ h => h) (by rfl) ?_ (by assumption) ?_
        rotate_left 1
        · intro w hSw
          (try dsimp only at hSw)
          go_simp
          try with_reducible rfl
        try simp only [List.setIfInBounds_toArray, List.set_cons_zero, List.set_cons_succ]
        refine takeH (i := 3) (v := ?_) rfl rfl (by kernel_rfl) (by kernel_rfl) (by kernel_rfl) (fun _ _ _ h => h) (by rfl) ?_ (by assumption) ?_
        rotate_left 1
        · intro w hSw
          (try dsimp only at hSw)
          go_simp
          try with_reducible rfl
        try simp only [List.setIfInBounds_toArray, List.set_cons_zero, List.set_cons_succ]
        refine takeH (i := 4) (v := ?_) rfl rfl (by kernel_rfl) (by kernel_rfl) (by kernel_rfl) (fun _ _ _ h => h) (by rfl) ?_ (by assumption) ?_
        rotate_left 1
        · intro w hSw
          (try dsimp only at hSw)
          go_simp
          try with_reducible rfl
        try simp only [List.setIfInBounds_toArray, List.set_cons_zero, List.set_cons_succ]
        refine takeH (i := 5) (v := ?_) rfl rfl (by kernel_rfl) (by kernel_rfl) (by kernel_rfl) (fun _ _ _ h => h) (by rfl) ?_ (by assumption) ?_
        rotate_left 1
        · intro w hSw
          (try dsimp only at hSw)
          go_simp
          try with_reducible rfl
        try simp only [List.setIfInBounds_toArray, List.set_cons_zero, List.set_cons_succ]
        refine takeH (i := 6) (v := ?_) rfl rfl (by kernel_rfl) (by kernel_rfl) (by kernel_rfl) (fun _ _ _ h => h) (by rfl) ?_ (by assumption) ?_
        rotate_left 1
        · intro w hSw
          (try dsimp only at hSw)
          go_simp
          try with_reducible rfl
        try simp only [List.setIfInBounds_toArray, List.set_cons_zero, List.set_cons_succ]
        refine takeH (i := 7) (v := ?_) rfl rfl (by kernel_rfl) (by kernel_rfl) (by kernel_rfl) (fun _ _ _ h => h) (by rfl) ?_ (by assumption) ?_
        rotate_left 1
        · intro w hSw
          (try dsimp only at hSw)
          go_simp
          try with_reducible rfl
        try simp only [List.setIfInBounds_toArray, List.set_cons_zero, List.set_cons_succ]
        refine takeH (i := 8) (v := ?_) rfl rfl (by kernel_rfl) (by kernel_rfl) (by kernel_rfl) (fun _ _ _ h => h) (by rfl) ?_ (by assumption) ?_
        rotate_left 1
        · intro w hSw
          (try dsimp only at hSw)
          go_simp
          try with_reducible rfl
        try simp only [List.setIfInBounds_toArray, List.set_cons_zero, List.set_cons_succ]
        refine takeH (i := 11) (v := ?_) rfl rfl (by kernel_rfl) (by kernel_rfl) (by kernel_rfl) (fun _ _ _ h => h) (by rfl) ?_ (by assumption) ?_
        rotate_left 1
        · intro w hSw
          (try dsimp only at hSw)
          go_simp
          try with_reducible rfl
        try simp only [List.setIfInBounds_toArray, List.set_cons_zero, List.set_cons_succ]
        refine wpAnyH_ready (rs := [9]) (by kernel_rfl) (by simp) ?_
        refine AllReadyH.cons rfl (fun K hK => ?_) (AllReadyH.nil)
        go_simp
        refine (turned_is p q _).mono ?_
        rintro e wq ⟨rfl, bq⟩
        go_wp2_with fail
        refine hK.out _ _ ?_ (fun hNew => ?_)
        · exact ⟨⟨cell_later bq hHeld.1.1, cell_later bq hHeld.1.2.1, cell_later bq hHeld.1.2.2⟩, Lib.hid ⟨next hHeld.2.out.1 bq, hHeld.2.out.2.below bq⟩⟩
        clear hK K hHeld
        have hHeld := hNew
        clear hNew
        try simp only [Act.put, List.setIfInBounds_toArray, List.set_cons_zero, List.set_cons_succ]
        refine takeH (i := 10) (v := ?_) rfl rfl (by kernel_rfl) (by kernel_rfl) (by kernel_rfl) (fun _ _ _ h => h) (by rfl) ?_ (by assumption) ?_
        rotate_left 1
        · intro w hSw
          (try dsimp only at hSw)
          go_simp
          rw [look_K hSw.2.out.2 hq hp, HS.out]
          rfl
          try with_reducible rfl
        try simp only [List.setIfInBounds_toArray, List.set_cons_zero, List.set_cons_succ]
        refine wpAnyH_ready (rs := [12]) (by kernel_rfl) (by simp) ?_
        refine AllReadyH.cons rfl (fun K hK => ?_) (AllReadyH.nil)
        go_simp
        refine (seen_is c _).mono ?_
        rintro e wq ⟨rfl, rfl⟩
        go_wp2_with fail
        refine hK.out _ _ ?_ (fun hNew => ?_)
        · exact hHeld
        clear hK K hHeld
        have hHeld := hNew
        clear hNew
        try simp only [Act.put, List.setIfInBounds_toArray, List.set_cons_zero, List.set_cons_succ]
        refine takeH (i := 13) (v := ?_) rfl rfl (by kernel_rfl) (by kernel_rfl) (by kernel_rfl) (fun _ _ _ h => h) (by rfl) ?_ (by assumption) ?_
        rotate_left 1
        · intro w hSw
          (try dsimp only at hSw)
          go_simp
          try with_reducible rfl
        try simp only [List.setIfInBounds_toArray, List.set_cons_zero, List.set_cons_succ]
        refine takeH (i := 14) (v := ?_) rfl rfl (by kernel_rfl) (by kernel_rfl) (by kernel_rfl) (fun _ _ _ h => h) (by rfl) ?_ (by assumption) ?_
        rotate_left 1
        · intro w hSw
          (try dsimp only at hSw)
          go_simp
          try with_reducible rfl
        try simp only [List.setIfInBounds_toArray, List.set_cons_zero, List.set_cons_succ]
        refine wpAnyH_done (by kernel_rfl) ?_ _
        have HB3 := Lib.hid (next HW2.out hHeld.2.out.1)
        clear hHeld
        go_wp2_with fail
        go_ret
        exact ⟨ret_bool HX.out, HB3.out⟩
end Go.Proofs.Ytnljcppefnaapaa
