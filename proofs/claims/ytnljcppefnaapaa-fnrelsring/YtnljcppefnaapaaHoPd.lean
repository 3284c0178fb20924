/-
  The program's relations: may, customersIn, next, order.
-/
import Derived.Test.YtnljcppefnaapaaHoPc
import Derived.Test.YtnljcppefnaapaaHoOrd
namespace Go.Proofs.Ytnljcppefnaapaa
open Go.RowKit
open Go.Maps (Keyed)
set_option linter.unusedSimpArgs false
set_option linter.unusedVariables false

def mayF (f : Int → Int → Int) (h o t : Int) : Bool := decide (f h t ≠ 0) && (decide (o = 0) || decide (f h o = 1) || decide (f h t = 1))
/-- the receiver's own variable -/
theorem rbox (w : World) (n b : Nat) : Below w.heap.size w (w.alloc (.cells #[.int .i64 (n : Int), .map (some b)] 50)) ∧ ((w.alloc (.cells #[.int .i64 (n : Int), .map (some b)] 50)).cell? ⟨w.heap.size, 0, none⟩ = some (.int .i64 (n : Int)) ∧ (w.alloc (.cells #[.int .i64 (n : Int), .map (some b)] 50)).cell? ⟨w.heap.size, 1, none⟩ = some (.map (some b))) ∧ w.heap.size < (w.alloc (.cells #[.int .i64 (n : Int), .map (some b)] 50)).heap.size :=
  ⟨(Below.refl _ _).alloc (Nat.le_refl _) _, ⟨by simp, by simp⟩, by simp⟩
set_option maxRecDepth 100000 in
set_option maxHeartbeats 1000000 in
theorem rmay_is {f : Int → Int → Int} {h o t : Int} {z : Bool} (hz : mayF f h o t = z) (n b : Nat) (w : World) (hR : Rels w f b) (ph : Iw h) (po : Iw o) (pt : Iw t) :
    Calls Try.prog 50 #[RelV n b, .int .i64 h, .int .i64 o, .int .i64 t] w fun e w' => e = .returned (.bool z) ∧ Below w.heap.size w w' := by
  have HZ := Lib.hid hz
  obtain ⟨hb, hc, hlt⟩ := rbox w n b
  obtain ⟨W, hW⟩ : ∃ W, w.alloc (.cells #[.int .i64 (n : Int), .map (some b)] 50) = W := ⟨_, rfl⟩
  rw [hW] at hb hc hlt
  have HR := Lib.hid (hR.below hb)
  have HB := Lib.hid hb
  obtain ⟨c0, c1⟩ := hc
  have HP := Lib.hid (And.intro ph (And.intro po pt))
  obtain ⟨r, hr⟩ : ∃ r, f h t = r := ⟨_, rfl⟩
  have HQ := Lib.hid hr
  clear hz hb hR ph po pt hr hlt
  go_enter Try.func50, Try.ntmps50
  go_wp2_with fail
  refine (between_is HQ.out n b _ HR.out HP.out.1 HP.out.2.2).mono ?_
  rintro e w1 ⟨rfl, b1⟩
  have HR1 := Lib.hid (HR.out.below b1)
  have HB1 := Lib.hid (next HB.out b1)
  have d0 := cell_later b1 c0
  have d1 := cell_later b1 c1
  clear b1 c0 c1
  by_cases h0 : r = 0
  · have e0 : (r == 0) = true := by simp [h0]
    have HX := Lib.hid (show false = z by rw [← HZ.out, mayF, HQ.out]; simp [h0])
    clear h0
    go_wp2_with fail
    go_ret
    exact ⟨ret_bool HX.out, HB1.out⟩
  have e0 : (r == 0) = false := by simp [h0]
  by_cases h1 : r = 1
  · have e1 : (r == 1) = true := by simp [h1]
    have HX := Lib.hid (show true = z by rw [← HZ.out, mayF, HQ.out]; simp [h1])
    clear h1 h0
    go_wp2_with fail
    go_ret
    exact ⟨ret_bool HX.out, HB1.out⟩
  have e1 : (r == 1) = false := by simp [h1]
  by_cases ho : o = 0
  · have e2 : (o == 0) = true := by simp [ho]
    have HX := Lib.hid (show true = z by rw [← HZ.out, mayF, HQ.out]; simp [h0, ho])
    clear h1 h0 ho
    go_wp2_with fail
    go_ret
    exact ⟨ret_bool HX.out, HB1.out⟩
  have e2 : (o == 0) = false := by simp [ho]
  obtain ⟨s, hs⟩ : ∃ s, f h o = s := ⟨_, rfl⟩
  have HS := Lib.hid hs
  have HX := Lib.hid (show (s == 1) = z by rw [← HZ.out, mayF, HQ.out, hs]; simp only [decide_eq_true h0, decide_eq_false ho, decide_eq_false h1, Bool.true_and, Bool.false_or, Bool.or_false]; by_cases e : s = 1 <;> simp [e])
  clear h1 h0 ho hs
  go_wp2_with fail
  refine (between_is HS.out n b _ HR1.out HP.out.1 HP.out.2.1).mono ?_
  rintro e w2 ⟨rfl, b2⟩
  have HB2 := Lib.hid (next HB1.out b2)
  clear b2
  go_wp2_with fail
  go_ret
  exact ⟨ret_bool HX.out, HB2.out⟩
def cuG (f : Int → Int → Int) (P : List Int) (h : Int) (p q : Int) : Prop := ¬ (p = h ∧ f p q = 1 ∧ q ∉ P)
set_option maxRecDepth 100000 in
set_option maxHeartbeats 2000000 in
theorem cust_is {f : Int → Int → Int} {P : List Int} {h : Int} {x : Bool} (h1 : x = true → ∀ p q, Iw p → Iw q → f p q ≠ 0 → cuG f P h p q) (h0 : (∀ p q, Iw p → Iw q → f p q ≠ 0 → cuG f P h p q) → x = true) (n b m cp : Nat) (a : Option Addr) (w : World) (hR : Rels w f b) (hm : m = P.length) (hI : IntA w a P) (hl : P.length ≤ 2000000) :
    Calls Try.prog 65 #[RelV n b, .slice a m cp, .int .i64 h] w fun e w' => e = .returned (.bool x) ∧ Below w.heap.size w w' := by
  subst hm
  have H1 := Lib.hid h1
  have H0 := Lib.hid h0
  obtain ⟨hb, hc, hWlt⟩ := rbox w n b
  obtain ⟨W, hW⟩ : ∃ W, w.alloc (.cells #[.int .i64 (n : Int), .map (some b)] 50) = W := ⟨_, rfl⟩
  rw [hW] at hb hc hWlt
  have HR := Lib.hid (hR.below hb)
  have HBW := Lib.hid hb
  have HI := Lib.hid (hI.below hb)
  obtain ⟨c0, c1⟩ := hc
  clear h1 h0 hb hR hI c0
  go_enter Try.func65, Try.ntmps65
  go_wp2_with (at_range; refine wpList_range_R rfl _ rfl f b rfl HR.out (cuG f P h) ?_; intro w0 left0 cnt0 hrg0 hdon0 hb0 hs0)
  have R0 := Lib.hid hrg0
  have D0 := Lib.hid hdon0
  have B0 := Lib.hid hb0
  clear hrg0 hdon0 hb0 hs0 c1
  go_frame
  go_loopw [7, 8] (fun _ _ wr => ∃ left cnt, Hid (Rg wr f b W.heap.size left cnt) ∧ Hid (Don f left (cuG f P h)) ∧ Hid (Below W.heap.size W wr)) (fun _ _ wr => wr.rangeLeft b W.heap.size)
  case atStart => exact ⟨left0, cnt0, R0, D0, B0⟩
  case round =>
    obtain ⟨left, cnt, RG, DN, BW⟩ := hrel
    have HWr := Lib.hid (HBW.out.trans (BW.out.mono HBW.out.size))
    clear R0 D0 B0
    go_wp2_with (at_next; refine wpList_next_R rfl _ rfl f b W.heap.size left cnt rfl RG.out (cuG f P h) DN.out W.heap.size (Nat.le_refl _) ?_ ?_)
    · intro hall
      have HX := Lib.hid (H0.out hall)
      clear hall
      go_wp2_with fail
      go_ret
      exact ⟨ret_bool HX.out.symm, HWr.out⟩
    · intro p q c w1 hf hp hq hc hnext hr1 hb1 hs1 hen
      have HF := Lib.hid hf
      have HNX := Lib.hid hnext
      have BW1 := Lib.hid (BW.out.trans hb1)
      obtain ⟨W2, hW2⟩ : ∃ W2, w1.alloc (.cells #[.int .i64 p, .int .i64 q] 63) = W2 := ⟨_, rfl⟩
      have z0 : W2.cell? ⟨w1.heap.size, 0, none⟩ = some (.int .i64 p) := by rw [← hW2]; simp
      have z1 : W2.cell? ⟨w1.heap.size, 1, none⟩ = some (.int .i64 q) := by rw [← hW2]; simp
      have hb2 : Below w1.heap.size w1 W2 := by rw [← hW2]; exact (Below.refl _ _).alloc (Nat.le_refl _) _
      have HB2 := Lib.hid hb2
      have BW2 := Lib.hid (BW1.out.trans (hb2.mono BW1.out.size))
      have HW2 := Lib.hid (HBW.out.trans (BW2.out.mono HBW.out.size))
      have HI2 := Lib.hid (HI.out.below BW2.out)
      have HC := Lib.hid hc
      clear hf hnext hb1 hs1 hr1 hb2 hc
      have fin : ∀ hg : cuG f P h p q, ∃ left' cnt', Hid (Rg W2 f b W.heap.size left' cnt') ∧ Hid (Don f left' (cuG f P h)) ∧ cnt' < cnt := fun hg => by
        obtain ⟨left', cnt', RG1, DN1, hlt⟩ := HNX.out hg
        exact ⟨left', cnt', Lib.hid (RG1.below HB2.out), Lib.hid DN1, hlt⟩
      have FIN := Lib.hid fin
      clear fin
      by_cases hph : p = h
      · have e1 : (p == h) = true := by simp [hph]
        by_cases hc1 : c = 1
        · have e2 : (c == 1) = true := by simp [hc1]
          cases hin : decide (q ∈ P) with
          | true =>
            have HIN := Lib.hid hin
            obtain ⟨left', cnt', RG3, DN3, hlt⟩ := FIN.out (fun k => k.2.2 (of_decide_eq_true hin))
            clear hph hc1 hin
            go_wp2_with fail
            refine (contains_is HIN.out a cp _ _ rfl HI2.out hl).mono ?_
            rintro e wq ⟨rfl, rfl⟩
            go_wp2_with fail
            go_roundw
            case rel => exact ⟨left', cnt', RG3, DN3, BW2⟩
            case measure => rw [RG3.out.left_eq, RG.out.left_eq]; exact hlt
          | false =>
            have HIN := Lib.hid hin
            have HX := Lib.hid (show false = x by cases x with | false => rfl | true => exact (H1.out rfl p q hp hq (by rw [HF.out]; exact HC.out) ⟨hph, by rw [HF.out]; exact hc1, of_decide_eq_false hin⟩).elim)
            clear hph hc1 hin
            go_wp2_with fail
            refine (contains_is HIN.out a cp _ _ rfl HI2.out hl).mono ?_
            rintro e wq ⟨rfl, rfl⟩
            go_wp2_with fail
            go_ret
            exact ⟨ret_bool HX.out, HW2.out⟩
        · have e2 : (c == 1) = false := by simp [hc1]
          obtain ⟨left', cnt', RG3, DN3, hlt⟩ := FIN.out (fun k => hc1 (by rw [← HF.out]; exact k.2.1))
          clear hph hc1
          go_wp2_with fail
          go_roundw
          case rel => exact ⟨left', cnt', RG3, DN3, BW2⟩
          case measure => rw [RG3.out.left_eq, RG.out.left_eq]; exact hlt
      · have e1 : (p == h) = false := by simp [hph]
        obtain ⟨left', cnt', RG3, DN3, hlt⟩ := FIN.out (fun k => hph k.1)
        clear hph
        go_wp2_with fail
        go_roundw
        case rel => exact ⟨left', cnt', RG3, DN3, BW2⟩
        case measure => rw [RG3.out.left_eq, RG.out.left_eq]; exact hlt
end Go.Proofs.Ytnljcppefnaapaa
