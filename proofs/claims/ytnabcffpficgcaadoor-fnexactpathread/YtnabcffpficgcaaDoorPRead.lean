/-
  Reading a path: what the model answers.
-/
import Derived.Test.YtnabcffpficgcaaDoorPText
import Derived.Test.YtnabcffpficgcaaDoorPDraw
import Derived.Test.YtnabcffpficgcaaDoorMathQ
namespace Go.Proofs.YtnabcffpficgcaaDoor
open Go.RowKit
set_option linter.unusedSimpArgs false
set_option linter.unusedVariables false

theorem pat_byte (s : ByteArray) (k : Nat) (h : k < s.size) : s.data.toList[k]? = some (s[k]'h) := by
  rw [List.getElem?_eq_getElem (by simpa using h)]; rfl
theorem bytes_nil {s : ByteArray} (h : s.size = 0) : s = ⟨#[]⟩ := ByteArray.ext (Array.eq_empty_of_size_eq_zero h)
theorem point_ne {s : ByteArray} (h : s ≠ ⟨#[46]⟩) : (s.toList == ([46] : List UInt8)) = false := by
  have := bytes_ne h
  rwa [show (⟨#[46]⟩ : ByteArray).toList = [46] from by rw [ByteArray.toList_eq]] at this
theorem empty_ne {s : ByteArray} (h : s.size ≠ 0) : (s.toList == ([] : List UInt8)) = false := by
  have := bytes_ne (a := s) (b := ⟨#[]⟩) (fun e => h (by rw [e]; rfl))
  rwa [show (⟨#[]⟩ : ByteArray).toList = [] from by rw [ByteArray.toList_eq]] at this

set_option maxRecDepth 100000 in
set_option maxHeartbeats 1000000 in
theorem sread_point (w : World) : Calls Tryd.prog 30 #[.string ⟨#[46]⟩] w (OwnA w ([], true)) := by
  have HO := Lib.hid (owni_empty w w.heap.size (Nat.le_refl _))
  have HB := Lib.hid ((Below.refl w.heap.size w).alloc (Nat.le_refl _) (.cells #[] 3))
  have hi := (OwnI.intA HO.out).2.2
  have HI := Lib.hid hi
  clear hi
  go_enter Tryd.func30, Tryd.ntmps30
  go_wp2_with fail
  refine wp_loop_rounds 1 ?_
  rw [rounds_succ]
  go_wp2_with fail
  refine (stext_is (L := []) ptext_nil _ _ _ _ rfl HI.out (by simp) (by simp)).mono ?_
  rintro e w2 ⟨rfl, hb⟩
  have R := Lib.hid (And.intro (owni_later HO.out hb) (next HB.out hb))
  clear hb
  go_wp2_with fail
  go_ret2
  exact ⟨_, rfl, R.out.1, R.out.2⟩
set_option maxRecDepth 100000 in
set_option maxHeartbeats 2000000 in
theorem sread_rest (s : ByteArray) (hd : s ≠ ⟨#[46]⟩) (w : World) (hz : s.size ≤ 1048576) : Calls Tryd.prog 30 #[.string s] w (OwnA w (pread s)) := by
  have HO := Lib.hid (owni_empty w w.heap.size (Nat.le_refl _))
  have HB := Lib.hid ((Below.refl w.heap.size w).alloc (Nat.le_refl _) (.cells #[] 3))
  have hd1 := point_ne hd
  have hd2 : (s.toList != ([46] : List UInt8)) = true := by rw [bne, hd1]; rfl
  have HP : Hid (preadL s = evens s.data.toList) := Lib.hid (by rw [preadL, if_neg hd])
  have hlen : Hid (s.data.toList.length = s.size) := Lib.hid (by simp)
  clear hd
  go_enter Tryd.func30, Tryd.ntmps30
  go_wp2_with fail
  go_loopw [4, 5] (fun v i wr => ∃ (k : Nat) (M : List Int), 2 * k ≤ s.size + 1 ∧ i = .int .i64 ((2 * k : Nat) : Int) ∧ Hid (M = evens (s.data.toList.take (2 * k))) ∧ Hid (M.length ≤ s.size) ∧ OwnI wr w.heap.size v M ∧ Below w.heap.size w wr) (fun _ i _ => s.size + 1 - (intOf i).toNat)
  case atStart => exact ⟨0, [], by omega, rfl, Lib.hid rfl, Lib.hid (Nat.zero_le _), HO.out, HB.out⟩
  case round =>
    obtain ⟨k, M, hk, rfl, hM, hMl, ho, hb⟩ := hrel
    obtain ⟨av, pv, rfl, hcv, tv⟩ := OwnI.tab ho
    clear HO HB tv
    have HQ := Lib.hid (And.intro ho hb)
    have hsb := hb.size
    clear ho hb
    by_cases hlt : 2 * k < s.size
    · have HC := Lib.hid (pat_byte s (2 * k) hlt)
      have hM2 := hMl.out
      generalize hx : s[2 * k]'hlt = c at *
      generalize hq : 2 * k = q at *
      have hc : c.toNat < 256 := c.toNat_lt
      have hq1 : q + 2 ≤ s.size + 2 := by omega
      have HE : Hid (M ++ [(c.toNat : Int) - 48] = evens (s.data.toList.take (q + 2))) := Lib.hid (by
        have h1 := HC.out
        rw [← hq] at h1 ⊢
        rw [evens_step s.data.toList k c h1, hM.out, hq])
      have HE2 : Hid ((M ++ [(c.toNat : Int) - 48]).length ≤ s.size) := Lib.hid (by
        rw [HE.out]
        have h1 := evens_len (s.data.toList.take (q + 2))
        have h2 : (s.data.toList.take (q + 2)).length ≤ s.data.toList.length := by rw [List.length_take]; omega
        rw [hlen.out] at h2
        omega)
      go_wp2_with (first | (at_builtin; refine wpList_appI rfl (.tmp 17) (.tmp 23) rfl w.heap.size _ M rfl (HQ.out.1.alloc _) _ 1 [(c.toNat : Int) - 48] rfl (pnews1 wr _) (by simp) (by simp; omega) (by simp only [World.size_alloc]; omega) ?_; intro v5 w5 own5 grow5))
      have R : Hid (OwnI w5 w.heap.size v5 (M ++ [(c.toNat : Int) - 48]) ∧ Below w.heap.size w w5) := Lib.hid ⟨own5, (HQ.out.2.alloc hsb _).trans (appi_below (HQ.out.1.alloc _) grow5 (by simp only [World.size_alloc]; omega))⟩
      clear own5 grow5 HQ
      go_wp2_with fail
      go_roundw
      case rel => exact ⟨k + 1, _, by omega, by rw [← hq]; go_num, Lib.hid (by rw [HE.out, ← hq]; rfl), HE2, R.out.1, R.out.2⟩
      case measure => simp [intOf]; omega
    · have HX : Hid (M = preadL s) := Lib.hid (by rw [hM.out, HP.out, List.take_of_length_le (by rw [hlen.out]; omega)])
      have hM2 := hMl.out
      have n1 : ¬ ((2 * k : Nat) : Int) < (s.size : Int) := by omega
      by_cases h0 : s.size = 0
      · obtain rfl := bytes_nil h0
        have HR : Hid (pread ⟨#[]⟩ = ([], false)) := Lib.hid (by rw [pread, if_pos (.inl rfl)])
        have HN := Lib.hid (owni_empty wr w.heap.size hsb)
        go_wp2_with fail
        go_ret2
        rw [HR.out]
        exact ⟨_, rfl, HN.out, HQ.out.2.alloc hsb _⟩
      have e0 := empty_ne h0
      by_cases h9 : 9 < s.size
      · have HR : Hid (pread s = ([], false)) := Lib.hid (by rw [pread, if_pos (.inr (.inl h9))])
        have HN := Lib.hid (owni_empty wr w.heap.size hsb)
        go_wp2_with fail
        go_ret2
        rw [HR.out]
        exact ⟨_, rfl, HN.out, HQ.out.2.alloc hsb _⟩
      obtain ⟨t, ht⟩ : ∃ t, ptext M = t := ⟨_, rfl⟩
      by_cases hts : t = s
      · have HR : Hid (pread s = (M, true)) := Lib.hid (by rw [pread, if_neg, HX.out]; rintro (h | h | h); exact h0 h; exact h9 h; exact h (by rw [← HX.out, ht, hts]))
        subst hts
        have HT := Lib.hid ht
        have hts : (t.toList != t.toList) = false := by simp
        clear ht
        go_wp2_with fail
        refine (stext_is HT.out _ _ _ _ rfl (OwnI.intA HQ.out.1).2.2 hcv (by omega)).mono ?_
        rintro e w2 ⟨rfl, hb⟩
        have R := Lib.hid (And.intro (owni_later HQ.out.1 hb) (next HQ.out.2 hb))
        clear hb
        go_wp2_with fail
        go_ret2
        rw [HR.out]
        exact ⟨_, rfl, R.out.1, R.out.2⟩
      · have HR : Hid (pread s = ([], false)) := Lib.hid (by rw [pread, if_pos]; exact .inr (.inr (by rw [← HX.out, ht]; exact hts)))
        have HT := Lib.hid ht
        have hts' : (t.toList == s.toList) = false := bytes_ne hts
        clear ht
        go_wp2_with fail
        refine (stext_is HT.out _ _ _ _ rfl (OwnI.intA HQ.out.1).2.2 hcv (by omega)).mono ?_
        rintro e w2 ⟨rfl, hb⟩
        have R := Lib.hid (next HQ.out.2 hb)
        have HN := Lib.hid (owni_empty w2 w.heap.size R.out.size)
        have hs2 := R.out.size
        clear hb
        go_wp2_with fail
        go_ret2
        rw [HR.out]
        exact ⟨_, rfl, HN.out, R.out.alloc hs2 _⟩
theorem sread_is {s : ByteArray} {r : List Int × Bool} (k : pread s = r) (w : World) (hz : s.size ≤ 1048576) : Calls Tryd.prog 30 #[.string s] w (OwnA w r) := by
  subst k
  by_cases hd : s = ⟨#[46]⟩
  · subst hd
    rw [← ptext_nil, pread_yes Path.nil, ptext_nil]
    exact sread_point w
  · exact sread_rest s hd w hz
end Go.Proofs.YtnabcffpficgcaaDoor
