/-
  The text of a path, as the model writes it.
-/
import Derived.Test.YtfjfcdifnfffbaaDoorPSpecB
import Derived.Test.YtfjfcdifnfffbaaDoorDoorA
namespace Go.Proofs.YtfjfcdifnfffbaaDoor
open Go.RowKit
set_option linter.unusedSimpArgs false
set_option linter.unusedVariables false

def jn : List Int → List UInt8
  | [] => []
  | h :: l => dgt h :: strk l
theorem strk_app (x : Int) : ∀ A : List Int, strk (A ++ [x]) = strk A ++ [45, dgt x]
  | [] => rfl
  | h :: l => by simp only [List.cons_append, strk, strk_app x l]
theorem jn_snoc {M : List Int} (h : M ≠ []) (x : Int) : jn (M ++ [x]) = jn M ++ [45] ++ [dgt x] := by
  cases M with
  | nil => exact (h rfl).elim
  | cons a l => simp only [List.cons_append, jn, strk_app]; simp
theorem ptxt_jn {L : List Int} (h : L ≠ []) : ptxt L = jn L := by
  cases L with
  | nil => exact (h rfl).elim
  | cons a l => rw [ptxt_cons]; rfl
theorem jn_len : ∀ L : List Int, (jn L).length ≤ 2 * L.length
  | [] => by simp [jn]
  | h :: l => by simp only [jn, List.length_cons, strk_len]; omega
theorem dec_house (x : Int) (w : World) (h1 : 1 ≤ x) (h5 : x ≤ 5) :
    Calls Tryd.prog 82 #[.int .i64 x] w fun e w' => e = .returned (.string ⟨#[dgt x]⟩) ∧ Below w.heap.size w w' := by
  have := dec_one x.toNat w (by omega)
  rw [Int.toNat_of_nonneg (by omega)] at this
  have e : (Lib.decDigits x.toNat).toArray = #[dgt x] := by
    rw [Lib.decDigits, dif_pos (by omega)]
    simp [dgt]
  rw [e] at this
  exact this

set_option maxRecDepth 4000 in
set_option maxHeartbeats 1000000 in
theorem stext_yes (L : List Int) (hp : Path L) (a : Option Addr) (cap : Nat) (w : World) (hL : IntA w a L) (hc : L.length ≤ cap) :
    Calls Tryd.prog 81 #[.slice a L.length cap] w fun e w' => e = .returned (.string ⟨(ptxt L).toArray⟩) ∧ Below w.heap.size w w' := by
  have h5 := hp.len
  have HP := Lib.hid hp
  have ho := pOk_yes hp
  clear hp
  go_enter Tryd.func81, Tryd.ntmps81
  go_wp2_with fail
  refine (psok_is ho a cap _ _ rfl hL hc (by omega)).mono ?_
  rintro e w1 ⟨rfl, hb1⟩
  have HI := Lib.hid hL
  have HB1 := Lib.hid hb1
  clear hL hb1 ho
  go_wp2_with fail
  go_loopw [3, 4] (fun o i wr => ∃ (k : Nat) (s : ByteArray), k ≤ L.length ∧ i = .int .i64 k ∧ o = .string s ∧ Hid (s = ⟨(jn (L.take k)).toArray⟩) ∧ s.size ≤ 2 * k ∧ Below w.heap.size w wr) (fun _ i _ => L.length - (intOf i).toNat)
  case atStart => exact ⟨0, ⟨#[]⟩, Nat.zero_le _, rfl, rfl, Lib.hid rfl, by decide, HB1.out⟩
  case round =>
    obtain ⟨k, s, hk, rfl, rfl, hs, hz, hb⟩ := hrel
    clear HB1
    by_cases hlt : k < L.length
    · obtain ⟨b, off, x, rfl, hLk, c0⟩ := (HI.out.below hb).at hlt
      have hx := HP.out.1 x (List.mem_of_getElem? hLk)
      have HK := Lib.hid hLk
      have HB := Lib.hid hb
      have i0 : (0 : Int) ≤ (k : Int) := by omega
      have i1 : (k : Int) < (L.length : Int) := by omega
      clear hb hLk
      obtain ⟨d, hd⟩ : ∃ d : ByteArray, d = ⟨#[dgt x]⟩ := ⟨_, rfl⟩
      have hd1 : d.size = 1 := by rw [hd]; rfl
      have HD := Lib.hid hd
      have hdec : ∀ W : World, Calls Tryd.prog 82 #[.int .i64 x] W fun e w' => e = .returned (.string d) ∧ Below W.heap.size W w' := fun W => by rw [hd]; exact dec_house x W hx.1 hx.2
      have HC := Lib.hid hdec
      clear hd hdec
      have l1 : ¬ 9223372036854775807 < s.size + 1 := by omega
      have l2 : ¬ 9223372036854775807 < s.size + 1 + 1 := by omega
      cases k with
      | zero =>
        simp only [Nat.add_zero] at c0
        go_wp2_with fail
        refine (HC.out _).mono ?_
        rintro e w2 ⟨rfl, hb2⟩
        have HB2 := Lib.hid (next HB.out hb2)
        have HS : Hid (s ++ d = ⟨(jn (L.take (0 + 1))).toArray⟩ ∧ (s ++ d).size ≤ 2 * (0 + 1)) := Lib.hid ⟨by
          rw [List.take_add_one, HK.out, hs.out, HD.out]; apply ByteArray.ext; simp [jn, strk], by rw [ByteArray.size_append]; omega⟩
        clear hb2
        go_wp2_with fail
        go_roundw
        case rel => exact ⟨1, _, by omega, by go_num, rfl, Lib.hid HS.out.1, HS.out.2, HB2.out⟩
        case measure => simp [intOf]; omega
      | succ k =>
        have i2 : (0 : Int) < (k : Int) + 1 := by omega
        go_wp2_with fail
        refine (HC.out _).mono ?_
        rintro e w2 ⟨rfl, hb2⟩
        have HB2 := Lib.hid (next HB.out hb2)
        have HS : Hid (s ++ ⟨#[45]⟩ ++ d = ⟨(jn (L.take (k + 1 + 1))).toArray⟩ ∧ (s ++ ⟨#[45]⟩ ++ d).size ≤ 2 * (k + 1 + 1)) := Lib.hid ⟨by
          rw [List.take_add_one, HK.out, hs.out, HD.out]
          have hne : L.take (k + 1) ≠ [] := fun e => by
            have h1 : (L.take (k + 1)).length = 0 := by rw [e]; rfl
            rw [List.length_take] at h1; omega
          rw [show (L.take (k + 1) ++ (some x).toList) = L.take (k + 1) ++ [x] from rfl, jn_snoc hne]
          apply ByteArray.ext; simp, by rw [ByteArray.size_append, ByteArray.size_append]; show s.size + 1 + d.size ≤ _; omega⟩
        clear hb2
        go_wp2_with fail
        go_roundw
        case rel => exact ⟨k + 1 + 1, _, by omega, by go_num, rfl, Lib.hid HS.out.1, HS.out.2, HB2.out⟩
        case measure => simp [intOf]; omega
    · obtain rfl : k = L.length := by omega
      have hs2 := hs.out
      rw [List.take_length] at hs2
      have HB := Lib.hid hb
      clear hb hs
      by_cases he : L = []
      · subst he
        have hs3 : s = ⟨#[]⟩ := hs2
        subst hs3
        clear hs2
        go_wp2_with fail
        go_ret
        exact ⟨rfl, HB.out⟩
      · have HR := Lib.hid (show s = ⟨(ptxt L).toArray⟩ by rw [ptxt_jn he]; exact hs2)
        have hne : (s.toList == ([] : List UInt8)) = false := by
          rw [beq_eq_false_iff_ne]
          intro k
          have : s.data.toList = [] := by simpa [ByteArray.toList_eq] using k
          rw [hs2] at this
          cases L with
          | nil => exact he rfl
          | cons a l => simp [jn] at this
        clear hs2
        go_wp2_with fail
        go_ret
        exact ⟨by rw [← HR.out]; rfl, HB.out⟩
end Go.Proofs.YtfjfcdifnfffbaaDoor
