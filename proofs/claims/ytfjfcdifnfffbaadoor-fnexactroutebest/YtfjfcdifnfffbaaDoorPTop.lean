/-
  What the program's functions on paths answer: ok, has, add, which stands ahead.
-/
import Derived.Test.YtfjfcdifnfffbaaDoorPBack
import Derived.Test.YtfjfcdifnfffbaaDoorPSpecB
namespace Go.Proofs.YtfjfcdifnfffbaaDoor
open Go.RowKit
set_option linter.unusedSimpArgs false
set_option linter.unusedVariables false

set_option maxHeartbeats 400000 in
theorem piok_is {L : List Int} {x : Bool} (k : pOk L = x) (a : Option Addr) (cap n : Nat) (w : World) (p : Addr) (hn : n = L.length) (hl : L.length ≤ 4000000) (hI : IntA w a L) (hE : EV w p) :
    Calls Tryd.prog 68 #[.slice a n cap] w fun e w' => e = .returned (.bool x) ∧ Below w.heap.size w w' := by
  subst hn
  by_cases hp : Path L
  · have hx : x = true := by rw [← k]; exact pOk_yes hp
    subst hx
    clear k
    go_enter Tryd.func68, Tryd.ntmps68
    go_wp2_with fail
    refine (track_yes hp a cap _ p hI hE).mono ?_
    rintro e w1 ⟨v, rfl, hO, hb1⟩
    have hE1 := (hE.below hb1).alloc (.cells #[.int .u64 (bitsH L : Int), v] 113)
    have HB := Lib.hid (hb1.alloc hb1.size (.cells #[.int .u64 (bitsH L : Int), v] 113))
    obtain ⟨a2, c2, rfl, _, _⟩ := OwnI.tab hO
    unfold EV at hE1
    clear hO hb1 hE hI
    go_wp2_with fail
    refine (is_nil p _).mono ?_
    rintro e w2 ⟨rfl, rfl⟩
    go_wp2_with fail
    go_ret
    exact ⟨rfl, HB.out⟩
  · have hx : x = false := by rw [← k]; exact pOk_no hp
    subst hx
    clear k
    go_enter Tryd.func68, Tryd.ntmps68
    go_wp2_with fail
    refine (track_no hp a cap _ p hl hI hE).mono ?_
    rintro e w1 ⟨rfl, hb1⟩
    have hE1 := (hE.below hb1).alloc (.cells #[zT, zS] 113)
    have HB := Lib.hid (hb1.alloc hb1.size (.cells #[zT, zS] 113))
    unfold EV at hE1
    clear hb1 hE hI
    go_wp2_with fail
    refine (is_same p _).mono ?_
    rintro e w2 ⟨rfl, rfl⟩
    go_wp2_with fail
    go_ret
    exact ⟨rfl, HB.out⟩

/-! order -/
def sgn (x y : Int) : Int := if x < y then -1 else if y < x then 1 else 0
theorem pnan_any (x : Int) (w : World) :
    Calls Tryd.prog 109 #[.int .i64 x] w fun e w' => e = .returned (.bool false) ∧ w = w' := by
  have h : (x != x) = false := by simp
  go_enter Tryd.func109, Tryd.ntmps109
  go_wp2
  go_ret
  exact ⟨rfl, rfl⟩
set_option maxHeartbeats 400000 in
theorem cmp_is {x y z : Int} (h : sgn x y = z) (w : World) :
    Calls Tryd.prog 69 #[.int .i64 x, .int .i64 y] w fun e w' => e = .returned (.int .i64 z) ∧ w = w' := by
  by_cases h1 : x < y
  · have hr := Lib.hid (show -1 = z by rw [← h, sgn, if_pos h1])
    clear h
    go_enter Tryd.func69, Tryd.ntmps69
    go_wp2_with (go_at_call 109; refine (pnan_any _ _).mono ?_; rintro e w' ⟨rfl, rfl⟩)
    go_ret
    exact ⟨ret_int hr.out, rfl⟩
  · by_cases h2 : y < x
    · have hr := Lib.hid (show 1 = z by rw [← h, sgn, if_neg h1, if_pos h2])
      clear h
      go_enter Tryd.func69, Tryd.ntmps69
      go_wp2_with (go_at_call 109; refine (pnan_any _ _).mono ?_; rintro e w' ⟨rfl, rfl⟩)
      go_ret
      exact ⟨ret_int hr.out, rfl⟩
    · have hr := Lib.hid (show 0 = z by rw [← h, sgn, if_neg h1, if_neg h2])
      clear h
      go_enter Tryd.func69, Tryd.ntmps69
      go_wp2_with (go_at_call 109; refine (pnan_any _ _).mono ?_; rintro e w' ⟨rfl, rfl⟩)
      go_ret
      exact ⟨ret_int hr.out, rfl⟩

set_option maxHeartbeats 2000000 in
theorem scompare_any (a b : Option Addr) (cap cap' : Nat) (L M : List Int) (w : World) (he : L.length = M.length) (hL : IntA w a L) (hM : IntA w b M) (hl : L.length ≤ 4000000) :
    Calls Tryd.prog 70 #[.slice a L.length cap, .slice b M.length cap'] w fun e w' => e = .returned (.int .i64 (cmpL L M)) ∧ w = w' := by
  have HE := Lib.hid he
  have nn : ¬ (L.length : Int) < (M.length : Int) := by omega
  clear he
  go_enter Tryd.func70, Tryd.ntmps70
  go_wp2_with fail
  go_loopw [11] (fun i wr => ∃ k : Nat, k ≤ L.length ∧ i = .int .i64 k ∧ Hid (cmpL L M = cmpL (L.drop k) (M.drop k)) ∧ w = wr) (fun i _ => L.length - (intOf i).toNat)
  case atStart => exact ⟨0, Nat.zero_le _, rfl, Lib.hid (by simp), rfl⟩
  case round =>
    obtain ⟨k, hk, rfl, hn, rfl⟩ := hrel
    by_cases hlt : k < L.length
    · obtain ⟨b1, off1, x, rfl, hLk, c0⟩ := hL.at hlt
      obtain ⟨b2, off2, y, rfl, hMk, d0⟩ := hM.at (show k < M.length by rw [← HE.out]; exact hlt)
      have i0 : (0 : Int) ≤ (k : Int) := by omega
      have i1 : (k : Int) < (L.length : Int) := by omega
      have i2 : (k : Int) < (M.length : Int) := by have := HE.out; omega
      have i3 : ¬ (M.length : Int) ≤ (k : Int) := by omega
      have HC := Lib.hid (hn.out.trans (cmpL_here hLk hMk))
      clear hn hLk hMk hL hM
      by_cases h1 : x < y
      · have HZ := Lib.hid (show cmpL L M = -1 by rw [HC.out, if_pos h1])
        have hs : sgn x y = -1 := by simp [sgn, h1]
        clear HC
        go_wp2_with fail
        refine (cmp_is hs _).mono ?_
        rintro e w2 ⟨rfl, rfl⟩
        go_wp2_with fail
        go_ret
        exact ⟨ret_int HZ.out.symm, rfl⟩
      · by_cases h2 : y < x
        · have HZ := Lib.hid (show cmpL L M = 1 by rw [HC.out, if_neg h1, if_pos h2])
          have hs : sgn x y = 1 := by simp [sgn, h1, h2]
          clear HC
          go_wp2_with fail
          refine (cmp_is hs _).mono ?_
          rintro e w2 ⟨rfl, rfl⟩
          go_wp2_with fail
          go_ret
          exact ⟨ret_int HZ.out.symm, rfl⟩
        · have HZ := Lib.hid (show cmpL L M = cmpL (L.drop (k + 1)) (M.drop (k + 1)) by rw [HC.out, if_neg h1, if_neg h2])
          have hs : sgn x y = 0 := by simp [sgn, h1, h2]
          clear HC
          go_wp2_with fail
          refine (cmp_is hs _).mono ?_
          rintro e w2 ⟨rfl, rfl⟩
          go_wp2_with fail
          go_roundw
          case rel => exact ⟨k + 1, by omega, by go_num, HZ, trivial⟩
          case measure => simp [intOf]; omega
    · obtain rfl : k = L.length := by omega
      have HZ := Lib.hid (show cmpL L M = 0 by
        rw [hn.out, List.drop_length, show L.length = M.length from HE.out, List.drop_length]; rfl)
      clear hn hL hM
      go_wp2_with fail
      go_ret
      exact ⟨ret_int HZ.out.symm, rfl⟩

set_option maxHeartbeats 1000000 in
theorem icmp_is {L M : List Int} {z : Int} (h : pcmp L M = z) (a b : Option Addr) (cap cap' n m : Nat) (w : World) (p : Addr) (hn : n = L.length) (hm : m = M.length) (hL : IntA w a L) (hM : IntA w b M)
    (hl : L.length ≤ 4000000) (hml : M.length ≤ 4000000) (hE : EV w p) :
    Calls Tryd.prog 33 #[.slice a n cap, .slice b m cap'] w fun e w' => e = .returned (.int .i64 z) ∧ Below w.heap.size w w' := by
  subst hn hm
  cases ho : pOk L with
  | false =>
    have HR := Lib.hid (show 0 = z by rw [← h, pcmp, ho]; rfl)
    clear h
    go_enter Tryd.func33, Tryd.ntmps33
    go_wp2_with fail
    refine (piok_is ho a cap _ _ p rfl hl hL hE).mono ?_
    rintro e w1 ⟨rfl, hb1⟩
    go_wp2_with fail
    go_ret
    exact ⟨ret_int HR.out, hb1⟩
  | true =>
    cases hq : pOk M with
    | false =>
      have HR := Lib.hid (show 0 = z by rw [← h, pcmp, hq]; simp)
      clear h
      go_enter Tryd.func33, Tryd.ntmps33
      go_wp2_with fail
      refine (piok_is ho a cap _ _ p rfl hl hL hE).mono ?_
      rintro e w1 ⟨rfl, hb1⟩
      go_wp2_with fail
      refine (piok_is hq b cap' _ _ p rfl hml (hM.below hb1) (hE.below hb1)).mono ?_
      rintro e w2 ⟨rfl, hb2⟩
      go_wp2_with fail
      go_ret
      exact ⟨ret_int HR.out, next hb1 hb2⟩
    | true =>
      have hz : lcmp L M = z := by rw [← h, pcmp, ho, hq]; rfl
      clear h
      by_cases he : L.length = M.length
      · have he' : ((L.length : Int) != (M.length : Int)) = false := by simp [he]
        have HR := Lib.hid (show cmpL L M = z by rw [← hz]; simp [lcmp, he])
        have HE := Lib.hid he
        clear he hz
        go_enter Tryd.func33, Tryd.ntmps33
        go_wp2_with fail
        refine (piok_is ho a cap _ _ p rfl hl hL hE).mono ?_
        rintro e w1 ⟨rfl, hb1⟩
        go_wp2_with fail
        refine (piok_is hq b cap' _ _ p rfl hml (hM.below hb1) (hE.below hb1)).mono ?_
        rintro e w2 ⟨rfl, hb2⟩
        go_wp2_with fail
        refine (scompare_any a b cap cap' L M _ HE.out ((hL.below hb1).below hb2) ((hM.below hb1).below hb2) hl).mono ?_
        rintro e w3 ⟨rfl, rfl⟩
        go_wp2_with fail
        go_ret
        exact ⟨ret_int HR.out, next hb1 hb2⟩
      · have he' : ((L.length : Int) != (M.length : Int)) = true := by simp; omega
        have hs : sgn (L.length : Int) (M.length : Int) = z := by
          rw [← hz, lcmp, sgn]
          by_cases h1 : L.length < M.length
          · rw [if_pos (by omega), if_pos h1]
          · rw [if_neg (by omega), if_neg h1, if_pos (by omega), if_pos (by omega)]
        clear he hz
        go_enter Tryd.func33, Tryd.ntmps33
        go_wp2_with fail
        refine (piok_is ho a cap _ _ p rfl hl hL hE).mono ?_
        rintro e w1 ⟨rfl, hb1⟩
        go_wp2_with fail
        refine (piok_is hq b cap' _ _ p rfl hml (hM.below hb1) (hE.below hb1)).mono ?_
        rintro e w2 ⟨rfl, hb2⟩
        go_wp2_with fail
        refine (cmp_is hs _).mono ?_
        rintro e w3 ⟨rfl, rfl⟩
        go_wp2_with fail
        go_ret
        exact ⟨rfl, next hb1 hb2⟩
end Go.Proofs.YtfjfcdifnfffbaaDoor
