/-
  What the program's functions on paths answer: ok, has, add, which stands ahead.
-/
import Derived.Test.YtnabcffpficgcaaDoorPBack
import Derived.Test.YtnabcffpficgcaaDoorPSpecB
namespace Go.Proofs.YtnabcffpficgcaaDoor
open Go.RowKit
set_option linter.unusedSimpArgs false
set_option linter.unusedVariables false

set_option maxHeartbeats 400000 in
theorem piok_is {L : List Int} {x : Bool} (k : pOk L = x) (a : Option Addr) (cap n : Nat) (w : World) (p : Addr) (hn : n = L.length) (hl : L.length ≤ 4000000) (hI : IntA w a L) (hE : EV w p) :
    Calls Tryd.prog 20 #[.slice a n cap] w fun e w' => e = .returned (.bool x) ∧ Below w.heap.size w w' := by
  subst hn
  by_cases hp : Path L
  · have hx : x = true := by rw [← k]; exact pOk_yes hp
    subst hx
    clear k
    go_enter Tryd.func20, Tryd.ntmps20
    go_wp2_with fail
    refine (track_yes hp a cap _ p hI hE).mono ?_
    rintro e w1 ⟨v, rfl, hO, hb1⟩
    have hE1 := (hE.below hb1).alloc (.cells #[.int .u64 (bitsH L : Int), v] 46)
    have HB := Lib.hid (hb1.alloc hb1.size (.cells #[.int .u64 (bitsH L : Int), v] 46))
    obtain ⟨a2, c2, rfl, _, _⟩ := OwnI.tab hO
    unfold EV at hE1
    clear hO hb1 hE hI
    go_wp2_with fail
    refine (is_nil p _).mono ?_
    rintro e w2 ⟨rfl, rfl⟩
    go_wp2_with fail
    go_ret
    exact ⟨rfl, HB.out⟩
  · have hx : x = false := by rw [← k]; exact pOk_no hp
    subst hx
    clear k
    go_enter Tryd.func20, Tryd.ntmps20
    go_wp2_with fail
    refine (track_no hp a cap _ p hl hI hE).mono ?_
    rintro e w1 ⟨rfl, hb1⟩
    have hE1 := (hE.below hb1).alloc (.cells #[zT, zS] 46)
    have HB := Lib.hid (hb1.alloc hb1.size (.cells #[zT, zS] 46))
    unfold EV at hE1
    clear hb1 hE hI
    go_wp2_with fail
    refine (is_same p _).mono ?_
    rintro e w2 ⟨rfl, rfl⟩
    go_wp2_with fail
    go_ret
    exact ⟨rfl, HB.out⟩

set_option maxHeartbeats 400000 in
theorem pihas_is {L : List Int} {h : Int} {x : Bool} (k : pHas L h = x) (a : Option Addr) (cap n : Nat) (w : World) (p : Addr) (hn : n = L.length) (hl : L.length ≤ 4000000) (hI : IntA w a L) (hE : EV w p) :
    Calls Tryd.prog 23 #[.slice a n cap, .int .i64 h] w fun e w' => e = .returned (.bool x) ∧ Below w.heap.size w w' := by
  subst hn
  by_cases hp : Path L
  · have hx : decide (h ∈ L) = x := by rw [← k, pHas_yes hp]
    clear k
    go_enter Tryd.func23, Tryd.ntmps23
    go_wp2_with fail
    refine (track_yes hp a cap _ p hI hE).mono ?_
    rintro e w1 ⟨v, rfl, hO, hb1⟩
    have hE1 := (hE.below hb1).alloc (.cells #[.int .u64 (bitsH L : Int), v] 46)
    have HB := Lib.hid (hb1.alloc hb1.size (.cells #[.int .u64 (bitsH L : Int), v] 46))
    obtain ⟨a2, c2, rfl, _, _⟩ := OwnI.tab hO
    unfold EV at hE1
    clear hO hb1 hE hI
    go_wp2_with fail
    refine (is_nil p _).mono ?_
    rintro e w2 ⟨rfl, rfl⟩
    go_wp2_with fail
    refine (thas_is hp hx _ _).mono ?_
    rintro e w3 ⟨rfl, hb3⟩
    go_wp2_with fail
    go_ret
    exact ⟨rfl, next HB.out hb3⟩
  · have hx : x = false := by rw [← k, pHas, pOk_no hp]; rfl
    subst hx
    clear k
    go_enter Tryd.func23, Tryd.ntmps23
    go_wp2_with fail
    refine (track_no hp a cap _ p hl hI hE).mono ?_
    rintro e w1 ⟨rfl, hb1⟩
    have hE1 := (hE.below hb1).alloc (.cells #[zT, zS] 46)
    have HB := Lib.hid (hb1.alloc hb1.size (.cells #[zT, zS] 46))
    unfold EV at hE1
    clear hb1 hE hI
    go_wp2_with fail
    refine (is_same p _).mono ?_
    rintro e w2 ⟨rfl, rfl⟩
    go_wp2_with fail
    go_ret
    exact ⟨rfl, HB.out⟩

set_option maxHeartbeats 1000000 in
theorem iadd_yes {L : List Int} {h : Int} (hx : Path (h :: L)) (a : Option Addr) (cap : Nat) (w : World) (p : Addr) (hI : IntA w a L) (hE : EV w p) :
    Calls Tryd.prog 25 #[.slice a L.length cap, .int .i64 h] w (OwnA w (h :: L, true)) := by
  obtain ⟨⟨h1, h5⟩, hm, hp⟩ := path_cons.1 hx
  go_enter Tryd.func25, Tryd.ntmps25
  go_wp2_with fail
  refine (track_yes hp a cap _ p hI hE).mono ?_
  rintro e w1 ⟨v, rfl, hO, hb1⟩
  obtain ⟨a2, c2, rfl, hc2, hI2⟩ := OwnI.tab hO
  have hE1 := (hE.below hb1).alloc (.cells #[.int .u64 (bitsH L : Int), .slice a2 L.length c2] 46)
  have HB := Lib.hid (hb1.alloc hb1.size (.cells #[.int .u64 (bitsH L : Int), .slice a2 L.length c2] 46))
  have HI2 := Lib.hid (And.intro (hI2.alloc (.cells #[.int .u64 (bitsH L : Int), .slice a2 L.length c2] 46)) (EV.alloc (hE.below hb1) (.cells #[.int .u64 (bitsH L : Int), .slice a2 L.length c2] 46)))
  unfold EV at hE1
  clear hO hb1 hE hI hI2
  go_wp2_with fail
  refine (is_nil p _).mono ?_
  rintro e w2 ⟨rfl, rfl⟩
  go_wp2_with fail
  refine (ahead_yes hp h1 h5 (decide_eq_false hm) a2 c2 _ HI2.out.1 hc2).mono ?_
  rintro e w3 ⟨v3, rfl, hO3, hb3⟩
  obtain ⟨a3, c3, rfl, hc3, hI3⟩ := OwnI.tab hO3
  have HF := Lib.hid (And.intro ((owni_mono hO3 HB.out.size).alloc (.cells #[.int .u64 (bitsH (h :: L) : Int), .slice a3 (L.length + 1) c3] 46)) ((next HB.out hb3).alloc (next HB.out hb3).size (.cells #[.int .u64 (bitsH (h :: L) : Int), .slice a3 (L.length + 1) c3] 46)))
  have hE3 := (HI2.out.2.below hb3).alloc (.cells #[.int .u64 (bitsH (h :: L) : Int), .slice a3 (L.length + 1) c3] 46)
  unfold EV at hE3
  clear hE1 hO3 hb3 hI3
  go_wp2_with fail
  refine (is_nil p _).mono ?_
  rintro e w2 ⟨rfl, rfl⟩
  go_wp2_with fail
  go_ret2
  exact ⟨_, rfl, HF.out.1, HF.out.2⟩

set_option maxHeartbeats 1000000 in
theorem iadd_no1 {L : List Int} {h : Int} (hp : ¬ Path L) (a : Option Addr) (cap : Nat) (w : World) (p : Addr) (hl : L.length ≤ 4000000) (hI : IntA w a L) (hE : EV w p) :
    Calls Tryd.prog 25 #[.slice a L.length cap, .int .i64 h] w (OwnA w ([], false)) := by
  go_enter Tryd.func25, Tryd.ntmps25
  go_wp2_with fail
  refine (track_no hp a cap _ p hl hI hE).mono ?_
  rintro e w1 ⟨rfl, hb1⟩
  have hE1 := (hE.below hb1).alloc (.cells #[zT, zS] 46)
  have HB := Lib.hid (hb1.alloc hb1.size (.cells #[zT, zS] 46))
  unfold EV at hE1
  clear hb1 hE hI
  go_wp2_with fail
  refine (is_same p _).mono ?_
  rintro e w2 ⟨rfl, rfl⟩
  go_wp2_with fail
  go_ret2
  exact ⟨_, rfl, owni_nil _ _, HB.out⟩

set_option maxHeartbeats 1000000 in
theorem iadd_no2 {L : List Int} {h : Int} (hp : Path L) (hx : ¬ Path (h :: L)) (a : Option Addr) (cap : Nat) (w : World) (p : Addr) (hI : IntA w a L) (hE : EV w p) :
    Calls Tryd.prog 25 #[.slice a L.length cap, .int .i64 h] w (OwnA w ([], false)) := by
  have hA : ∀ (a2 : Option Addr) (c2 : Nat) (W : World), EV W p → Calls Tryd.prog 47 #[.agg #[.int .u64 (bitsH L : Int), .slice a2 L.length c2], .int .i64 h] W fun e w' => e = .returned (noTrack p) ∧ Below W.heap.size W w' := fun a2 c2 W hW => by
    cases hh : isH h with
    | false => exact ahead_no1 hh _ a2 _ c2 W p hW
    | true =>
      refine ahead_no2 hp hh ?_ a2 _ c2 W p hW
      rw [decide_eq_true_eq]
      by_cases k : h ∈ L
      · exact k
      · exact (hx (path_cons.2 ⟨(isH_iff _).1 hh, k, hp⟩)).elim
  have HA := Lib.hid hA
  clear hA
  go_enter Tryd.func25, Tryd.ntmps25
  go_wp2_with fail
  refine (track_yes hp a cap _ p hI hE).mono ?_
  rintro e w1 ⟨v, rfl, hO, hb1⟩
  obtain ⟨a2, c2, rfl, hc2, hI2⟩ := OwnI.tab hO
  have hE1 := (hE.below hb1).alloc (.cells #[.int .u64 (bitsH L : Int), .slice a2 L.length c2] 46)
  have HB := Lib.hid (hb1.alloc hb1.size (.cells #[.int .u64 (bitsH L : Int), .slice a2 L.length c2] 46))
  have HI2 := Lib.hid (EV.alloc (hE.below hb1) (.cells #[.int .u64 (bitsH L : Int), .slice a2 L.length c2] 46))
  unfold EV at hE1
  clear hO hb1 hE hI hI2
  go_wp2_with fail
  refine (is_nil p _).mono ?_
  rintro e w2 ⟨rfl, rfl⟩
  go_wp2_with fail
  refine (HA.out a2 c2 _ HI2.out).mono ?_
  rintro e w3 ⟨rfl, hb3⟩
  have HF := Lib.hid ((next HB.out hb3).alloc (next HB.out hb3).size (.cells #[zT, zS] 46))
  have hE3 := (HI2.out.below hb3).alloc (.cells #[zT, zS] 46)
  unfold EV at hE3
  clear hE1 hb3
  go_wp2_with fail
  refine (is_same p _).mono ?_
  rintro e w2 ⟨rfl, rfl⟩
  go_wp2_with fail
  go_ret2
  exact ⟨_, rfl, owni_nil _ _, HF.out⟩
theorem iadd_is {L : List Int} {h : Int} {r : List Int × Bool} (k : padd L h = r) (a : Option Addr) (cap n : Nat) (w : World) (p : Addr) (hn : n = L.length) (hl : L.length ≤ 4000000) (hI : IntA w a L) (hE : EV w p) :
    Calls Tryd.prog 25 #[.slice a n cap, .int .i64 h] w (OwnA w r) := by
  subst hn
  subst k
  by_cases hp : Path L
  · by_cases hx : Path (h :: L)
    · rw [padd_yes hx]; exact iadd_yes hx a cap w p hI hE
    · rw [padd_no hx]; exact iadd_no2 hp hx a cap w p hI hE
  · rw [padd_no (fun hx => hp (path_cons.1 hx).2.2)]; exact iadd_no1 hp a cap w p hl hI hE

/-! order -/
def sgn (x y : Int) : Int := if x < y then -1 else if y < x then 1 else 0
theorem pnan_any (x : Int) (w : World) :
    Calls Tryd.prog 67 #[.int .i64 x] w fun e w' => e = .returned (.bool false) ∧ w = w' := by
  have h : (x != x) = false := by simp
  go_enter Tryd.func67, Tryd.ntmps67
  go_wp2
  go_ret
  exact ⟨rfl, rfl⟩
set_option maxHeartbeats 400000 in
theorem cmp_is {x y z : Int} (h : sgn x y = z) (w : World) :
    Calls Tryd.prog 52 #[.int .i64 x, .int .i64 y] w fun e w' => e = .returned (.int .i64 z) ∧ w = w' := by
  by_cases h1 : x < y
  · have hr := Lib.hid (show -1 = z by rw [← h, sgn, if_pos h1])
    clear h
    go_enter Tryd.func52, Tryd.ntmps52
    go_wp2_with (go_at_call 67; refine (pnan_any _ _).mono ?_; rintro e w' ⟨rfl, rfl⟩)
    go_ret
    exact ⟨ret_int hr.out, rfl⟩
  · by_cases h2 : y < x
    · have hr := Lib.hid (show 1 = z by rw [← h, sgn, if_neg h1, if_pos h2])
      clear h
      go_enter Tryd.func52, Tryd.ntmps52
      go_wp2_with (go_at_call 67; refine (pnan_any _ _).mono ?_; rintro e w' ⟨rfl, rfl⟩)
      go_ret
      exact ⟨ret_int hr.out, rfl⟩
    · have hr := Lib.hid (show 0 = z by rw [← h, sgn, if_neg h1, if_neg h2])
      clear h
      go_enter Tryd.func52, Tryd.ntmps52
      go_wp2_with (go_at_call 67; refine (pnan_any _ _).mono ?_; rintro e w' ⟨rfl, rfl⟩)
      go_ret
      exact ⟨ret_int hr.out, rfl⟩

set_option maxHeartbeats 2000000 in
theorem scompare_any (a b : Option Addr) (cap cap' : Nat) (L M : List Int) (w : World) (he : L.length = M.length) (hL : IntA w a L) (hM : IntA w b M) (hl : L.length ≤ 4000000) :
    Calls Tryd.prog 53 #[.slice a L.length cap, .slice b M.length cap'] w fun e w' => e = .returned (.int .i64 (cmpL L M)) ∧ w = w' := by
  have HE := Lib.hid he
  have nn : ¬ (L.length : Int) < (M.length : Int) := by omega
  clear he
  go_enter Tryd.func53, Tryd.ntmps53
  go_wp2_with fail
  go_loopw [11] (fun i wr => ∃ k : Nat, k ≤ L.length ∧ i = .int .i64 k ∧ Hid (cmpL L M = cmpL (L.drop k) (M.drop k)) ∧ w = wr) (fun i _ => L.length - (intOf i).toNat)
  case atStart => exact ⟨0, Nat.zero_le _, rfl, Lib.hid (by simp), rfl⟩
  case round =>
    obtain ⟨k, hk, rfl, hn, rfl⟩ := hrel
    by_cases hlt : k < L.length
    · obtain ⟨b1, off1, x, rfl, hLk, c0⟩ := hL.at hlt
      obtain ⟨b2, off2, y, rfl, hMk, d0⟩ := hM.at (show k < M.length by rw [← HE.out]; exact hlt)
      have i0 : (0 : Int) ≤ (k : Int) := by omega
      have i1 : (k : Int) < (L.length : Int) := by omega
      have i2 : (k : Int) < (M.length : Int) := by have := HE.out; omega
      have i3 : ¬ (M.length : Int) ≤ (k : Int) := by omega
      have HC := Lib.hid (hn.out.trans (cmpL_here hLk hMk))
      clear hn hLk hMk hL hM
      by_cases h1 : x < y
      · have HZ := Lib.hid (show cmpL L M = -1 by rw [HC.out, if_pos h1])
        have hs : sgn x y = -1 := by simp [sgn, h1]
        clear HC
        go_wp2_with fail
        refine (cmp_is hs _).mono ?_
        rintro e w2 ⟨rfl, rfl⟩
        go_wp2_with fail
        go_ret
        exact ⟨ret_int HZ.out.symm, rfl⟩
      · by_cases h2 : y < x
        · have HZ := Lib.hid (show cmpL L M = 1 by rw [HC.out, if_neg h1, if_pos h2])
          have hs : sgn x y = 1 := by simp [sgn, h1, h2]
          clear HC
          go_wp2_with fail
          refine (cmp_is hs _).mono ?_
          rintro e w2 ⟨rfl, rfl⟩
          go_wp2_with fail
          go_ret
          exact ⟨ret_int HZ.out.symm, rfl⟩
        · have HZ := Lib.hid (show cmpL L M = cmpL (L.drop (k + 1)) (M.drop (k + 1)) by rw [HC.out, if_neg h1, if_neg h2])
          have hs : sgn x y = 0 := by simp [sgn, h1, h2]
          clear HC
          go_wp2_with fail
          refine (cmp_is hs _).mono ?_
          rintro e w2 ⟨rfl, rfl⟩
          go_wp2_with fail
          go_roundw
          case rel => exact ⟨k + 1, by omega, by go_num, HZ, trivial⟩
          case measure => simp [intOf]; omega
    · obtain rfl : k = L.length := by omega
      have HZ := Lib.hid (show cmpL L M = 0 by
        rw [hn.out, List.drop_length, show L.length = M.length from HE.out, List.drop_length]; rfl)
      clear hn hL hM
      go_wp2_with fail
      go_ret
      exact ⟨ret_int HZ.out.symm, rfl⟩

set_option maxHeartbeats 1000000 in
theorem icmp_is {L M : List Int} {z : Int} (h : pcmp L M = z) (a b : Option Addr) (cap cap' n m : Nat) (w : World) (p : Addr) (hn : n = L.length) (hm : m = M.length) (hL : IntA w a L) (hM : IntA w b M)
    (hl : L.length ≤ 4000000) (hml : M.length ≤ 4000000) (hE : EV w p) :
    Calls Tryd.prog 33 #[.slice a n cap, .slice b m cap'] w fun e w' => e = .returned (.int .i64 z) ∧ Below w.heap.size w w' := by
  subst hn hm
  cases ho : pOk L with
  | false =>
    have HR := Lib.hid (show 0 = z by rw [← h, pcmp, ho]; rfl)
    clear h
    go_enter Tryd.func33, Tryd.ntmps33
    go_wp2_with fail
    refine (piok_is ho a cap _ _ p rfl hl hL hE).mono ?_
    rintro e w1 ⟨rfl, hb1⟩
    go_wp2_with fail
    go_ret
    exact ⟨ret_int HR.out, hb1⟩
  | true =>
    cases hq : pOk M with
    | false =>
      have HR := Lib.hid (show 0 = z by rw [← h, pcmp, hq]; simp)
      clear h
      go_enter Tryd.func33, Tryd.ntmps33
      go_wp2_with fail
      refine (piok_is ho a cap _ _ p rfl hl hL hE).mono ?_
      rintro e w1 ⟨rfl, hb1⟩
      go_wp2_with fail
      refine (piok_is hq b cap' _ _ p rfl hml (hM.below hb1) (hE.below hb1)).mono ?_
      rintro e w2 ⟨rfl, hb2⟩
      go_wp2_with fail
      go_ret
      exact ⟨ret_int HR.out, next hb1 hb2⟩
    | true =>
      have hz : lcmp L M = z := by rw [← h, pcmp, ho, hq]; rfl
      clear h
      by_cases he : L.length = M.length
      · have he' : ((L.length : Int) != (M.length : Int)) = false := by simp [he]
        have HR := Lib.hid (show cmpL L M = z by rw [← hz]; simp [lcmp, he])
        have HE := Lib.hid he
        clear he hz
        go_enter Tryd.func33, Tryd.ntmps33
        go_wp2_with fail
        refine (piok_is ho a cap _ _ p rfl hl hL hE).mono ?_
        rintro e w1 ⟨rfl, hb1⟩
        go_wp2_with fail
        refine (piok_is hq b cap' _ _ p rfl hml (hM.below hb1) (hE.below hb1)).mono ?_
        rintro e w2 ⟨rfl, hb2⟩
        go_wp2_with fail
        refine (scompare_any a b cap cap' L M _ HE.out ((hL.below hb1).below hb2) ((hM.below hb1).below hb2) hl).mono ?_
        rintro e w3 ⟨rfl, rfl⟩
        go_wp2_with fail
        go_ret
        exact ⟨ret_int HR.out, next hb1 hb2⟩
      · have he' : ((L.length : Int) != (M.length : Int)) = true := by simp; omega
        have hs : sgn (L.length : Int) (M.length : Int) = z := by
          rw [← hz, lcmp, sgn]
          by_cases h1 : L.length < M.length
          · rw [if_pos (by omega), if_pos h1]
          · rw [if_neg (by omega), if_neg h1, if_pos (by omega), if_pos (by omega)]
        clear he hz
        go_enter Tryd.func33, Tryd.ntmps33
        go_wp2_with fail
        refine (piok_is ho a cap _ _ p rfl hl hL hE).mono ?_
        rintro e w1 ⟨rfl, hb1⟩
        go_wp2_with fail
        refine (piok_is hq b cap' _ _ p rfl hml (hM.below hb1) (hE.below hb1)).mono ?_
        rintro e w2 ⟨rfl, hb2⟩
        go_wp2_with fail
        refine (cmp_is hs _).mono ?_
        rintro e w3 ⟨rfl, rfl⟩
        go_wp2_with fail
        go_ret
        exact ⟨rfl, next hb1 hb2⟩
end Go.Proofs.YtnabcffpficgcaaDoor
