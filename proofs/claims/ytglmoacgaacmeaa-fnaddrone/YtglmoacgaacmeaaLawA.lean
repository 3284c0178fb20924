/-
  The laws of a range's size and form: their walks.
-/
import Derived.Test.YtglmoacgaacmeaaDrawS
import Derived.Test.YtglmoacgaacmeaaWalksF
namespace Go.Proofs.Ytglmoacgaacmeaa
open Go.RowKit
set_option linter.unusedSimpArgs false

/-- how many of the first k addresses a range has -/
def cnt (f b : Int) (k : Nat) : Int := if (k : Int) ≤ f then 0 else if (k : Int) - f ≤ sz b then (k : Int) - f else sz b
theorem cnt_zero {f b : Int} (h : okB f b = true) : cnt f b 0 = 0 := by
  obtain ⟨b0, b8, f0, f1, _⟩ := (okB_iff f b).1 h
  simp [cnt, f0]
theorem cnt_bd {f b : Int} (h : okB f b = true) (k : Nat) : 0 ≤ cnt f b k ∧ cnt f b k ≤ 256 := by
  obtain ⟨b0, b8, f0, f1, _⟩ := (okB_iff f b).1 h
  have := sz_bd b0 b8
  unfold cnt; split
  · omega
  · split <;> omega
theorem cnt_yes {f b : Int} {k : Nat} (h : hasB f b k = true) : cnt f b (k + 1) = cnt f b k + 1 := by
  obtain ⟨h1, h2, h3⟩ := (hasB_iff f b k).1 h
  unfold cnt
  by_cases e : (k : Int) = f
  · rw [if_neg (by omega), if_pos (by omega), if_pos (by omega)]; omega
  · rw [if_neg (by omega), if_pos (by omega), if_neg (by omega), if_pos (by omega)]; omega
theorem cnt_no {f b : Int} {k : Nat} (ho : okB f b = true) (h : hasB f b k = false) : cnt f b (k + 1) = cnt f b k := by
  obtain ⟨b0, b8, f0, f1, _⟩ := (okB_iff f b).1 ho
  have s := sz_bd b0 b8
  have h' : ¬ (okB f b = true ∧ f ≤ k ∧ (k : Int) - f < sz b) := by rw [← hasB_iff, h]; simp
  simp only [ho, true_and] at h'
  unfold cnt
  by_cases e : (k : Int) < f
  · rw [if_pos (by omega), if_pos (by omega)]
  · rw [if_neg (by omega), if_neg (by omega)]
    by_cases e2 : (k : Int) ≤ f
    · omega
    · rw [if_neg e2]
      by_cases e3 : (k : Int) - f ≤ sz b
      · rw [if_pos e3]; omega
      · rw [if_neg e3]
theorem cnt_all {f b : Int} (ho : okB f b = true) : cnt f b 256 = sz b := by
  obtain ⟨b0, b8, f0, f1, hm⟩ := (okB_iff f b).1 ho
  have hf : f + sz b ≤ 256 := by
    rcases sz_cases b0 b8 with h | h | h | h | h | h | h | h | h <;> obtain ⟨_, e⟩ := h <;> rw [e] at hm ⊢ <;> omega
  have s := sz_bd b0 b8
  unfold cnt
  rw [if_neg (by omega)]
  by_cases e3 : ((256 : Nat) : Int) - f ≤ sz b
  · rw [if_pos e3]; omega
  · rw [if_neg e3]

set_option maxRecDepth 100000 in
set_option maxHeartbeats 1000000 in
theorem lawMany (a : Option Addr) (len cap : Nat) (zs : List Int) (w : World) (h : IsRow w a len cap zs) :
    Calls Try.prog 9 #[.slice a len cap] w fun e w' => e = .returned (.bool true) ∧ Below w.heap.size w w' := by
  by_cases hl : 1048576 < len
  · clear h
    go_enter Try.func9, Try.ntmps9
    go_wp2
    go_ret
    exact ⟨rfl, Below.refl _ _⟩
  have H := Lib.hid h
  clear h
  have hlb : decide (1048576 < (len : Int)) = false := by simp; omega
  go_enter Try.func9, Try.ntmps9
  go_wp2_with fail
  refine (dMany_any a len cap zs _ H.out).mono ?_
  rintro e w1 ⟨f, b, hs, rfl, hb1⟩
  have HS := Lib.hid hs
  clear hs
  have r1 := At.new w1 f b 25
  have hz1 := hb1.size
  have B1 := hb1.alloc hb1.size (.cells #[.int .i64 f, .int .i64 b] 25)
  clear hb1
  go_wp2_with fail
  generalize w1.alloc (.cells #[.int .i64 f, .int .i64 b] 25) = W1 at *
  generalize w1.heap.size = R at *
  refine (rmany_any f b _).mono ?_
  rintro e w2 ⟨rfl, hb2⟩
  have r2 := r1.below hb2
  have B2 := next B1 hb2
  clear r1 B1 hb2
  have hd : (manyI f b != manyI f b) = false := by simp
  obtain ⟨c0, c1, _, _⟩ := id r2
  go_wp2_with fail
  refine (smany_any f b _).mono ?_
  rintro e w3 ⟨rfl, hb3⟩
  have r3 := r2.below hb3
  have B3 := next B2 hb3
  clear r2 B2 hb3 c0 c1
  obtain ⟨c0, c1, _, _⟩ := id r3
  by_cases ho : okB f b = true
  · go_wp2_with fail
    refine (sok_is ho _).mono ?_
    rintro e w4 ⟨rfl, hb4⟩
    have r4 := r3.below hb4
    have B4 := next B3 hb4
    clear r3 B3 hb4 c0 c1
    obtain ⟨b0, b8, f0, f1, hm⟩ := (okB_iff f b).1 ho
    clear hm
    have HM := Lib.hid (show manyI f b = sz b by simp [manyI, ho])
    go_wp2_with fail
    go_loopw [5, 6] (fun n i wr => ∃ k : Nat, k ≤ 256 ∧ i = .int .i64 k ∧ n = .int .i64 (cnt f b k) ∧ At wr R f b ∧ Below w.heap.size w wr) (fun _ i _ => 256 - (intOf i).toNat)
    case atStart => exact ⟨0, Nat.zero_le _, rfl, by rw [cnt_zero ho], r4, B4⟩
    case round =>
      obtain ⟨k, hk, rfl, rfl, r5, B5⟩ := hrel
      clear r4 B4
      obtain ⟨c0, c1, _, _⟩ := id r5
      have cb := cnt_bd ho k
      by_cases hlt : k < 256
      · by_cases hh : hasB f b k = true
        · have HC := Lib.hid (cnt_yes hh)
          go_wp2_with fail
          refine (rhas_any f b k _ (by omega)).mono ?_
          rintro e w6 ⟨rfl, hb6⟩
          have r6 := r5.below hb6
          have B6 := next B5 hb6
          rw [hh]
          clear r5 B5 hb6 c0 c1 hh
          go_wp2
          go_roundw
          case rel => exact ⟨k + 1, by omega, by go_num, by rw [HC.out], r6, B6⟩
          case measure => simp [intOf]; omega
        · have hh' : hasB f b k = false := by simpa using hh
          have HC := Lib.hid (cnt_no ho hh')
          go_wp2_with fail
          refine (rhas_any f b k _ (by omega)).mono ?_
          rintro e w6 ⟨rfl, hb6⟩
          have r6 := r5.below hb6
          have B6 := next B5 hb6
          rw [hh']
          clear r5 B5 hb6 c0 c1 hh hh'
          go_wp2
          go_roundw
          case rel => exact ⟨k + 1, by omega, by go_num, by rw [HC.out], r6, B6⟩
          case measure => simp [intOf]; omega
      · rw [show cnt f b k = sz b by rw [show k = 256 by omega]; exact cnt_all ho]
        have hk2 : 255 < (k : Int) := by omega
        clear hlt cb hk
        obtain ⟨n, rfl⟩ := Int.eq_ofNat_of_zero_le b0
        go_wp2_with fail
        go_loop [7, 8] (fun v i => ∃ j : Nat, j ≤ n ∧ i = .int .i64 j ∧ v = .int .i64 ((256 / 2 ^ j : Nat) : Int)) (fun _ i => n - (intOf i).toNat)
        case atStart => exact ⟨0, Nat.zero_le _, rfl, rfl⟩
        case round =>
          obtain ⟨j, hj, rfl, rfl⟩ := hrel
          have hq : 256 / 2 ^ j ≤ 256 := Nat.div_le_self _ _
          have HQ := Lib.hid (sz_step j)
          generalize hx : 256 / 2 ^ j = x at *
          have HX := Lib.hid hx
          clear hx
          by_cases hlt : j < n
          · go_wp2
            go_round
            case rel => exact ⟨j + 1, by omega, by go_num, by rw [← HQ.out]⟩
            case measure => simp [intOf]; omega
          · have e1 : (manyI f n == sz n) = true := by rw [HM.out]; simp
            have e2 : (manyI f n == (x : Int)) = true := by
              rw [HM.out, ← HX.out, show j = n by omega]; simp [sz]
            go_wp2
            go_ret
            exact ⟨rfl, B5⟩
  · have ho' : okB f b = false := by simpa using ho
    clear ho
    have he : (manyI f b == manyI f b) = true := by simp
    go_wp2_with fail
    refine (sok_is ho' _).mono ?_
    rintro e w4 ⟨rfl, hb4⟩
    have r4 := r3.below hb4
    have B4 := next B3 hb4
    clear r3 B3 hb4 c0 c1
    obtain ⟨c0, c1, _, _⟩ := id r4
    go_wp2_with fail
    refine (smany_any f b _).mono ?_
    rintro e w5 ⟨rfl, hb5⟩
    go_wp2
    go_ret
    exact ⟨rfl, next B4 hb5⟩

end Go.Proofs.Ytglmoacgaacmeaa
