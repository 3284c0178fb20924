/-
  Two halves are the whole, and apart: the walk of the law.
-/
import Derived.Test.YtglmoacgaacmeaaLawK
namespace Go.Proofs.Ytglmoacgaacmeaa
open Go.RowKit
set_option linter.unusedSimpArgs false

theorem half_cover {f b : Int} (u : Bool) (h : halfB f b = true) (a : Int) : (hasB (halfF f b u) (b + 1) a || hasB (halfF f b (!u)) (b + 1) a) = hasB f b a := by
  obtain ⟨ho, hlt⟩ := (halfB_iff f b).1 h
  obtain ⟨b0, b8, f0, f1, hm⟩ := (okB_iff f b).1 ho
  have e := sz_half b0 hlt
  have s := sz_bd (b := b + 1) (by omega) (by omega)
  rw [Bool.eq_iff_iff, Bool.or_eq_true, hasB_iff' (half_ok u h), hasB_iff' (half_ok (!u) h), hasB_iff' ho]
  cases u <;> simp [halfF] <;> omega
theorem half_once {f b : Int} (u : Bool) (h : halfB f b = true) (a : Int) (h1 : hasB (halfF f b u) (b + 1) a = true) : hasB (halfF f b (!u)) (b + 1) a = false := by
  obtain ⟨ho, hlt⟩ := (halfB_iff f b).1 h
  obtain ⟨b0, b8, f0, f1, hm⟩ := (okB_iff f b).1 ho
  have e := sz_half b0 hlt
  have s := sz_bd (b := b + 1) (by omega) (by omega)
  have k := (hasB_iff' (half_ok u h)).1 h1
  by_cases q : hasB (halfF f b (!u)) (b + 1) a = true
  · have k2 := (hasB_iff' (half_ok (!u) h)).1 q
    cases u <;> simp [halfF] at k k2 <;> omega
  · simpa using q
theorem half_gt {f b : Int} (u : Bool) (h : halfB f b = true) : (decide (halfF f b (!u) < halfF f b u) == u) = true := by
  obtain ⟨ho, hlt⟩ := (halfB_iff f b).1 h
  obtain ⟨b0, b8, f0, f1, hm⟩ := (okB_iff f b).1 ho
  have s := sz_bd (b := b + 1) (by omega) (by omega)
  cases u <;> simp [halfF] <;> omega

set_option maxRecDepth 100000 in
set_option maxHeartbeats 2000000 in
theorem lawHalf (a : Option Addr) (len cap : Nat) (zs : List Int) (w : World) (h : IsRow w a len cap zs) :
    Calls Try.prog 14 #[.slice a len cap] w fun e w' => e = .returned (.bool true) ∧ Below w.heap.size w w' := by
  by_cases hl : 1048576 < len
  · clear h
    go_enter Try.func14, Try.ntmps14
    go_wp2
    go_ret
    exact ⟨rfl, Below.refl _ _⟩
  have H := Lib.hid h
  clear h
  have hlb : decide (1048576 < (len : Int)) = false := by simp; omega
  go_enter Try.func14, Try.ntmps14
  go_wp2_with fail
  refine (dHalf_any a len cap zs _ H.out).mono ?_
  rintro e w1 ⟨f, b, u, hs, rfl, hb1⟩
  have HS := Lib.hid hs
  clear hs
  have rA := At.new w1 f b 25
  have B1 := hb1.alloc hb1.size (.cells #[.int .i64 f, .int .i64 b] 25)
  clear hb1
  go_wp2_with fail
  generalize w1.alloc (.cells #[.int .i64 f, .int .i64 b] 25) = W1 at *
  generalize w1.heap.size = A at *
  by_cases hn : halfB f b = true
  · have HV := Lib.hid (halfV_yes u hn)
    have hk := half_ok u hn
    have hin := half_in u hn
    obtain ⟨ho, hlt⟩ := (halfB_iff f b).1 hn
    obtain ⟨b0, b8, f0, f1, hm⟩ := (okB_iff f b).1 ho
    clear hm
    have HSZ := Lib.hid (sz_half b0 hlt)
    have HCV := Lib.hid (half_cover u hn)
    have HON := Lib.hid (half_once u hn)
    have HGT := Lib.hid (half_gt u hn)
    have HVG := Lib.hid (halfV_yes (!u) hn)
    obtain ⟨G, hG⟩ : ∃ G, halfF f b (!u) = G := ⟨_, rfl⟩
    obtain ⟨F, hF⟩ : ∃ F, halfF f b u = F := ⟨_, rfl⟩
    rw [hF] at hk hin HV HCV HON HGT
    rw [hG] at HCV HON HGT HVG
    clear hG
    have HF := Lib.hid hF
    clear hF
    obtain ⟨c, hc⟩ : ∃ c, b + 1 = c := ⟨_, rfl⟩
    have c0 : 0 ≤ c := by omega
    have c8 : c ≤ 8 := by omega
    rw [hc] at hk hin HV HSZ HCV HON HVG
    have HCc := Lib.hid hc
    clear hc
    refine (shalf_is HV.out _).mono ?_
    rintro e w2 ⟨rfl, hb⟩
    replace rA := rA.below hb
    replace B1 := next B1 hb
    clear hb
    obtain ⟨rA0, rA1, _, _⟩ := id rA
    have lA0 := rA.lt
    go_wp2_with fail
    clear rA0 rA1
    clear lA0
    have rW := At.new w2 F c 25
    have lrA := rA.lt
    replace rA := rA.alloc (.cells #[.int .i64 F, .int .i64 c] 25)
    replace B1 := B1.alloc B1.size (.cells #[.int .i64 F, .int .i64 c] 25)
    generalize w2.alloc (.cells #[.int .i64 F, .int .i64 c] 25) = W2 at *
    generalize w2.heap.size = D1 at *
    refine (rhalf_is HV.out _).mono ?_
    rintro e w3 ⟨rfl, hb⟩
    replace rA := rA.below hb
    replace rW := rW.below hb
    replace B1 := next B1 hb
    clear hb
    obtain ⟨rA0, rA1, _, _⟩ := id rA
    obtain ⟨rW0, rW1, _, _⟩ := id rW
    have lA0 := rA.lt
    have lW0 := rW.lt
    go_wp2_with fail
    clear rA0 rA1 rW0 rW1
    clear lA0 lW0
    have rH := At.new w3 F c 25
    have lrA := rA.lt
    have lrW := rW.lt
    replace rA := rA.alloc (.cells #[.int .i64 F, .int .i64 c] 25)
    replace rW := rW.alloc (.cells #[.int .i64 F, .int .i64 c] 25)
    replace B1 := B1.alloc B1.size (.cells #[.int .i64 F, .int .i64 c] 25)
    generalize w3.alloc (.cells #[.int .i64 F, .int .i64 c] 25) = W3 at *
    generalize w3.heap.size = D2 at *
    refine (sok_is ho _).mono ?_
    rintro e w4 ⟨rfl, hb⟩
    replace rA := rA.below hb
    replace rW := rW.below hb
    replace rH := rH.below hb
    replace B1 := next B1 hb
    clear hb
    obtain ⟨rA0, rA1, _, _⟩ := id rA
    go_wp2_with fail
    clear rA0 rA1
    refine (rhalf_is HVG.out _).mono ?_
    rintro e w5 ⟨rfl, hb⟩
    replace rA := rA.below hb
    replace rW := rW.below hb
    replace rH := rH.below hb
    replace B1 := next B1 hb
    clear hb
    go_wp2_with fail
    clear lrA lrW
    have rG := At.new w5 G c 25
    have lrA := rA.lt
    have lrW := rW.lt
    have lrH := rH.lt
    replace rA := rA.alloc (.cells #[.int .i64 G, .int .i64 c] 25)
    replace rW := rW.alloc (.cells #[.int .i64 G, .int .i64 c] 25)
    replace rH := rH.alloc (.cells #[.int .i64 G, .int .i64 c] 25)
    replace B1 := B1.alloc B1.size (.cells #[.int .i64 G, .int .i64 c] 25)
    generalize w5.alloc (.cells #[.int .i64 G, .int .i64 c] 25) = W5 at *
    generalize w5.heap.size = D3 at *
    clear rW lrW
    go_loopw [11] (fun i wr => ∃ k : Nat, k ≤ 256 ∧ i = .int .i64 k ∧ At wr A f b ∧ At wr D2 F c ∧ At wr D3 G c ∧ Below w.heap.size w wr) (fun i _ => 256 - (intOf i).toNat)
    case atStart => exact ⟨0, Nat.zero_le _, rfl, rA, rH, rG, B1⟩
    case round =>
      clear rA rH rG B1
      obtain ⟨k, hk2, rfl, rA, rH, rG, B1⟩ := hrel
      obtain ⟨rA0, rA1, _, _⟩ := id rA
      obtain ⟨rH0, rH1, _, _⟩ := id rH
      obtain ⟨rG0, rG1, _, _⟩ := id rG
      by_cases hlt2 : k < 256
      · have HC := Lib.hid (HCV.out k)
        cases h1 : hasB F c (k : Int)
        · cases h2 : hasB G c (k : Int)
          · have H1 := Lib.hid h1
            have H2 := Lib.hid h2
            have H3 := Lib.hid (show hasB f b (k : Int) = false by rw [← HC.out, H1.out, H2.out]; rfl)
            clear h1 h2
            go_wp2_with fail
            refine (rhas_is H1.out _ (by omega)).mono ?_
            rintro e y1 ⟨rfl, hb⟩
            replace rA := rA.below hb
            replace rH := rH.below hb
            replace rG := rG.below hb
            replace B1 := next B1 hb
            clear hb
            clear rA0 rA1 rH0 rH1 rG0 rG1
            obtain ⟨rA0, rA1, _, _⟩ := id rA
            obtain ⟨rH0, rH1, _, _⟩ := id rH
            obtain ⟨rG0, rG1, _, _⟩ := id rG
            go_wp2_with fail
            refine (rhas_is H2.out _ (by omega)).mono ?_
            rintro e y2 ⟨rfl, hb⟩
            replace rA := rA.below hb
            replace rH := rH.below hb
            replace rG := rG.below hb
            replace B1 := next B1 hb
            clear hb
            clear rA0 rA1 rH0 rH1 rG0 rG1
            obtain ⟨rA0, rA1, _, _⟩ := id rA
            obtain ⟨rH0, rH1, _, _⟩ := id rH
            obtain ⟨rG0, rG1, _, _⟩ := id rG
            go_wp2_with fail
            refine (rhas_is H3.out _ (by omega)).mono ?_
            rintro e y3 ⟨rfl, hb⟩
            replace rA := rA.below hb
            replace rH := rH.below hb
            replace rG := rG.below hb
            replace B1 := next B1 hb
            clear hb
            clear rA0 rA1 rH0 rH1 rG0 rG1
            obtain ⟨rA0, rA1, _, _⟩ := id rA
            obtain ⟨rH0, rH1, _, _⟩ := id rH
            obtain ⟨rG0, rG1, _, _⟩ := id rG
            go_wp2
            go_roundw
            case rel => exact ⟨k + 1, by omega, by go_num, rA, rH, rG, B1⟩
            case measure => simp [intOf]; omega
          · have H1 := Lib.hid h1
            have H2 := Lib.hid h2
            have H3 := Lib.hid (show hasB f b (k : Int) = true by rw [← HC.out, H1.out, H2.out]; rfl)
            clear h1 h2
            go_wp2_with fail
            refine (rhas_is H1.out _ (by omega)).mono ?_
            rintro e y1 ⟨rfl, hb⟩
            replace rA := rA.below hb
            replace rH := rH.below hb
            replace rG := rG.below hb
            replace B1 := next B1 hb
            clear hb
            clear rA0 rA1 rH0 rH1 rG0 rG1
            obtain ⟨rA0, rA1, _, _⟩ := id rA
            obtain ⟨rH0, rH1, _, _⟩ := id rH
            obtain ⟨rG0, rG1, _, _⟩ := id rG
            go_wp2_with fail
            refine (rhas_is H2.out _ (by omega)).mono ?_
            rintro e y2 ⟨rfl, hb⟩
            replace rA := rA.below hb
            replace rH := rH.below hb
            replace rG := rG.below hb
            replace B1 := next B1 hb
            clear hb
            clear rA0 rA1 rH0 rH1 rG0 rG1
            obtain ⟨rA0, rA1, _, _⟩ := id rA
            obtain ⟨rH0, rH1, _, _⟩ := id rH
            obtain ⟨rG0, rG1, _, _⟩ := id rG
            go_wp2_with fail
            refine (rhas_is H3.out _ (by omega)).mono ?_
            rintro e y3 ⟨rfl, hb⟩
            replace rA := rA.below hb
            replace rH := rH.below hb
            replace rG := rG.below hb
            replace B1 := next B1 hb
            clear hb
            clear rA0 rA1 rH0 rH1 rG0 rG1
            obtain ⟨rA0, rA1, _, _⟩ := id rA
            obtain ⟨rH0, rH1, _, _⟩ := id rH
            obtain ⟨rG0, rG1, _, _⟩ := id rG
            go_wp2
            go_roundw
            case rel => exact ⟨k + 1, by omega, by go_num, rA, rH, rG, B1⟩
            case measure => simp [intOf]; omega
        · have H2 := Lib.hid (HON.out k h1)
          have H1 := Lib.hid h1
          have H3 := Lib.hid (show hasB f b (k : Int) = true by rw [← HC.out, H1.out]; rfl)
          clear h1
          go_wp2_with fail
          refine (rhas_is H1.out _ (by omega)).mono ?_
          rintro e y1 ⟨rfl, hb⟩
          replace rA := rA.below hb
          replace rH := rH.below hb
          replace rG := rG.below hb
          replace B1 := next B1 hb
          clear hb
          clear rA0 rA1 rH0 rH1 rG0 rG1
          obtain ⟨rA0, rA1, _, _⟩ := id rA
          obtain ⟨rH0, rH1, _, _⟩ := id rH
          obtain ⟨rG0, rG1, _, _⟩ := id rG
          go_wp2_with fail
          refine (rhas_is H2.out _ (by omega)).mono ?_
          rintro e y2 ⟨rfl, hb⟩
          replace rA := rA.below hb
          replace rH := rH.below hb
          replace rG := rG.below hb
          replace B1 := next B1 hb
          clear hb
          clear rA0 rA1 rH0 rH1 rG0 rG1
          obtain ⟨rA0, rA1, _, _⟩ := id rA
          obtain ⟨rH0, rH1, _, _⟩ := id rH
          obtain ⟨rG0, rG1, _, _⟩ := id rG
          go_wp2_with fail
          refine (rhas_is H3.out _ (by omega)).mono ?_
          rintro e y3 ⟨rfl, hb⟩
          replace rA := rA.below hb
          replace rH := rH.below hb
          replace rG := rG.below hb
          replace B1 := next B1 hb
          clear hb
          clear rA0 rA1 rH0 rH1 rG0 rG1
          obtain ⟨rA0, rA1, _, _⟩ := id rA
          obtain ⟨rH0, rH1, _, _⟩ := id rH
          obtain ⟨rG0, rG1, _, _⟩ := id rG
          go_wp2
          go_roundw
          case rel => exact ⟨k + 1, by omega, by go_num, rA, rH, rG, B1⟩
          case measure => simp [intOf]; omega
      · have hgt := HGT.out
        have hk3 : 255 < (k : Int) := by omega
        clear hlt2 hk2
        go_wp2_with fail
        refine (rin_is hin _).mono ?_
        rintro e y4 ⟨rfl, hb⟩
        replace rA := rA.below hb
        replace rH := rH.below hb
        replace rG := rG.below hb
        replace B1 := next B1 hb
        clear hb
        clear rA0 rA1 rH0 rH1 rG0 rG1
        obtain ⟨rA0, rA1, _, _⟩ := id rA
        obtain ⟨rH0, rH1, _, _⟩ := id rH
        obtain ⟨rG0, rG1, _, _⟩ := id rG
        go_wp2
        go_ret
        exact ⟨rfl, B1⟩
  · have hn' : halfB f b = false := by simpa using hn
    clear hn
    have HV := Lib.hid (halfV_no u hn')
    refine (shalf_is HV.out _).mono ?_
    rintro e w2 ⟨rfl, hb⟩
    replace rA := rA.below hb
    replace B1 := next B1 hb
    clear hb
    obtain ⟨rA0, rA1, _, _⟩ := id rA
    have lA0 := rA.lt
    go_wp2_with fail
    clear rA0 rA1
    clear lA0
    have rW := At.new w2 0 0 25
    have lrA := rA.lt
    replace rA := rA.alloc (.cells #[.int .i64 0, .int .i64 0] 25)
    replace B1 := B1.alloc B1.size (.cells #[.int .i64 0, .int .i64 0] 25)
    generalize w2.alloc (.cells #[.int .i64 0, .int .i64 0] 25) = W2 at *
    generalize w2.heap.size = D1 at *
    refine (rhalf_is HV.out _).mono ?_
    rintro e w3 ⟨rfl, hb⟩
    replace rA := rA.below hb
    replace rW := rW.below hb
    replace B1 := next B1 hb
    clear hb
    obtain ⟨rA0, rA1, _, _⟩ := id rA
    obtain ⟨rW0, rW1, _, _⟩ := id rW
    have lA0 := rA.lt
    have lW0 := rW.lt
    by_cases ho : okB f b = true
    · have hb8 : (b == 8) = true := by
        obtain ⟨_, h8, _⟩ := (okB_iff f b).1 ho
        have : ¬ b < 8 := fun h => by rw [(halfB_iff f b).2 ⟨ho, h⟩] at hn'; cases hn'
        simp; omega
      clear hn'
      go_wp2_with fail
      clear rA0 rA1 rW0 rW1
      clear lA0 lW0
      have rH := At.new w3 0 0 25
      have lrA := rA.lt
      have lrW := rW.lt
      replace rA := rA.alloc (.cells #[.int .i64 0, .int .i64 0] 25)
      replace rW := rW.alloc (.cells #[.int .i64 0, .int .i64 0] 25)
      replace B1 := B1.alloc B1.size (.cells #[.int .i64 0, .int .i64 0] 25)
      generalize w3.alloc (.cells #[.int .i64 0, .int .i64 0] 25) = W3 at *
      generalize w3.heap.size = D2 at *
      refine (sok_is ho _).mono ?_
      rintro e w4 ⟨rfl, hb⟩
      replace rA := rA.below hb
      replace rW := rW.below hb
      replace rH := rH.below hb
      replace B1 := next B1 hb
      clear hb
      obtain ⟨rA0, rA1, _, _⟩ := id rA
      obtain ⟨rW0, rW1, _, _⟩ := id rW
      obtain ⟨rH0, rH1, _, _⟩ := id rH
      go_wp2
      go_ret
      exact ⟨rfl, B1⟩
    · have ho' : okB f b = false := by simpa using ho
      clear ho
      go_wp2_with fail
      clear rA0 rA1 rW0 rW1
      clear lA0 lW0
      have rH := At.new w3 0 0 25
      have lrA := rA.lt
      have lrW := rW.lt
      replace rA := rA.alloc (.cells #[.int .i64 0, .int .i64 0] 25)
      replace rW := rW.alloc (.cells #[.int .i64 0, .int .i64 0] 25)
      replace B1 := B1.alloc B1.size (.cells #[.int .i64 0, .int .i64 0] 25)
      generalize w3.alloc (.cells #[.int .i64 0, .int .i64 0] 25) = W3 at *
      generalize w3.heap.size = D2 at *
      refine (sok_is ho' _).mono ?_
      rintro e w4 ⟨rfl, hb⟩
      replace rA := rA.below hb
      replace rW := rW.below hb
      replace rH := rH.below hb
      replace B1 := next B1 hb
      clear hb
      obtain ⟨rA0, rA1, _, _⟩ := id rA
      obtain ⟨rW0, rW1, _, _⟩ := id rW
      obtain ⟨rH0, rH1, _, _⟩ := id rH
      go_wp2
      go_ret
      exact ⟨rfl, B1⟩

end Go.Proofs.Ytglmoacgaacmeaa
