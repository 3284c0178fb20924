/-
  What stands ahead of what stands ahead stands ahead: the walk of the law.
-/
import Derived.Test.YtglmoacgaacmeaaLawE0
namespace Go.Proofs.Ytglmoacgaacmeaa
open Go.RowKit
set_option linter.unusedSimpArgs false

set_option maxRecDepth 100000 in
set_option maxHeartbeats 2000000 in
theorem lawOrder (a : Option Addr) (len cap : Nat) (zs : List Int) (a2 : Option Addr) (len2 cap2 : Nat) (zs2 : List Int) (w : World) (h : IsRow w a len cap zs) (_h2 : IsRow w a2 len2 cap2 zs2) :
    Calls Try.prog 18 #[.slice a len cap, .slice a2 len2 cap2] w fun e w' => e = .returned (.bool true) ∧ Below w.heap.size w w' := by
  clear _h2
  by_cases hl : 1048576 < len
  · clear h
    go_enter Try.func18, Try.ntmps18
    go_wp2
    go_ret
    exact ⟨rfl, Below.refl _ _⟩
  by_cases hl2 : 1048576 < len2
  · clear h
    go_enter Try.func18, Try.ntmps18
    go_wp2
    go_ret
    exact ⟨rfl, Below.refl _ _⟩
  have H := Lib.hid h
  clear h
  have hlb : decide (1048576 < (len : Int)) = false := by simp; omega
  have hlb2 : decide (1048576 < (len2 : Int)) = false := by simp; omega
  go_enter Try.func18, Try.ntmps18
  go_wp2_with fail
  refine (dCmp_any a len cap zs _ H.out).mono ?_
  rintro e w1 ⟨f, b, g, c, hs, hs', rfl, hb1⟩
  have HS := Lib.hid (And.intro hs hs')
  clear hs hs'
  have rA := (At.new w1 f b 25).alloc (.cells #[.int .i64 g, .int .i64 c] 25)
  have rC := At.new (w1.alloc (.cells #[.int .i64 f, .int .i64 b] 25)) g c 25
  simp only [World.size_alloc] at rC
  have hz1 := hb1.size
  have B1 := next hb1 (alloc2 w1 (.cells #[.int .i64 f, .int .i64 b] 25) (.cells #[.int .i64 g, .int .i64 c] 25))
  clear hb1
  go_wp2_with fail
  generalize (w1.alloc (.cells #[.int .i64 f, .int .i64 b] 25)).alloc (.cells #[.int .i64 g, .int .i64 c] 25) = W1 at *
  generalize w1.heap.size = A at *
  by_cases ho : okB f b = true
  · by_cases hg : okB g c = true
    · have HN := Lib.hid (cmpOk_yes ho hg)
      rcases cmp3 f b g c with hn | hn | hn
      · have HC := Lib.hid (HN.out.trans hn)
        clear hn
        refine (rcmp_is HC.out _).mono ?_
        rintro e w2 ⟨rfl, hb⟩
        replace rA := rA.below hb
        replace rC := rC.below hb
        replace B1 := next B1 hb
        clear hb
        obtain ⟨a0, a1, _, _⟩ := id rA
        obtain ⟨c0, c1, _, _⟩ := id rC
        go_wp2_with fail
        refine (scmp_is HC.out _).mono ?_
        rintro e w3 ⟨rfl, hb⟩
        replace rA := rA.below hb
        replace rC := rC.below hb
        replace B1 := next B1 hb
        clear hb
        clear a0 a1 c0 c1
        obtain ⟨a0, a1, _, _⟩ := id rA
        obtain ⟨c0, c1, _, _⟩ := id rC
        go_wp2_with fail
        refine (sok_is ho _).mono ?_
        rintro e w4 ⟨rfl, hb⟩
        replace rA := rA.below hb
        replace rC := rC.below hb
        replace B1 := next B1 hb
        clear hb
        clear a0 a1 c0 c1
        obtain ⟨a0, a1, _, _⟩ := id rA
        obtain ⟨c0, c1, _, _⟩ := id rC
        go_wp2_with fail
        refine (sok_is hg _).mono ?_
        rintro e w5 ⟨rfl, hb⟩
        replace rA := rA.below hb
        replace rC := rC.below hb
        replace B1 := next B1 hb
        clear hb
        clear a0 a1 c0 c1
        obtain ⟨a0, a1, _, _⟩ := id rA
        obtain ⟨c0, c1, _, _⟩ := id rC
        go_wp2_with fail
        refine (ly_any len2 _ (by omega)).mono ?_
        rintro e w6 ⟨h, d, rfl, hb⟩
        clear a0 a1 c0 c1
        obtain ⟨a0, a1, _, _⟩ := rA.below hb
        obtain ⟨c0, c1, _, _⟩ := rC.below hb
        have la := (rA.below hb).lt
        have lc := (rC.below hb).lt
        replace rA := (rA.below hb).alloc (.cells #[.int .i64 h, .int .i64 d] 25)
        replace rC := (rC.below hb).alloc (.cells #[.int .i64 h, .int .i64 d] 25)
        have rD := At.new w6 h d 25
        replace B1 := (next B1 hb).alloc (next B1 hb).size (.cells #[.int .i64 h, .int .i64 d] 25)
        clear hb
        go_wp2_with fail
        clear a0 a1 c0 c1
        generalize w6.alloc (.cells #[.int .i64 h, .int .i64 d] 25) = W6 at *
        generalize w6.heap.size = D at *
        have h3 : cmpOk g c h d = -1 ∨ cmpOk g c h d = 0 ∨ cmpOk g c h d = 1 := by
          by_cases k : okB h d = true
          · rw [cmpOk_yes hg k]; exact cmp3 g c h d
          · exact .inr (.inl (cmpOk_no2 (by simpa using k)))
        rcases h3 with hu | hu | hu
        · have HU := Lib.hid hu
          clear hu
          have HV := Lib.hid (show cmpOk f b h d = -1 by
            by_cases k : okB h d = true
            · rw [cmpOk_yes ho k]; exact cmp_trans (HN.out.symm.trans HC.out) ((cmpOk_yes hg k).symm.trans HU.out)
            · exact absurd ((cmpOk_no2 (f := g) (b := c) (by simpa using k)).symm.trans HU.out) (by omega))
          refine (rcmp_is HU.out _).mono ?_
          rintro e w7 ⟨rfl, hb⟩
          replace rA := rA.below hb
          replace rC := rC.below hb
          replace rD := rD.below hb
          replace B1 := next B1 hb
          clear hb
          obtain ⟨a0, a1, _, _⟩ := id rA
          obtain ⟨c0, c1, _, _⟩ := id rC
          obtain ⟨d0, d1, _, _⟩ := id rD
          go_wp2_with fail
          refine (rcmp_is HV.out _).mono ?_
          rintro e w8 ⟨rfl, hb⟩
          replace rA := rA.below hb
          replace rC := rC.below hb
          replace rD := rD.below hb
          replace B1 := next B1 hb
          clear hb
          go_wp2
          go_ret
          exact ⟨rfl, B1⟩
        · have HU := Lib.hid hu
          clear hu
          refine (rcmp_is HU.out _).mono ?_
          rintro e w7 ⟨rfl, hb⟩
          replace rA := rA.below hb
          replace rC := rC.below hb
          replace rD := rD.below hb
          replace B1 := next B1 hb
          clear hb
          go_wp2
          go_ret
          exact ⟨rfl, B1⟩
        · have HU := Lib.hid hu
          clear hu
          refine (rcmp_is HU.out _).mono ?_
          rintro e w7 ⟨rfl, hb⟩
          replace rA := rA.below hb
          replace rC := rC.below hb
          replace rD := rD.below hb
          replace B1 := next B1 hb
          clear hb
          go_wp2
          go_ret
          exact ⟨rfl, B1⟩
      · have HC := Lib.hid (HN.out.trans hn)
        clear hn
        refine (rcmp_is HC.out _).mono ?_
        rintro e w2 ⟨rfl, hb⟩
        replace rA := rA.below hb
        replace rC := rC.below hb
        replace B1 := next B1 hb
        clear hb
        obtain ⟨a0, a1, _, _⟩ := id rA
        obtain ⟨c0, c1, _, _⟩ := id rC
        go_wp2_with fail
        refine (scmp_is HC.out _).mono ?_
        rintro e w3 ⟨rfl, hb⟩
        replace rA := rA.below hb
        replace rC := rC.below hb
        replace B1 := next B1 hb
        clear hb
        clear a0 a1 c0 c1
        obtain ⟨a0, a1, _, _⟩ := id rA
        obtain ⟨c0, c1, _, _⟩ := id rC
        go_wp2_with fail
        refine (sok_is ho _).mono ?_
        rintro e w4 ⟨rfl, hb⟩
        replace rA := rA.below hb
        replace rC := rC.below hb
        replace B1 := next B1 hb
        clear hb
        clear a0 a1 c0 c1
        obtain ⟨a0, a1, _, _⟩ := id rA
        obtain ⟨c0, c1, _, _⟩ := id rC
        go_wp2_with fail
        refine (sok_is hg _).mono ?_
        rintro e w5 ⟨rfl, hb⟩
        replace rA := rA.below hb
        replace rC := rC.below hb
        replace B1 := next B1 hb
        clear hb
        clear a0 a1 c0 c1
        obtain ⟨a0, a1, _, _⟩ := id rA
        obtain ⟨c0, c1, _, _⟩ := id rC
        go_wp2_with fail
        refine (ly_any len2 _ (by omega)).mono ?_
        rintro e w6 ⟨h, d, rfl, hb⟩
        clear a0 a1 c0 c1
        obtain ⟨a0, a1, _, _⟩ := rA.below hb
        obtain ⟨c0, c1, _, _⟩ := rC.below hb
        have la := (rA.below hb).lt
        have lc := (rC.below hb).lt
        replace rA := (rA.below hb).alloc (.cells #[.int .i64 h, .int .i64 d] 25)
        replace rC := (rC.below hb).alloc (.cells #[.int .i64 h, .int .i64 d] 25)
        have rD := At.new w6 h d 25
        replace B1 := (next B1 hb).alloc (next B1 hb).size (.cells #[.int .i64 h, .int .i64 d] 25)
        clear hb
        go_wp2
        go_ret
        exact ⟨rfl, B1⟩
      · have HC := Lib.hid (HN.out.trans hn)
        clear hn
        refine (rcmp_is HC.out _).mono ?_
        rintro e w2 ⟨rfl, hb⟩
        replace rA := rA.below hb
        replace rC := rC.below hb
        replace B1 := next B1 hb
        clear hb
        obtain ⟨a0, a1, _, _⟩ := id rA
        obtain ⟨c0, c1, _, _⟩ := id rC
        go_wp2_with fail
        refine (scmp_is HC.out _).mono ?_
        rintro e w3 ⟨rfl, hb⟩
        replace rA := rA.below hb
        replace rC := rC.below hb
        replace B1 := next B1 hb
        clear hb
        clear a0 a1 c0 c1
        obtain ⟨a0, a1, _, _⟩ := id rA
        obtain ⟨c0, c1, _, _⟩ := id rC
        go_wp2_with fail
        refine (sok_is ho _).mono ?_
        rintro e w4 ⟨rfl, hb⟩
        replace rA := rA.below hb
        replace rC := rC.below hb
        replace B1 := next B1 hb
        clear hb
        clear a0 a1 c0 c1
        obtain ⟨a0, a1, _, _⟩ := id rA
        obtain ⟨c0, c1, _, _⟩ := id rC
        go_wp2_with fail
        refine (sok_is hg _).mono ?_
        rintro e w5 ⟨rfl, hb⟩
        replace rA := rA.below hb
        replace rC := rC.below hb
        replace B1 := next B1 hb
        clear hb
        clear a0 a1 c0 c1
        obtain ⟨a0, a1, _, _⟩ := id rA
        obtain ⟨c0, c1, _, _⟩ := id rC
        go_wp2_with fail
        refine (ly_any len2 _ (by omega)).mono ?_
        rintro e w6 ⟨h, d, rfl, hb⟩
        clear a0 a1 c0 c1
        obtain ⟨a0, a1, _, _⟩ := rA.below hb
        obtain ⟨c0, c1, _, _⟩ := rC.below hb
        have la := (rA.below hb).lt
        have lc := (rC.below hb).lt
        replace rA := (rA.below hb).alloc (.cells #[.int .i64 h, .int .i64 d] 25)
        replace rC := (rC.below hb).alloc (.cells #[.int .i64 h, .int .i64 d] 25)
        have rD := At.new w6 h d 25
        replace B1 := (next B1 hb).alloc (next B1 hb).size (.cells #[.int .i64 h, .int .i64 d] 25)
        clear hb
        go_wp2
        go_ret
        exact ⟨rfl, B1⟩
    · have hg' : okB g c = false := by simpa using hg
      clear hg
      have HC := Lib.hid (cmpOk_no2 (f := f) (b := b) hg')
      refine (rcmp_is HC.out _).mono ?_
      rintro e w2 ⟨rfl, hb⟩
      replace rA := rA.below hb
      replace rC := rC.below hb
      replace B1 := next B1 hb
      clear hb
      obtain ⟨a0, a1, _, _⟩ := id rA
      obtain ⟨c0, c1, _, _⟩ := id rC
      go_wp2_with fail
      refine (scmp_is HC.out _).mono ?_
      rintro e w3 ⟨rfl, hb⟩
      replace rA := rA.below hb
      replace rC := rC.below hb
      replace B1 := next B1 hb
      clear hb
      clear a0 a1 c0 c1
      obtain ⟨a0, a1, _, _⟩ := id rA
      obtain ⟨c0, c1, _, _⟩ := id rC
      go_wp2_with fail
      refine (sok_is ho _).mono ?_
      rintro e w4 ⟨rfl, hb⟩
      replace rA := rA.below hb
      replace rC := rC.below hb
      replace B1 := next B1 hb
      clear hb
      clear a0 a1 c0 c1
      obtain ⟨a0, a1, _, _⟩ := id rA
      obtain ⟨c0, c1, _, _⟩ := id rC
      go_wp2_with fail
      refine (sok_is hg' _).mono ?_
      rintro e w5 ⟨rfl, hb⟩
      replace rA := rA.below hb
      replace rC := rC.below hb
      replace B1 := next B1 hb
      clear hb
      clear a0 a1 c0 c1
      obtain ⟨a0, a1, _, _⟩ := id rA
      obtain ⟨c0, c1, _, _⟩ := id rC
      go_wp2_with fail
      refine (scmp_is HC.out _).mono ?_
      rintro e w6 ⟨rfl, hb⟩
      replace rA := rA.below hb
      replace rC := rC.below hb
      replace B1 := next B1 hb
      clear hb
      go_wp2
      go_ret
      exact ⟨rfl, B1⟩
  · have ho' : okB f b = false := by simpa using ho
    clear ho
    have HC := Lib.hid (cmpOk_no1 (g := g) (c := c) ho')
    refine (rcmp_is HC.out _).mono ?_
    rintro e w2 ⟨rfl, hb⟩
    replace rA := rA.below hb
    replace rC := rC.below hb
    replace B1 := next B1 hb
    clear hb
    obtain ⟨a0, a1, _, _⟩ := id rA
    obtain ⟨c0, c1, _, _⟩ := id rC
    go_wp2_with fail
    refine (scmp_is HC.out _).mono ?_
    rintro e w3 ⟨rfl, hb⟩
    replace rA := rA.below hb
    replace rC := rC.below hb
    replace B1 := next B1 hb
    clear hb
    clear a0 a1 c0 c1
    obtain ⟨a0, a1, _, _⟩ := id rA
    obtain ⟨c0, c1, _, _⟩ := id rC
    go_wp2_with fail
    refine (sok_is ho' _).mono ?_
    rintro e w4 ⟨rfl, hb⟩
    replace rA := rA.below hb
    replace rC := rC.below hb
    replace B1 := next B1 hb
    clear hb
    clear a0 a1 c0 c1
    obtain ⟨a0, a1, _, _⟩ := id rA
    obtain ⟨c0, c1, _, _⟩ := id rC
    go_wp2_with fail
    refine (scmp_is HC.out _).mono ?_
    rintro e w6 ⟨rfl, hb⟩
    replace rA := rA.below hb
    replace rC := rC.below hb
    replace B1 := next B1 hb
    clear hb
    go_wp2
    go_ret
    exact ⟨rfl, B1⟩

end Go.Proofs.Ytglmoacgaacmeaa
