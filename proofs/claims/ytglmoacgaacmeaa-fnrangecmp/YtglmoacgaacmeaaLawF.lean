/-
  Of two ranges one stands ahead, unless they are the same: the walk of the law.
-/
import Derived.Test.YtglmoacgaacmeaaLawE0
namespace Go.Proofs.Ytglmoacgaacmeaa
open Go.RowKit
set_option linter.unusedSimpArgs false

set_option maxRecDepth 100000 in
set_option maxHeartbeats 2000000 in
theorem lawCmp (a : Option Addr) (len cap : Nat) (zs : List Int) (w : World) (h : IsRow w a len cap zs) :
    Calls Try.prog 15 #[.slice a len cap] w fun e w' => e = .returned (.bool true) ∧ Below w.heap.size w w' := by
  by_cases hl : 1048576 < len
  · clear h
    go_enter Try.func15, Try.ntmps15
    go_wp2
    go_ret
    exact ⟨rfl, Below.refl _ _⟩
  have H := Lib.hid h
  clear h
  have hlb : decide (1048576 < (len : Int)) = false := by simp; omega
  go_enter Try.func15, Try.ntmps15
  go_wp2_with fail
  refine (dCmp_any a len cap zs _ H.out).mono ?_
  rintro e w1 ⟨f, b, g, c, hs, hs', rfl, hb1⟩
  have HS := Lib.hid (And.intro hs hs')
  clear hs hs'
  have rA := (At.new w1 f b 25).alloc (.cells #[.int .i64 g, .int .i64 c] 25)
  have rC := At.new (w1.alloc (.cells #[.int .i64 f, .int .i64 b] 25)) g c 25
  simp only [World.size_alloc] at rC
  have hz1 := hb1.size
  have B1 := next hb1 (alloc2 w1 (.cells #[.int .i64 f, .int .i64 b] 25) (.cells #[.int .i64 g, .int .i64 c] 25))
  clear hb1
  go_wp2_with fail
  generalize (w1.alloc (.cells #[.int .i64 f, .int .i64 b] 25)).alloc (.cells #[.int .i64 g, .int .i64 c] 25) = W1 at *
  generalize w1.heap.size = A at *
  by_cases ho : okB f b = true
  · by_cases hg : okB g c = true
    · have HN := Lib.hid (cmpOk_yes ho hg)
      rcases cmp3 f b g c with hn | hn | hn
      · have HC := Lib.hid (HN.out.trans hn)
        clear hn
        refine (rcmp_is HC.out _).mono ?_
        rintro e w2 ⟨rfl, hb⟩
        replace rA := rA.below hb
        replace rC := rC.below hb
        replace B1 := next B1 hb
        clear hb
        obtain ⟨a0, a1, _, _⟩ := id rA
        obtain ⟨c0, c1, _, _⟩ := id rC
        go_wp2_with fail
        refine (scmp_is HC.out _).mono ?_
        rintro e w3 ⟨rfl, hb⟩
        replace rA := rA.below hb
        replace rC := rC.below hb
        replace B1 := next B1 hb
        clear hb
        clear a0 a1 c0 c1
        obtain ⟨a0, a1, _, _⟩ := id rA
        obtain ⟨c0, c1, _, _⟩ := id rC
        go_wp2_with fail
        refine (sok_is ho _).mono ?_
        rintro e w4 ⟨rfl, hb⟩
        replace rA := rA.below hb
        replace rC := rC.below hb
        replace B1 := next B1 hb
        clear hb
        clear a0 a1 c0 c1
        obtain ⟨a0, a1, _, _⟩ := id rA
        obtain ⟨c0, c1, _, _⟩ := id rC
        go_wp2_with fail
        refine (sok_is hg _).mono ?_
        rintro e w5 ⟨rfl, hb⟩
        replace rA := rA.below hb
        replace rC := rC.below hb
        replace B1 := next B1 hb
        clear hb
        clear a0 a1 c0 c1
        obtain ⟨a0, a1, _, _⟩ := id rA
        obtain ⟨c0, c1, _, _⟩ := id rC
        have HB := Lib.hid ((cmpOk_yes hg ho).trans ((cmp_neg f b g c).trans (by rw [HN.out.symm.trans HC.out])))
        have hne : ¬ (f = g ∧ b = c) := by
          rintro ⟨rfl, rfl⟩
          have k := HN.out.symm.trans HC.out
          rw [cmp_self] at k
          omega
        by_cases hbc : b = c
        · have hfg : ¬ f = g := fun k => hne ⟨k, hbc⟩
          clear hbc hne
          go_wp2_with fail
          refine (rcmp_is HB.out _).mono ?_
          rintro e w6 ⟨rfl, hb⟩
          replace rA := rA.below hb
          replace rC := rC.below hb
          replace B1 := next B1 hb
          clear hb
          clear a0 a1 c0 c1
          obtain ⟨a0, a1, _, _⟩ := id rA
          obtain ⟨c0, c1, _, _⟩ := id rC
          have hin : inB f b g c = false := by
            by_cases k : inB f b g c = true
            · exact absurd (HN.out.symm.trans HC.out) (cmp_in ho hg k)
            · simpa using k
          go_wp2_with fail
          refine (rin_is hin _).mono ?_
          rintro e w7 ⟨rfl, hb⟩
          replace rA := rA.below hb
          replace rC := rC.below hb
          replace B1 := next B1 hb
          clear hb
          go_wp2
          go_ret
          exact ⟨rfl, B1⟩
        · clear hne
          go_wp2_with fail
          refine (rcmp_is HB.out _).mono ?_
          rintro e w6 ⟨rfl, hb⟩
          replace rA := rA.below hb
          replace rC := rC.below hb
          replace B1 := next B1 hb
          clear hb
          clear a0 a1 c0 c1
          obtain ⟨a0, a1, _, _⟩ := id rA
          obtain ⟨c0, c1, _, _⟩ := id rC
          have hin : inB f b g c = false := by
            by_cases k : inB f b g c = true
            · exact absurd (HN.out.symm.trans HC.out) (cmp_in ho hg k)
            · simpa using k
          go_wp2_with fail
          refine (rin_is hin _).mono ?_
          rintro e w7 ⟨rfl, hb⟩
          replace rA := rA.below hb
          replace rC := rC.below hb
          replace B1 := next B1 hb
          clear hb
          go_wp2
          go_ret
          exact ⟨rfl, B1⟩
      · have HC := Lib.hid (HN.out.trans hn)
        clear hn
        refine (rcmp_is HC.out _).mono ?_
        rintro e w2 ⟨rfl, hb⟩
        replace rA := rA.below hb
        replace rC := rC.below hb
        replace B1 := next B1 hb
        clear hb
        obtain ⟨a0, a1, _, _⟩ := id rA
        obtain ⟨c0, c1, _, _⟩ := id rC
        go_wp2_with fail
        refine (scmp_is HC.out _).mono ?_
        rintro e w3 ⟨rfl, hb⟩
        replace rA := rA.below hb
        replace rC := rC.below hb
        replace B1 := next B1 hb
        clear hb
        clear a0 a1 c0 c1
        obtain ⟨a0, a1, _, _⟩ := id rA
        obtain ⟨c0, c1, _, _⟩ := id rC
        go_wp2_with fail
        refine (sok_is ho _).mono ?_
        rintro e w4 ⟨rfl, hb⟩
        replace rA := rA.below hb
        replace rC := rC.below hb
        replace B1 := next B1 hb
        clear hb
        clear a0 a1 c0 c1
        obtain ⟨a0, a1, _, _⟩ := id rA
        obtain ⟨c0, c1, _, _⟩ := id rC
        go_wp2_with fail
        refine (sok_is hg _).mono ?_
        rintro e w5 ⟨rfl, hb⟩
        replace rA := rA.below hb
        replace rC := rC.below hb
        replace B1 := next B1 hb
        clear hb
        clear a0 a1 c0 c1
        obtain ⟨a0, a1, _, _⟩ := id rA
        obtain ⟨c0, c1, _, _⟩ := id rC
        obtain ⟨rfl, rfl⟩ := cmp_zero (HN.out.symm.trans HC.out)
        have hin := in_refl ho
        go_wp2_with fail
        refine (rcmp_is HC.out _).mono ?_
        rintro e w6 ⟨rfl, hb⟩
        replace rA := rA.below hb
        replace rC := rC.below hb
        replace B1 := next B1 hb
        clear hb
        clear a0 a1 c0 c1
        obtain ⟨a0, a1, _, _⟩ := id rA
        obtain ⟨c0, c1, _, _⟩ := id rC
        go_wp2_with fail
        refine (rin_is hin _).mono ?_
        rintro e w7 ⟨rfl, hb⟩
        replace rA := rA.below hb
        replace rC := rC.below hb
        replace B1 := next B1 hb
        clear hb
        go_wp2
        go_ret
        exact ⟨rfl, B1⟩
      · have HC := Lib.hid (HN.out.trans hn)
        clear hn
        refine (rcmp_is HC.out _).mono ?_
        rintro e w2 ⟨rfl, hb⟩
        replace rA := rA.below hb
        replace rC := rC.below hb
        replace B1 := next B1 hb
        clear hb
        obtain ⟨a0, a1, _, _⟩ := id rA
        obtain ⟨c0, c1, _, _⟩ := id rC
        go_wp2_with fail
        refine (scmp_is HC.out _).mono ?_
        rintro e w3 ⟨rfl, hb⟩
        replace rA := rA.below hb
        replace rC := rC.below hb
        replace B1 := next B1 hb
        clear hb
        clear a0 a1 c0 c1
        obtain ⟨a0, a1, _, _⟩ := id rA
        obtain ⟨c0, c1, _, _⟩ := id rC
        go_wp2_with fail
        refine (sok_is ho _).mono ?_
        rintro e w4 ⟨rfl, hb⟩
        replace rA := rA.below hb
        replace rC := rC.below hb
        replace B1 := next B1 hb
        clear hb
        clear a0 a1 c0 c1
        obtain ⟨a0, a1, _, _⟩ := id rA
        obtain ⟨c0, c1, _, _⟩ := id rC
        go_wp2_with fail
        refine (sok_is hg _).mono ?_
        rintro e w5 ⟨rfl, hb⟩
        replace rA := rA.below hb
        replace rC := rC.below hb
        replace B1 := next B1 hb
        clear hb
        clear a0 a1 c0 c1
        obtain ⟨a0, a1, _, _⟩ := id rA
        obtain ⟨c0, c1, _, _⟩ := id rC
        have HB := Lib.hid ((cmpOk_yes hg ho).trans ((cmp_neg f b g c).trans (by rw [HN.out.symm.trans HC.out])))
        have hne : ¬ (f = g ∧ b = c) := by
          rintro ⟨rfl, rfl⟩
          have k := HN.out.symm.trans HC.out
          rw [cmp_self] at k
          omega
        by_cases hbc : b = c
        · have hfg : ¬ f = g := fun k => hne ⟨k, hbc⟩
          clear hbc hne
          go_wp2_with fail
          refine (rcmp_is HB.out _).mono ?_
          rintro e w6 ⟨rfl, hb⟩
          replace rA := rA.below hb
          replace rC := rC.below hb
          replace B1 := next B1 hb
          clear hb
          clear a0 a1 c0 c1
          obtain ⟨a0, a1, _, _⟩ := id rA
          obtain ⟨c0, c1, _, _⟩ := id rC
          cases hin : inB f b g c
          · go_wp2_with fail
            refine (rin_is hin _).mono ?_
            rintro e w7 ⟨rfl, hb⟩
            replace rA := rA.below hb
            replace rC := rC.below hb
            replace B1 := next B1 hb
            clear hb
            go_wp2
            go_ret
            exact ⟨rfl, B1⟩
          · go_wp2_with fail
            refine (rin_is hin _).mono ?_
            rintro e w7 ⟨rfl, hb⟩
            replace rA := rA.below hb
            replace rC := rC.below hb
            replace B1 := next B1 hb
            clear hb
            go_wp2
            go_ret
            exact ⟨rfl, B1⟩
        · clear hne
          go_wp2_with fail
          refine (rcmp_is HB.out _).mono ?_
          rintro e w6 ⟨rfl, hb⟩
          replace rA := rA.below hb
          replace rC := rC.below hb
          replace B1 := next B1 hb
          clear hb
          clear a0 a1 c0 c1
          obtain ⟨a0, a1, _, _⟩ := id rA
          obtain ⟨c0, c1, _, _⟩ := id rC
          cases hin : inB f b g c
          · go_wp2_with fail
            refine (rin_is hin _).mono ?_
            rintro e w7 ⟨rfl, hb⟩
            replace rA := rA.below hb
            replace rC := rC.below hb
            replace B1 := next B1 hb
            clear hb
            go_wp2
            go_ret
            exact ⟨rfl, B1⟩
          · go_wp2_with fail
            refine (rin_is hin _).mono ?_
            rintro e w7 ⟨rfl, hb⟩
            replace rA := rA.below hb
            replace rC := rC.below hb
            replace B1 := next B1 hb
            clear hb
            go_wp2
            go_ret
            exact ⟨rfl, B1⟩
    · have hg' : okB g c = false := by simpa using hg
      clear hg
      have HC := Lib.hid (cmpOk_no2 (f := f) (b := b) hg')
      refine (rcmp_is HC.out _).mono ?_
      rintro e w2 ⟨rfl, hb⟩
      replace rA := rA.below hb
      replace rC := rC.below hb
      replace B1 := next B1 hb
      clear hb
      obtain ⟨a0, a1, _, _⟩ := id rA
      obtain ⟨c0, c1, _, _⟩ := id rC
      go_wp2_with fail
      refine (scmp_is HC.out _).mono ?_
      rintro e w3 ⟨rfl, hb⟩
      replace rA := rA.below hb
      replace rC := rC.below hb
      replace B1 := next B1 hb
      clear hb
      clear a0 a1 c0 c1
      obtain ⟨a0, a1, _, _⟩ := id rA
      obtain ⟨c0, c1, _, _⟩ := id rC
      go_wp2_with fail
      refine (sok_is ho _).mono ?_
      rintro e w4 ⟨rfl, hb⟩
      replace rA := rA.below hb
      replace rC := rC.below hb
      replace B1 := next B1 hb
      clear hb
      clear a0 a1 c0 c1
      obtain ⟨a0, a1, _, _⟩ := id rA
      obtain ⟨c0, c1, _, _⟩ := id rC
      go_wp2_with fail
      refine (sok_is hg' _).mono ?_
      rintro e w5 ⟨rfl, hb⟩
      replace rA := rA.below hb
      replace rC := rC.below hb
      replace B1 := next B1 hb
      clear hb
      clear a0 a1 c0 c1
      obtain ⟨a0, a1, _, _⟩ := id rA
      obtain ⟨c0, c1, _, _⟩ := id rC
      go_wp2_with fail
      refine (scmp_is HC.out _).mono ?_
      rintro e w6 ⟨rfl, hb⟩
      replace rA := rA.below hb
      replace rC := rC.below hb
      replace B1 := next B1 hb
      clear hb
      go_wp2
      go_ret
      exact ⟨rfl, B1⟩
  · have ho' : okB f b = false := by simpa using ho
    clear ho
    have HC := Lib.hid (cmpOk_no1 (g := g) (c := c) ho')
    refine (rcmp_is HC.out _).mono ?_
    rintro e w2 ⟨rfl, hb⟩
    replace rA := rA.below hb
    replace rC := rC.below hb
    replace B1 := next B1 hb
    clear hb
    obtain ⟨a0, a1, _, _⟩ := id rA
    obtain ⟨c0, c1, _, _⟩ := id rC
    go_wp2_with fail
    refine (scmp_is HC.out _).mono ?_
    rintro e w3 ⟨rfl, hb⟩
    replace rA := rA.below hb
    replace rC := rC.below hb
    replace B1 := next B1 hb
    clear hb
    clear a0 a1 c0 c1
    obtain ⟨a0, a1, _, _⟩ := id rA
    obtain ⟨c0, c1, _, _⟩ := id rC
    go_wp2_with fail
    refine (sok_is ho' _).mono ?_
    rintro e w4 ⟨rfl, hb⟩
    replace rA := rA.below hb
    replace rC := rC.below hb
    replace B1 := next B1 hb
    clear hb
    clear a0 a1 c0 c1
    obtain ⟨a0, a1, _, _⟩ := id rA
    obtain ⟨c0, c1, _, _⟩ := id rC
    go_wp2_with fail
    refine (scmp_is HC.out _).mono ?_
    rintro e w6 ⟨rfl, hb⟩
    replace rA := rA.below hb
    replace rC := rC.below hb
    replace B1 := next B1 hb
    clear hb
    go_wp2
    go_ret
    exact ⟨rfl, B1⟩

end Go.Proofs.Ytglmoacgaacmeaa
