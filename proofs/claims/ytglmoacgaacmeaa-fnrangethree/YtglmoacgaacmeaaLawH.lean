/-
  What is in what is in a range is in it: the walk of the law.
-/
import Derived.Test.YtglmoacgaacmeaaLawE0
namespace Go.Proofs.Ytglmoacgaacmeaa
open Go.RowKit
set_option linter.unusedSimpArgs false

theorem sin_is {f b g c : Int} {v : Bool} (h : inB f b g c = v) (w : World) :
    Calls Try.prog 25 #[.agg #[.int .i64 f, .int .i64 b], .agg #[.int .i64 g, .int .i64 c]] w fun e w' => e = .returned (.bool v) ∧ Below w.heap.size w w' := by
  rw [← h]; exact sin_any f b g c w

set_option maxRecDepth 100000 in
set_option maxHeartbeats 2000000 in
theorem lawThree (a : Option Addr) (len cap : Nat) (zs : List Int) (a2 : Option Addr) (len2 cap2 : Nat) (zs2 : List Int) (w : World) (h : IsRow w a len cap zs) (_h2 : IsRow w a2 len2 cap2 zs2) :
    Calls Try.prog 13 #[.slice a len cap, .slice a2 len2 cap2] w fun e w' => e = .returned (.bool true) ∧ Below w.heap.size w w' := by
  clear _h2
  by_cases hl : 1048576 < len
  · clear h
    go_enter Try.func13, Try.ntmps13
    go_wp2
    go_ret
    exact ⟨rfl, Below.refl _ _⟩
  by_cases hl2 : 1048576 < len2
  · clear h
    go_enter Try.func13, Try.ntmps13
    go_wp2
    go_ret
    exact ⟨rfl, Below.refl _ _⟩
  have H := Lib.hid h
  clear h
  have hlb : decide (1048576 < (len : Int)) = false := by simp; omega
  have hlb2 : decide (1048576 < (len2 : Int)) = false := by simp; omega
  go_enter Try.func13, Try.ntmps13
  go_wp2_with fail
  refine (dIn_any a len cap zs _ H.out).mono ?_
  rintro e w1 ⟨f, b, g, c, hs, hs', rfl, hb1⟩
  have HS := Lib.hid (And.intro hs hs')
  clear hs hs'
  have rA := (At.new w1 f b 25).alloc (.cells #[.int .i64 g, .int .i64 c] 25)
  have rC := At.new (w1.alloc (.cells #[.int .i64 f, .int .i64 b] 25)) g c 25
  simp only [World.size_alloc] at rC
  have hz1 := hb1.size
  have B1 := next hb1 (alloc2 w1 (.cells #[.int .i64 f, .int .i64 b] 25) (.cells #[.int .i64 g, .int .i64 c] 25))
  clear hb1
  go_wp2_with fail
  generalize (w1.alloc (.cells #[.int .i64 f, .int .i64 b] 25)).alloc (.cells #[.int .i64 g, .int .i64 c] 25) = W1 at *
  generalize w1.heap.size = A at *
  cases hn : inB f b g c
  · have HC := Lib.hid hn
    clear hn
    refine (rin_is HC.out _).mono ?_
    rintro e w2 ⟨rfl, hb⟩
    replace rA := rA.below hb
    replace rC := rC.below hb
    replace B1 := next B1 hb
    clear hb
    obtain ⟨a0, a1, _, _⟩ := id rA
    obtain ⟨c0, c1, _, _⟩ := id rC
    go_wp2_with fail
    refine (sin_is HC.out _).mono ?_
    rintro e w3 ⟨rfl, hb⟩
    replace rA := rA.below hb
    replace rC := rC.below hb
    replace B1 := next B1 hb
    clear hb
    clear a0 a1 c0 c1
    obtain ⟨a0, a1, _, _⟩ := id rA
    obtain ⟨c0, c1, _, _⟩ := id rC
    go_wp2_with fail
    refine (sin_is HC.out _).mono ?_
    rintro e w4 ⟨rfl, hb⟩
    replace rA := rA.below hb
    replace rC := rC.below hb
    replace B1 := next B1 hb
    clear hb
    go_wp2
    go_ret
    exact ⟨rfl, B1⟩
  · have HC := Lib.hid hn
    clear hn
    refine (rin_is HC.out _).mono ?_
    rintro e w2 ⟨rfl, hb⟩
    replace rA := rA.below hb
    replace rC := rC.below hb
    replace B1 := next B1 hb
    clear hb
    obtain ⟨a0, a1, _, _⟩ := id rA
    obtain ⟨c0, c1, _, _⟩ := id rC
    go_wp2_with fail
    refine (sin_is HC.out _).mono ?_
    rintro e w3 ⟨rfl, hb⟩
    replace rA := rA.below hb
    replace rC := rC.below hb
    replace B1 := next B1 hb
    clear hb
    clear a0 a1 c0 c1
    obtain ⟨a0, a1, _, _⟩ := id rA
    obtain ⟨c0, c1, _, _⟩ := id rC
    go_wp2_with fail
    refine (ly_any len2 _ (by omega)).mono ?_
    rintro e w6 ⟨h, d, rfl, hb⟩
    clear a0 a1 c0 c1
    obtain ⟨a0, a1, _, _⟩ := rA.below hb
    obtain ⟨c0, c1, _, _⟩ := rC.below hb
    have la := (rA.below hb).lt
    have lc := (rC.below hb).lt
    replace rA := (rA.below hb).alloc (.cells #[.int .i64 h, .int .i64 d] 25)
    replace rC := (rC.below hb).alloc (.cells #[.int .i64 h, .int .i64 d] 25)
    have rD := At.new w6 h d 25
    replace B1 := (next B1 hb).alloc (next B1 hb).size (.cells #[.int .i64 h, .int .i64 d] 25)
    clear hb
    go_wp2_with fail
    clear a0 a1 c0 c1
    generalize w6.alloc (.cells #[.int .i64 h, .int .i64 d] 25) = W6 at *
    generalize w6.heap.size = D at *
    cases hu : inB g c h d
    · have HU := Lib.hid hu
      clear hu
      refine (rin_is HU.out _).mono ?_
      rintro e w7 ⟨rfl, hb⟩
      replace rA := rA.below hb
      replace rC := rC.below hb
      replace rD := rD.below hb
      replace B1 := next B1 hb
      clear hb
      go_wp2
      go_ret
      exact ⟨rfl, B1⟩
    · have HU := Lib.hid hu
      clear hu
      have HV := Lib.hid (in_trans HC.out HU.out)
      refine (rin_is HU.out _).mono ?_
      rintro e w7 ⟨rfl, hb⟩
      replace rA := rA.below hb
      replace rC := rC.below hb
      replace rD := rD.below hb
      replace B1 := next B1 hb
      clear hb
      obtain ⟨a0, a1, _, _⟩ := id rA
      obtain ⟨c0, c1, _, _⟩ := id rC
      obtain ⟨d0, d1, _, _⟩ := id rD
      go_wp2_with fail
      refine (rin_is HV.out _).mono ?_
      rintro e w8 ⟨rfl, hb⟩
      replace rA := rA.below hb
      replace rC := rC.below hb
      replace rD := rD.below hb
      replace B1 := next B1 hb
      clear hb
      go_wp2
      go_ret
      exact ⟨rfl, B1⟩

end Go.Proofs.Ytglmoacgaacmeaa
