/-
  Halves of halves: the walk of the law.
-/
import Derived.Test.YtglmoacgaacmeaaLawJ
import Derived.Test.YtglmoacgaacmeaaLawC0
namespace Go.Proofs.Ytglmoacgaacmeaa
open Go.RowKit
set_option linter.unusedSimpArgs false

theorem sz_half {b : Int} (b0 : 0 ≤ b) (h : b < 8) : sz b = 2 * sz (b + 1) := by
  rcases sz_cases b0 (by omega) with h1 | h1 | h1 | h1 | h1 | h1 | h1 | h1 | h1 <;> obtain ⟨rfl, e⟩ := h1 <;> first | omega | (rw [e]; simp [sz])
/-- a half is a range, in the whole -/
theorem half_ok {f b : Int} (u : Bool) (h : halfB f b = true) : okB (halfF f b u) (b + 1) = true := by
  obtain ⟨ho, hlt⟩ := (halfB_iff f b).1 h
  obtain ⟨b0, b8, f0, f1, hm⟩ := (okB_iff f b).1 ho
  have e := sz_half b0 hlt
  have s := sz_bd (b := b + 1) (by omega) (by omega)
  refine okB_of (by omega) (by omega) ?_ ?_ ?_
  · unfold halfF; split <;> omega
  · unfold halfF
    rcases sz_cases b0 b8 with h1 | h1 | h1 | h1 | h1 | h1 | h1 | h1 | h1 <;> obtain ⟨rfl, e1⟩ := h1 <;> rw [e1] at hm e <;> split <;> omega
  · unfold halfF
    rcases sz_cases (b := b + 1) (by omega) (by omega) with h1 | h1 | h1 | h1 | h1 | h1 | h1 | h1 | h1 <;> obtain ⟨e0, e1⟩ := h1 <;> rw [e1] at e ⊢ <;> rw [e] at hm <;> split <;> omega
theorem half_in {f b : Int} (u : Bool) (h : halfB f b = true) : inB (halfF f b u) (b + 1) f b = true := by
  obtain ⟨ho, hlt⟩ := (halfB_iff f b).1 h
  obtain ⟨b0, b8, f0, f1, hm⟩ := (okB_iff f b).1 ho
  have e := sz_half b0 hlt
  have s := sz_bd (b := b + 1) (by omega) (by omega)
  refine (in_iff (half_ok u h) ho).2 ?_
  unfold halfF; split <;> omega
/-- the two halves share nothing -/
theorem half_apart {f b : Int} (h : halfB f b = true) : inB (halfF f b false) (b + 1) (halfF f b true) (b + 1) = false := by
  obtain ⟨ho, hlt⟩ := (halfB_iff f b).1 h
  obtain ⟨b0, b8, f0, f1, hm⟩ := (okB_iff f b).1 ho
  have s := sz_bd (b := b + 1) (by omega) (by omega)
  by_cases k : inB (halfF f b false) (b + 1) (halfF f b true) (b + 1) = true
  · have := (in_iff (half_ok false h) (half_ok true h)).1 k
    simp [halfF] at this
    omega
  · simpa using k
theorem half_b (f b : Int) (u v : Bool) (h : halfB f b = true) : halfB (halfF f b u) (b + 1) = halfB (halfF f b v) (b + 1) := by
  simp [halfB, half_ok u h, half_ok v h]

set_option maxRecDepth 100000 in
set_option maxHeartbeats 2000000 in
theorem lawHalves (a : Option Addr) (len cap : Nat) (zs : List Int) (w : World) (h : IsRow w a len cap zs) :
    Calls Try.prog 17 #[.slice a len cap] w fun e w' => e = .returned (.bool true) ∧ Below w.heap.size w w' := by
  by_cases hl : 1048576 < len
  · clear h
    go_enter Try.func17, Try.ntmps17
    go_wp2
    go_ret
    exact ⟨rfl, Below.refl _ _⟩
  have H := Lib.hid h
  clear h
  have hlb : decide (1048576 < (len : Int)) = false := by simp; omega
  go_enter Try.func17, Try.ntmps17
  go_wp2_with fail
  refine (dHalf_any a len cap zs _ H.out).mono ?_
  rintro e w1 ⟨f, b, u, hs, rfl, hb1⟩
  have HS := Lib.hid hs
  clear hs
  have rA := At.new w1 f b 25
  have B1 := hb1.alloc hb1.size (.cells #[.int .i64 f, .int .i64 b] 25)
  clear hb1
  go_wp2_with fail
  generalize w1.alloc (.cells #[.int .i64 f, .int .i64 b] 25) = W1 at *
  generalize w1.heap.size = A at *
  by_cases hn : halfB f b = true
  · have HV := Lib.hid (halfV_yes u hn)
    have hk := half_ok u hn
    have hin := half_in u hn
    obtain ⟨ho, hlt⟩ := (halfB_iff f b).1 hn
    obtain ⟨b0, b8, f0, f1, hm⟩ := (okB_iff f b).1 ho
    clear hm
    have HSZ := Lib.hid (sz_half b0 hlt)
    obtain ⟨F, hF⟩ : ∃ F, halfF f b u = F := ⟨_, rfl⟩
    rw [hF] at hk hin HV
    have HF := Lib.hid hF
    clear hF
    obtain ⟨c, hc⟩ : ∃ c, b + 1 = c := ⟨_, rfl⟩
    have c0 : 0 ≤ c := by omega
    have c8 : c ≤ 8 := by omega
    rw [hc] at hk hin HV HSZ
    have HCc := Lib.hid hc
    clear hc
    refine (shalf_is HV.out _).mono ?_
    rintro e w2 ⟨rfl, hb⟩
    replace rA := rA.below hb
    replace B1 := next B1 hb
    clear hb
    obtain ⟨rA0, rA1, _, _⟩ := id rA
    have lA0 := rA.lt
    go_wp2_with fail
    clear rA0 rA1
    clear lA0
    have rW := At.new w2 F c 25
    have lrA := rA.lt
    replace rA := rA.alloc (.cells #[.int .i64 F, .int .i64 c] 25)
    replace B1 := B1.alloc B1.size (.cells #[.int .i64 F, .int .i64 c] 25)
    generalize w2.alloc (.cells #[.int .i64 F, .int .i64 c] 25) = W2 at *
    generalize w2.heap.size = D1 at *
    refine (rhalf_is HV.out _).mono ?_
    rintro e w3 ⟨rfl, hb⟩
    replace rA := rA.below hb
    replace rW := rW.below hb
    replace B1 := next B1 hb
    clear hb
    obtain ⟨rA0, rA1, _, _⟩ := id rA
    obtain ⟨rW0, rW1, _, _⟩ := id rW
    have lA0 := rA.lt
    have lW0 := rW.lt
    go_wp2_with fail
    clear rA0 rA1 rW0 rW1
    clear lA0 lW0
    have rH := At.new w3 F c 25
    have lrA := rA.lt
    have lrW := rW.lt
    replace rA := rA.alloc (.cells #[.int .i64 F, .int .i64 c] 25)
    replace rW := rW.alloc (.cells #[.int .i64 F, .int .i64 c] 25)
    replace B1 := B1.alloc B1.size (.cells #[.int .i64 F, .int .i64 c] 25)
    generalize w3.alloc (.cells #[.int .i64 F, .int .i64 c] 25) = W3 at *
    generalize w3.heap.size = D2 at *
    have HMr := Lib.hid (many_ok ho)
    have HMh := Lib.hid (many_ok hk)
    obtain ⟨s1, s2⟩ := sz_bd c0 c8
    obtain ⟨s3, s4⟩ := sz_bd b0 b8
    have hw2 : IntKind.i64.wrap (2 * sz c) = 2 * sz c := IntWalk.i64_in _ (by omega)
    have he2 : (2 * sz c == sz b) = true := by rw [HSZ.out]; simp
    clear lrA lrW
    cases hq : halfB F c
    · have HQ := Lib.hid hq
      clear hq
      have HP := Lib.hid (halfV_no false HQ.out)
      have HR := Lib.hid (halfV_no true HQ.out)
      obtain ⟨rW0, rW1, _, _⟩ := id rW
      obtain ⟨rH0, rH1, _, _⟩ := id rH
      go_wp2_with fail
      clear rW0 rW1 rH0 rH1
      refine (rhalf_is HP.out _).mono ?_
      rintro e w4 ⟨rfl, hb⟩
      replace rA := rA.below hb
      replace rW := rW.below hb
      replace rH := rH.below hb
      replace B1 := next B1 hb
      clear hb
      obtain ⟨rH0, rH1, _, _⟩ := id rH
      have lH0 := rH.lt
      go_wp2_with fail
      clear rH0 rH1
      clear lH0
      have rP := At.new w4 0 0 25
      have lrA := rA.lt
      have lrW := rW.lt
      have lrH := rH.lt
      replace rA := rA.alloc (.cells #[.int .i64 0, .int .i64 0] 25)
      replace rW := rW.alloc (.cells #[.int .i64 0, .int .i64 0] 25)
      replace rH := rH.alloc (.cells #[.int .i64 0, .int .i64 0] 25)
      replace B1 := B1.alloc B1.size (.cells #[.int .i64 0, .int .i64 0] 25)
      generalize w4.alloc (.cells #[.int .i64 0, .int .i64 0] 25) = W4 at *
      generalize w4.heap.size = D3 at *
      refine (rhalf_is HR.out _).mono ?_
      rintro e w5 ⟨rfl, hb⟩
      replace rA := rA.below hb
      replace rW := rW.below hb
      replace rH := rH.below hb
      replace rP := rP.below hb
      replace B1 := next B1 hb
      clear hb
      go_wp2_with fail
      clear lrA lrW lrH
      have rQ := At.new w5 0 0 25
      have lrA := rA.lt
      have lrW := rW.lt
      have lrH := rH.lt
      have lrP := rP.lt
      replace rA := rA.alloc (.cells #[.int .i64 0, .int .i64 0] 25)
      replace rW := rW.alloc (.cells #[.int .i64 0, .int .i64 0] 25)
      replace rH := rH.alloc (.cells #[.int .i64 0, .int .i64 0] 25)
      replace rP := rP.alloc (.cells #[.int .i64 0, .int .i64 0] 25)
      replace B1 := B1.alloc B1.size (.cells #[.int .i64 0, .int .i64 0] 25)
      generalize w5.alloc (.cells #[.int .i64 0, .int .i64 0] 25) = W5 at *
      generalize w5.heap.size = D4 at *
      have HI := Lib.hid (show (fun w' => w'.cell? ⟨A, 0, none⟩ = some (.int .i64 f) ∧ w'.cell? ⟨A, 1, none⟩ = some (.int .i64 b) ∧ w'.cell? ⟨D2, 0, none⟩ = some (.int .i64 F) ∧ w'.cell? ⟨D2, 1, none⟩ = some (.int .i64 c) ∧ w'.cell? ⟨D3, 0, none⟩ = some (.int .i64 0) ∧ w'.cell? ⟨D3, 1, none⟩ = some (.int .i64 0) ∧ w'.cell? ⟨D4, 0, none⟩ = some (.int .i64 0) ∧ w'.cell? ⟨D4, 1, none⟩ = some (.int .i64 0) ∧ Below w.heap.size w w') W5.drew from ⟨rA.1, rA.2.1, rH.1, rH.2.1, rP.1, rP.2.1, rQ.1, rQ.2.1, B1.drew⟩)
      clear rA rW rH rP rQ B1
      refine wp_region_held_drew (S := fun w' => w'.cell? ⟨A, 0, none⟩ = some (.int .i64 f) ∧ w'.cell? ⟨A, 1, none⟩ = some (.int .i64 b) ∧ w'.cell? ⟨D2, 0, none⟩ = some (.int .i64 F) ∧ w'.cell? ⟨D2, 1, none⟩ = some (.int .i64 c) ∧ w'.cell? ⟨D3, 0, none⟩ = some (.int .i64 0) ∧ w'.cell? ⟨D3, 1, none⟩ = some (.int .i64 0) ∧ w'.cell? ⟨D4, 0, none⟩ = some (.int .i64 0) ∧ w'.cell? ⟨D4, 1, none⟩ = some (.int .i64 0) ∧ Below w.heap.size w w') (by kernel_rfl) ?_ (fun hHeld => ?_)
      · exact HI.out
      refine takeH (i := 0) (v := ?_) rfl rfl (by kernel_rfl) (by kernel_rfl) (by kernel_rfl) (fun _ _ _ h => h) (by rfl) ?_ (by assumption) ?_
      rotate_left 1
      · intro w hSw
        (try dsimp only at hSw)
        go_simp
        try with_reducible rfl
      try simp only [List.setIfInBounds_toArray, List.set_cons_zero, List.set_cons_succ]
      refine takeH (i := 1) (v := ?_) rfl rfl (by kernel_rfl) (by kernel_rfl) (by kernel_rfl) (fun _ _ _ h => h) (by rfl) ?_ (by assumption) ?_
      rotate_left 1
      · intro w hSw
        (try dsimp only at hSw)
        go_simp
        try with_reducible rfl
      try simp only [List.setIfInBounds_toArray, List.set_cons_zero, List.set_cons_succ]
      refine takeH (i := 2) (v := ?_) rfl rfl (by kernel_rfl) (by kernel_rfl) (by kernel_rfl) (fun _ _ _ h => h) (by rfl) ?_ (by assumption) ?_
      rotate_left 1
      · intro w hSw
        (try dsimp only at hSw)
        go_simp
        try with_reducible rfl
      try simp only [List.setIfInBounds_toArray, List.set_cons_zero, List.set_cons_succ]
      refine takeH (i := 3) (v := ?_) rfl rfl (by kernel_rfl) (by kernel_rfl) (by kernel_rfl) (fun _ _ _ h => h) (by rfl) ?_ (by assumption) ?_
      rotate_left 1
      · intro w hSw
        (try dsimp only at hSw)
        go_simp
        try with_reducible rfl
      try simp only [List.setIfInBounds_toArray, List.set_cons_zero, List.set_cons_succ]
      refine takeH (i := 4) (v := ?_) rfl rfl (by kernel_rfl) (by kernel_rfl) (by kernel_rfl) (fun _ _ _ h => h) (by rfl) ?_ (by assumption) ?_
      rotate_left 1
      · intro w hSw
        (try dsimp only at hSw)
        go_simp
        try with_reducible rfl
      try simp only [List.setIfInBounds_toArray, List.set_cons_zero, List.set_cons_succ]
      refine takeH (i := 5) (v := ?_) rfl rfl (by kernel_rfl) (by kernel_rfl) (by kernel_rfl) (fun _ _ _ h => h) (by rfl) ?_ (by assumption) ?_
      rotate_left 1
      · intro w hSw
        (try dsimp only at hSw)
        go_simp
        try with_reducible rfl
      try simp only [List.setIfInBounds_toArray, List.set_cons_zero, List.set_cons_succ]
      refine takeH (i := 6) (v := ?_) rfl rfl (by kernel_rfl) (by kernel_rfl) (by kernel_rfl) (fun _ _ _ h => h) (by rfl) ?_ (by assumption) ?_
      rotate_left 1
      · intro w hSw
        (try dsimp only at hSw)
        go_simp
        try with_reducible rfl
      try simp only [List.setIfInBounds_toArray, List.set_cons_zero, List.set_cons_succ]
      refine skipH (i := 7) rfl rfl (by kernel_rfl) (by kernel_rfl) (by kernel_rfl) (fun _ _ _ h => h) (by rfl) (by assumption) ?_
      try simp only [List.setIfInBounds_toArray, List.set_cons_zero, List.set_cons_succ]
      refine skipH (i := 8) rfl rfl (by kernel_rfl) (by kernel_rfl) (by kernel_rfl) (fun _ _ _ h => h) (by rfl) (by assumption) ?_
      try simp only [List.setIfInBounds_toArray, List.set_cons_zero, List.set_cons_succ]
      refine skipH (i := 9) rfl rfl (by kernel_rfl) (by kernel_rfl) (by kernel_rfl) (fun _ _ _ h => h) (by rfl) (by assumption) ?_
      try simp only [List.setIfInBounds_toArray, List.set_cons_zero, List.set_cons_succ]
      refine skipH (i := 10) rfl rfl (by kernel_rfl) (by kernel_rfl) (by kernel_rfl) (fun _ _ _ h => h) (by rfl) (by assumption) ?_
      try simp only [List.setIfInBounds_toArray, List.set_cons_zero, List.set_cons_succ]
      refine skipH (i := 11) rfl rfl (by kernel_rfl) (by kernel_rfl) (by kernel_rfl) (fun _ _ _ h => h) (by rfl) (by assumption) ?_
      try simp only [List.setIfInBounds_toArray, List.set_cons_zero, List.set_cons_succ]
      refine skipH (i := 12) rfl rfl (by kernel_rfl) (by kernel_rfl) (by kernel_rfl) (fun _ _ _ h => h) (by rfl) (by assumption) ?_
      try simp only [List.setIfInBounds_toArray, List.set_cons_zero, List.set_cons_succ]
      refine skipH (i := 13) rfl rfl (by kernel_rfl) (by kernel_rfl) (by kernel_rfl) (fun _ _ _ h => h) (by rfl) (by assumption) ?_
      try simp only [List.setIfInBounds_toArray, List.set_cons_zero, List.set_cons_succ]
      refine skipH (i := 14) rfl rfl (by kernel_rfl) (by kernel_rfl) (by kernel_rfl) (fun _ _ _ h => h) (by rfl) (by assumption) ?_
      try simp only [List.setIfInBounds_toArray, List.set_cons_zero, List.set_cons_succ]
      refine skipH (i := 15) rfl rfl (by kernel_rfl) (by kernel_rfl) (by kernel_rfl) (fun _ _ _ h => h) (by rfl) (by assumption) ?_
      try simp only [List.setIfInBounds_toArray, List.set_cons_zero, List.set_cons_succ]
      refine skipH (i := 16) rfl rfl (by kernel_rfl) (by kernel_rfl) (by kernel_rfl) (fun _ _ _ h => h) (by rfl) (by assumption) ?_
      try simp only [List.setIfInBounds_toArray, List.set_cons_zero, List.set_cons_succ]
      refine skipH (i := 17) rfl rfl (by kernel_rfl) (by kernel_rfl) (by kernel_rfl) (fun _ _ _ h => h) (by rfl) (by assumption) ?_
      try simp only [List.setIfInBounds_toArray, List.set_cons_zero, List.set_cons_succ]
      refine skipH (i := 18) rfl rfl (by kernel_rfl) (by kernel_rfl) (by kernel_rfl) (fun _ _ _ h => h) (by rfl) (by assumption) ?_
      try simp only [List.setIfInBounds_toArray, List.set_cons_zero, List.set_cons_succ]
      refine skipH (i := 19) rfl rfl (by kernel_rfl) (by kernel_rfl) (by kernel_rfl) (fun _ _ _ h => h) (by rfl) (by assumption) ?_
      try simp only [List.setIfInBounds_toArray, List.set_cons_zero, List.set_cons_succ]
      refine skipH (i := 20) rfl rfl (by kernel_rfl) (by kernel_rfl) (by kernel_rfl) (fun _ _ _ h => h) (by rfl) (by assumption) ?_
      try simp only [List.setIfInBounds_toArray, List.set_cons_zero, List.set_cons_succ]
      refine skipH (i := 21) rfl rfl (by kernel_rfl) (by kernel_rfl) (by kernel_rfl) (fun _ _ _ h => h) (by rfl) (by assumption) ?_
      try simp only [List.setIfInBounds_toArray, List.set_cons_zero, List.set_cons_succ]
      refine skipH (i := 22) rfl rfl (by kernel_rfl) (by kernel_rfl) (by kernel_rfl) (fun _ _ _ h => h) (by rfl) (by assumption) ?_
      try simp only [List.setIfInBounds_toArray, List.set_cons_zero, List.set_cons_succ]
      refine skipH (i := 23) rfl rfl (by kernel_rfl) (by kernel_rfl) (by kernel_rfl) (fun _ _ _ h => h) (by rfl) (by assumption) ?_
      try simp only [List.setIfInBounds_toArray, List.set_cons_zero, List.set_cons_succ]
      refine skipH (i := 24) rfl rfl (by kernel_rfl) (by kernel_rfl) (by kernel_rfl) (fun _ _ _ h => h) (by rfl) (by assumption) ?_
      try simp only [List.setIfInBounds_toArray, List.set_cons_zero, List.set_cons_succ]
      refine skipH (i := 25) rfl rfl (by kernel_rfl) (by kernel_rfl) (by kernel_rfl) (fun _ _ _ h => h) (by rfl) (by assumption) ?_
      try simp only [List.setIfInBounds_toArray, List.set_cons_zero, List.set_cons_succ]
      refine skipH (i := 26) rfl rfl (by kernel_rfl) (by kernel_rfl) (by kernel_rfl) (fun _ _ _ h => h) (by rfl) (by assumption) ?_
      try simp only [List.setIfInBounds_toArray, List.set_cons_zero, List.set_cons_succ]
      refine skipH (i := 27) rfl rfl (by kernel_rfl) (by kernel_rfl) (by kernel_rfl) (fun _ _ _ h => h) (by rfl) (by assumption) ?_
      try simp only [List.setIfInBounds_toArray, List.set_cons_zero, List.set_cons_succ]
      refine skipH (i := 28) rfl rfl (by kernel_rfl) (by kernel_rfl) (by kernel_rfl) (fun _ _ _ h => h) (by rfl) (by assumption) ?_
      try simp only [List.setIfInBounds_toArray, List.set_cons_zero, List.set_cons_succ]
      refine skipH (i := 29) rfl rfl (by kernel_rfl) (by kernel_rfl) (by kernel_rfl) (fun _ _ _ h => h) (by rfl) (by assumption) ?_
      try simp only [List.setIfInBounds_toArray, List.set_cons_zero, List.set_cons_succ]
      refine skipH (i := 30) rfl rfl (by kernel_rfl) (by kernel_rfl) (by kernel_rfl) (fun _ _ _ h => h) (by rfl) (by assumption) ?_
      try simp only [List.setIfInBounds_toArray, List.set_cons_zero, List.set_cons_succ]
      refine takeH (i := 31) (v := ?_) rfl rfl (by kernel_rfl) (by kernel_rfl) (by kernel_rfl) (fun _ _ _ h => h) (by rfl) ?_ (by assumption) ?_
      rotate_left 1
      · intro w hSw
        (try dsimp only at hSw)
        go_simp
        try with_reducible rfl
      try simp only [List.setIfInBounds_toArray, List.set_cons_zero, List.set_cons_succ]
      refine takeH (i := 32) (v := ?_) rfl rfl (by kernel_rfl) (by kernel_rfl) (by kernel_rfl) (fun _ _ _ h => h) (by rfl) ?_ (by assumption) ?_
      rotate_left 1
      · intro w hSw
        (try dsimp only at hSw)
        go_simp
        try with_reducible rfl
      try simp only [List.setIfInBounds_toArray, List.set_cons_zero, List.set_cons_succ]
      refine takeH (i := 33) (v := ?_) rfl rfl (by kernel_rfl) (by kernel_rfl) (by kernel_rfl) (fun _ _ _ h => h) (by rfl) ?_ (by assumption) ?_
      rotate_left 1
      · intro w hSw
        (try dsimp only at hSw)
        go_simp
        try with_reducible rfl
      try simp only [List.setIfInBounds_toArray, List.set_cons_zero, List.set_cons_succ]
      refine takeH (i := 34) (v := ?_) rfl rfl (by kernel_rfl) (by kernel_rfl) (by kernel_rfl) (fun _ _ _ h => h) (by rfl) ?_ (by assumption) ?_
      rotate_left 1
      · intro w hSw
        (try dsimp only at hSw)
        go_simp
        try with_reducible rfl
      try simp only [List.setIfInBounds_toArray, List.set_cons_zero, List.set_cons_succ]
      refine takeH (i := 37) (v := ?_) rfl rfl (by kernel_rfl) (by kernel_rfl) (by kernel_rfl) (fun _ _ _ h => h) (by rfl) ?_ (by assumption) ?_
      rotate_left 1
      · intro w hSw
        (try dsimp only at hSw)
        go_simp
        try with_reducible rfl
      try simp only [List.setIfInBounds_toArray, List.set_cons_zero, List.set_cons_succ]
      refine wpAnyH_ready (rs := [35]) (by kernel_rfl) (by simp) ?_
      refine AllReadyH.cons rfl (fun K hK => ?_) (AllReadyH.nil)
      go_simp
      refine (rmany_is HMh.out _).mono ?_
      rintro e x35 ⟨rfl, hx35⟩
      go_wp2_with fail
      refine hK.out _ _ ?_ (fun hNew => ?_)
      · exact ⟨cell_later hx35 hHeld.1, cell_later hx35 hHeld.2.1, cell_later hx35 hHeld.2.2.1, cell_later hx35 hHeld.2.2.2.1, cell_later hx35 hHeld.2.2.2.2.1, cell_later hx35 hHeld.2.2.2.2.2.1, cell_later hx35 hHeld.2.2.2.2.2.2.1, cell_later hx35 hHeld.2.2.2.2.2.2.2.1, next hHeld.2.2.2.2.2.2.2.2 hx35⟩
      clear hK K hHeld
      have hHeld := hNew
      clear hNew
      try simp only [Act.put, List.setIfInBounds_toArray, List.set_cons_zero, List.set_cons_succ]
      refine takeH (i := 36) (v := ?_) rfl rfl (by kernel_rfl) (by kernel_rfl) (by kernel_rfl) (fun _ _ _ h => h) (by rfl) ?_ (by assumption) ?_
      rotate_left 1
      · intro w hSw
        (try dsimp only at hSw)
        go_simp
        try with_reducible rfl
      try simp only [List.setIfInBounds_toArray, List.set_cons_zero, List.set_cons_succ]
      refine wpAnyH_ready (rs := [38]) (by kernel_rfl) (by simp) ?_
      refine AllReadyH.cons rfl (fun K hK => ?_) (AllReadyH.nil)
      go_simp
      refine (rmany_is HMr.out _).mono ?_
      rintro e x38 ⟨rfl, hx38⟩
      go_wp2_with fail
      refine hK.out _ _ ?_ (fun hNew => ?_)
      · exact ⟨cell_later hx38 hHeld.1, cell_later hx38 hHeld.2.1, cell_later hx38 hHeld.2.2.1, cell_later hx38 hHeld.2.2.2.1, cell_later hx38 hHeld.2.2.2.2.1, cell_later hx38 hHeld.2.2.2.2.2.1, cell_later hx38 hHeld.2.2.2.2.2.2.1, cell_later hx38 hHeld.2.2.2.2.2.2.2.1, next hHeld.2.2.2.2.2.2.2.2 hx38⟩
      clear hK K hHeld
      have hHeld := hNew
      clear hNew
      try simp only [Act.put, List.setIfInBounds_toArray, List.set_cons_zero, List.set_cons_succ]
      refine takeH (i := 39) (v := ?_) rfl rfl (by kernel_rfl) (by kernel_rfl) (by kernel_rfl) (fun _ _ _ h => h) (by rfl) ?_ (by assumption) ?_
      rotate_left 1
      · intro w hSw
        (try dsimp only at hSw)
        go_simp
        try with_reducible rfl
      try simp only [List.setIfInBounds_toArray, List.set_cons_zero, List.set_cons_succ]
      refine takeH (i := 40) (v := ?_) rfl rfl (by kernel_rfl) (by kernel_rfl) (by kernel_rfl) (fun _ _ _ h => h) (by rfl) ?_ (by assumption) ?_
      rotate_left 1
      · intro w hSw
        (try dsimp only at hSw)
        go_simp
        try with_reducible rfl
      try simp only [List.setIfInBounds_toArray, List.set_cons_zero, List.set_cons_succ]
      refine takeH (i := 41) (v := ?_) rfl rfl (by kernel_rfl) (by kernel_rfl) (by kernel_rfl) (fun _ _ _ h => h) (by rfl) ?_ (by assumption) ?_
      rotate_left 1
      · intro w hSw
        (try dsimp only at hSw)
        go_simp
        try with_reducible rfl
      try simp only [List.setIfInBounds_toArray, List.set_cons_zero, List.set_cons_succ]
      refine wpAnyH_done (by kernel_rfl) ?_ _
      go_wp2
      go_ret
      exact ⟨rfl, hHeld.2.2.2.2.2.2.2.2⟩
    · have HQ := Lib.hid hq
      clear hq
      have HP := Lib.hid (halfV_yes false HQ.out)
      have HR := Lib.hid (halfV_yes true HQ.out)
      have HMa := Lib.hid (many_ok (half_ok false HQ.out))
      have HMb := Lib.hid (many_ok (half_ok true HQ.out))
      have HIa := Lib.hid (in_trans (half_in false HQ.out) hin)
      have HIb := Lib.hid (half_apart HQ.out)
      have hc7 : c < 8 := ((halfB_iff F c).1 HQ.out).2
      have HSY := Lib.hid (sz_half c0 hc7)
      obtain ⟨P, hP⟩ : ∃ P, halfF F c false = P := ⟨_, rfl⟩
      obtain ⟨Q, hQ⟩ : ∃ Q, halfF F c true = Q := ⟨_, rfl⟩
      obtain ⟨d, hd⟩ : ∃ d, c + 1 = d := ⟨_, rfl⟩
      rw [hP, hd] at HP HMa HIa HIb
      rw [hQ, hd] at HR HMb
      rw [hQ] at HIb
      rw [hd] at HSY
      have d0 : 0 ≤ d := by omega
      have d8 : d ≤ 8 := by omega
      clear hP hQ hd
      obtain ⟨s5, s6⟩ := sz_bd d0 d8
      have hw4 : IntKind.i64.wrap (4 * sz d) = 4 * sz d := IntWalk.i64_in _ (by omega)
      have he4 : (4 * sz d == sz b) = true := by rw [HSZ.out, HSY.out]; simp; omega
      have he5 : (sz d == sz d) = true := by simp
      obtain ⟨rW0, rW1, _, _⟩ := id rW
      obtain ⟨rH0, rH1, _, _⟩ := id rH
      go_wp2_with fail
      clear rW0 rW1 rH0 rH1
      refine (rhalf_is HP.out _).mono ?_
      rintro e w4 ⟨rfl, hb⟩
      replace rA := rA.below hb
      replace rW := rW.below hb
      replace rH := rH.below hb
      replace B1 := next B1 hb
      clear hb
      obtain ⟨rH0, rH1, _, _⟩ := id rH
      have lH0 := rH.lt
      go_wp2_with fail
      clear rH0 rH1
      clear lH0
      have rP := At.new w4 P d 25
      have lrA := rA.lt
      have lrW := rW.lt
      have lrH := rH.lt
      replace rA := rA.alloc (.cells #[.int .i64 P, .int .i64 d] 25)
      replace rW := rW.alloc (.cells #[.int .i64 P, .int .i64 d] 25)
      replace rH := rH.alloc (.cells #[.int .i64 P, .int .i64 d] 25)
      replace B1 := B1.alloc B1.size (.cells #[.int .i64 P, .int .i64 d] 25)
      generalize w4.alloc (.cells #[.int .i64 P, .int .i64 d] 25) = W4 at *
      generalize w4.heap.size = D3 at *
      refine (rhalf_is HR.out _).mono ?_
      rintro e w5 ⟨rfl, hb⟩
      replace rA := rA.below hb
      replace rW := rW.below hb
      replace rH := rH.below hb
      replace rP := rP.below hb
      replace B1 := next B1 hb
      clear hb
      go_wp2_with fail
      clear lrA lrW lrH
      have rQ := At.new w5 Q d 25
      have lrA := rA.lt
      have lrW := rW.lt
      have lrH := rH.lt
      have lrP := rP.lt
      replace rA := rA.alloc (.cells #[.int .i64 Q, .int .i64 d] 25)
      replace rW := rW.alloc (.cells #[.int .i64 Q, .int .i64 d] 25)
      replace rH := rH.alloc (.cells #[.int .i64 Q, .int .i64 d] 25)
      replace rP := rP.alloc (.cells #[.int .i64 Q, .int .i64 d] 25)
      replace B1 := B1.alloc B1.size (.cells #[.int .i64 Q, .int .i64 d] 25)
      generalize w5.alloc (.cells #[.int .i64 Q, .int .i64 d] 25) = W5 at *
      generalize w5.heap.size = D4 at *
      have HI := Lib.hid (show (fun w' => w'.cell? ⟨A, 0, none⟩ = some (.int .i64 f) ∧ w'.cell? ⟨A, 1, none⟩ = some (.int .i64 b) ∧ w'.cell? ⟨D2, 0, none⟩ = some (.int .i64 F) ∧ w'.cell? ⟨D2, 1, none⟩ = some (.int .i64 c) ∧ w'.cell? ⟨D3, 0, none⟩ = some (.int .i64 P) ∧ w'.cell? ⟨D3, 1, none⟩ = some (.int .i64 d) ∧ w'.cell? ⟨D4, 0, none⟩ = some (.int .i64 Q) ∧ w'.cell? ⟨D4, 1, none⟩ = some (.int .i64 d) ∧ Below w.heap.size w w') W5.drew from ⟨rA.1, rA.2.1, rH.1, rH.2.1, rP.1, rP.2.1, rQ.1, rQ.2.1, B1.drew⟩)
      clear rA rW rH rP rQ B1
      refine wp_region_held_drew (S := fun w' => w'.cell? ⟨A, 0, none⟩ = some (.int .i64 f) ∧ w'.cell? ⟨A, 1, none⟩ = some (.int .i64 b) ∧ w'.cell? ⟨D2, 0, none⟩ = some (.int .i64 F) ∧ w'.cell? ⟨D2, 1, none⟩ = some (.int .i64 c) ∧ w'.cell? ⟨D3, 0, none⟩ = some (.int .i64 P) ∧ w'.cell? ⟨D3, 1, none⟩ = some (.int .i64 d) ∧ w'.cell? ⟨D4, 0, none⟩ = some (.int .i64 Q) ∧ w'.cell? ⟨D4, 1, none⟩ = some (.int .i64 d) ∧ Below w.heap.size w w') (by kernel_rfl) ?_ (fun hHeld => ?_)
      · exact HI.out
      refine takeH (i := 0) (v := ?_) rfl rfl (by kernel_rfl) (by kernel_rfl) (by kernel_rfl) (fun _ _ _ h => h) (by rfl) ?_ (by assumption) ?_
      rotate_left 1
      · intro w hSw
        (try dsimp only at hSw)
        go_simp
        try with_reducible rfl
      try simp only [List.setIfInBounds_toArray, List.set_cons_zero, List.set_cons_succ]
      refine takeH (i := 1) (v := ?_) rfl rfl (by kernel_rfl) (by kernel_rfl) (by kernel_rfl) (fun _ _ _ h => h) (by rfl) ?_ (by assumption) ?_
      rotate_left 1
      · intro w hSw
        (try dsimp only at hSw)
        go_simp
        try with_reducible rfl
      try simp only [List.setIfInBounds_toArray, List.set_cons_zero, List.set_cons_succ]
      refine takeH (i := 2) (v := ?_) rfl rfl (by kernel_rfl) (by kernel_rfl) (by kernel_rfl) (fun _ _ _ h => h) (by rfl) ?_ (by assumption) ?_
      rotate_left 1
      · intro w hSw
        (try dsimp only at hSw)
        go_simp
        try with_reducible rfl
      try simp only [List.setIfInBounds_toArray, List.set_cons_zero, List.set_cons_succ]
      refine takeH (i := 3) (v := ?_) rfl rfl (by kernel_rfl) (by kernel_rfl) (by kernel_rfl) (fun _ _ _ h => h) (by rfl) ?_ (by assumption) ?_
      rotate_left 1
      · intro w hSw
        (try dsimp only at hSw)
        go_simp
        try with_reducible rfl
      try simp only [List.setIfInBounds_toArray, List.set_cons_zero, List.set_cons_succ]
      refine takeH (i := 4) (v := ?_) rfl rfl (by kernel_rfl) (by kernel_rfl) (by kernel_rfl) (fun _ _ _ h => h) (by rfl) ?_ (by assumption) ?_
      rotate_left 1
      · intro w hSw
        (try dsimp only at hSw)
        go_simp
        try with_reducible rfl
      try simp only [List.setIfInBounds_toArray, List.set_cons_zero, List.set_cons_succ]
      refine takeH (i := 5) (v := ?_) rfl rfl (by kernel_rfl) (by kernel_rfl) (by kernel_rfl) (fun _ _ _ h => h) (by rfl) ?_ (by assumption) ?_
      rotate_left 1
      · intro w hSw
        (try dsimp only at hSw)
        go_simp
        try with_reducible rfl
      try simp only [List.setIfInBounds_toArray, List.set_cons_zero, List.set_cons_succ]
      refine takeH (i := 6) (v := ?_) rfl rfl (by kernel_rfl) (by kernel_rfl) (by kernel_rfl) (fun _ _ _ h => h) (by rfl) ?_ (by assumption) ?_
      rotate_left 1
      · intro w hSw
        (try dsimp only at hSw)
        go_simp
        try with_reducible rfl
      try simp only [List.setIfInBounds_toArray, List.set_cons_zero, List.set_cons_succ]
      refine takeH (i := 7) (v := ?_) rfl rfl (by kernel_rfl) (by kernel_rfl) (by kernel_rfl) (fun _ _ _ h => h) (by rfl) ?_ (by assumption) ?_
      rotate_left 1
      · intro w hSw
        (try dsimp only at hSw)
        go_simp
        try with_reducible rfl
      try simp only [List.setIfInBounds_toArray, List.set_cons_zero, List.set_cons_succ]
      refine takeH (i := 10) (v := ?_) rfl rfl (by kernel_rfl) (by kernel_rfl) (by kernel_rfl) (fun _ _ _ h => h) (by rfl) ?_ (by assumption) ?_
      rotate_left 1
      · intro w hSw
        (try dsimp only at hSw)
        go_simp
        try with_reducible rfl
      try simp only [List.setIfInBounds_toArray, List.set_cons_zero, List.set_cons_succ]
      refine wpAnyH_ready (rs := [8]) (by kernel_rfl) (by simp) ?_
      refine AllReadyH.cons rfl (fun K hK => ?_) (AllReadyH.nil)
      go_simp
      refine (rmany_is HMa.out _).mono ?_
      rintro e x8 ⟨rfl, hx8⟩
      go_wp2_with fail
      refine hK.out _ _ ?_ (fun hNew => ?_)
      · exact ⟨cell_later hx8 hHeld.1, cell_later hx8 hHeld.2.1, cell_later hx8 hHeld.2.2.1, cell_later hx8 hHeld.2.2.2.1, cell_later hx8 hHeld.2.2.2.2.1, cell_later hx8 hHeld.2.2.2.2.2.1, cell_later hx8 hHeld.2.2.2.2.2.2.1, cell_later hx8 hHeld.2.2.2.2.2.2.2.1, next hHeld.2.2.2.2.2.2.2.2 hx8⟩
      clear hK K hHeld
      have hHeld := hNew
      clear hNew
      try simp only [Act.put, List.setIfInBounds_toArray, List.set_cons_zero, List.set_cons_succ]
      refine takeH (i := 9) (v := ?_) rfl rfl (by kernel_rfl) (by kernel_rfl) (by kernel_rfl) (fun _ _ _ h => h) (by rfl) ?_ (by assumption) ?_
      rotate_left 1
      · intro w hSw
        (try dsimp only at hSw)
        go_simp
        try with_reducible rfl
      try simp only [List.setIfInBounds_toArray, List.set_cons_zero, List.set_cons_succ]
      refine wpAnyH_ready (rs := [11]) (by kernel_rfl) (by simp) ?_
      refine AllReadyH.cons rfl (fun K hK => ?_) (AllReadyH.nil)
      go_simp
      refine (rmany_is HMr.out _).mono ?_
      rintro e x11 ⟨rfl, hx11⟩
      go_wp2_with fail
      refine hK.out _ _ ?_ (fun hNew => ?_)
      · exact ⟨cell_later hx11 hHeld.1, cell_later hx11 hHeld.2.1, cell_later hx11 hHeld.2.2.1, cell_later hx11 hHeld.2.2.2.1, cell_later hx11 hHeld.2.2.2.2.1, cell_later hx11 hHeld.2.2.2.2.2.1, cell_later hx11 hHeld.2.2.2.2.2.2.1, cell_later hx11 hHeld.2.2.2.2.2.2.2.1, next hHeld.2.2.2.2.2.2.2.2 hx11⟩
      clear hK K hHeld
      have hHeld := hNew
      clear hNew
      try simp only [Act.put, List.setIfInBounds_toArray, List.set_cons_zero, List.set_cons_succ]
      refine takeH (i := 12) (v := ?_) rfl rfl (by kernel_rfl) (by kernel_rfl) (by kernel_rfl) (fun _ _ _ h => h) (by rfl) ?_ (by assumption) ?_
      rotate_left 1
      · intro w hSw
        (try dsimp only at hSw)
        go_simp
        try with_reducible rfl
      try simp only [List.setIfInBounds_toArray, List.set_cons_zero, List.set_cons_succ]
      refine takeH (i := 13) (v := ?_) rfl rfl (by kernel_rfl) (by kernel_rfl) (by kernel_rfl) (fun _ _ _ h => h) (by rfl) ?_ (by assumption) ?_
      rotate_left 1
      · intro w hSw
        (try dsimp only at hSw)
        go_simp
        try with_reducible rfl
      try simp only [List.setIfInBounds_toArray, List.set_cons_zero, List.set_cons_succ]
      refine takeH (i := 14) (v := ?_) rfl rfl (by kernel_rfl) (by kernel_rfl) (by kernel_rfl) (fun _ _ _ h => h) (by rfl) ?_ (by assumption) ?_
      rotate_left 1
      · intro w hSw
        (try dsimp only at hSw)
        go_simp
        try with_reducible rfl
      try simp only [List.setIfInBounds_toArray, List.set_cons_zero, List.set_cons_succ]
      refine takeH (i := 16) (v := ?_) rfl rfl (by kernel_rfl) (by kernel_rfl) (by kernel_rfl) (fun _ _ _ h => h) (by rfl) ?_ (by assumption) ?_
      rotate_left 1
      · intro w hSw
        (try dsimp only at hSw)
        go_simp
        try with_reducible rfl
      try simp only [List.setIfInBounds_toArray, List.set_cons_zero, List.set_cons_succ]
      refine wpAnyH_ready (rs := [15]) (by kernel_rfl) (by simp) ?_
      refine AllReadyH.cons rfl (fun K hK => ?_) (AllReadyH.nil)
      go_simp
      refine (rmany_is HMa.out _).mono ?_
      rintro e x15 ⟨rfl, hx15⟩
      go_wp2_with fail
      refine hK.out _ _ ?_ (fun hNew => ?_)
      · exact ⟨cell_later hx15 hHeld.1, cell_later hx15 hHeld.2.1, cell_later hx15 hHeld.2.2.1, cell_later hx15 hHeld.2.2.2.1, cell_later hx15 hHeld.2.2.2.2.1, cell_later hx15 hHeld.2.2.2.2.2.1, cell_later hx15 hHeld.2.2.2.2.2.2.1, cell_later hx15 hHeld.2.2.2.2.2.2.2.1, next hHeld.2.2.2.2.2.2.2.2 hx15⟩
      clear hK K hHeld
      have hHeld := hNew
      clear hNew
      try simp only [Act.put, List.setIfInBounds_toArray, List.set_cons_zero, List.set_cons_succ]
      refine wpAnyH_ready (rs := [17]) (by kernel_rfl) (by simp) ?_
      refine AllReadyH.cons rfl (fun K hK => ?_) (AllReadyH.nil)
      go_simp
      refine (rmany_is HMb.out _).mono ?_
      rintro e x17 ⟨rfl, hx17⟩
      go_wp2_with fail
      refine hK.out _ _ ?_ (fun hNew => ?_)
      · exact ⟨cell_later hx17 hHeld.1, cell_later hx17 hHeld.2.1, cell_later hx17 hHeld.2.2.1, cell_later hx17 hHeld.2.2.2.1, cell_later hx17 hHeld.2.2.2.2.1, cell_later hx17 hHeld.2.2.2.2.2.1, cell_later hx17 hHeld.2.2.2.2.2.2.1, cell_later hx17 hHeld.2.2.2.2.2.2.2.1, next hHeld.2.2.2.2.2.2.2.2 hx17⟩
      clear hK K hHeld
      have hHeld := hNew
      clear hNew
      try simp only [Act.put, List.setIfInBounds_toArray, List.set_cons_zero, List.set_cons_succ]
      refine takeH (i := 18) (v := ?_) rfl rfl (by kernel_rfl) (by kernel_rfl) (by kernel_rfl) (fun _ _ _ h => h) (by rfl) ?_ (by assumption) ?_
      rotate_left 1
      · intro w hSw
        (try dsimp only at hSw)
        go_simp
        try with_reducible rfl
      try simp only [List.setIfInBounds_toArray, List.set_cons_zero, List.set_cons_succ]
      refine takeH (i := 19) (v := ?_) rfl rfl (by kernel_rfl) (by kernel_rfl) (by kernel_rfl) (fun _ _ _ h => h) (by rfl) ?_ (by assumption) ?_
      rotate_left 1
      · intro w hSw
        (try dsimp only at hSw)
        go_simp
        try with_reducible rfl
      try simp only [List.setIfInBounds_toArray, List.set_cons_zero, List.set_cons_succ]
      refine takeH (i := 20) (v := ?_) rfl rfl (by kernel_rfl) (by kernel_rfl) (by kernel_rfl) (fun _ _ _ h => h) (by rfl) ?_ (by assumption) ?_
      rotate_left 1
      · intro w hSw
        (try dsimp only at hSw)
        go_simp
        try with_reducible rfl
      try simp only [List.setIfInBounds_toArray, List.set_cons_zero, List.set_cons_succ]
      refine takeH (i := 21) (v := ?_) rfl rfl (by kernel_rfl) (by kernel_rfl) (by kernel_rfl) (fun _ _ _ h => h) (by rfl) ?_ (by assumption) ?_
      rotate_left 1
      · intro w hSw
        (try dsimp only at hSw)
        go_simp
        try with_reducible rfl
      try simp only [List.setIfInBounds_toArray, List.set_cons_zero, List.set_cons_succ]
      refine takeH (i := 22) (v := ?_) rfl rfl (by kernel_rfl) (by kernel_rfl) (by kernel_rfl) (fun _ _ _ h => h) (by rfl) ?_ (by assumption) ?_
      rotate_left 1
      · intro w hSw
        (try dsimp only at hSw)
        go_simp
        try with_reducible rfl
      try simp only [List.setIfInBounds_toArray, List.set_cons_zero, List.set_cons_succ]
      refine wpAnyH_ready (rs := [23]) (by kernel_rfl) (by simp) ?_
      refine AllReadyH.cons rfl (fun K hK => ?_) (AllReadyH.nil)
      go_simp
      refine (rin_is HIa.out _).mono ?_
      rintro e x23 ⟨rfl, hx23⟩
      go_wp2_with fail
      refine hK.out _ _ ?_ (fun hNew => ?_)
      · exact ⟨cell_later hx23 hHeld.1, cell_later hx23 hHeld.2.1, cell_later hx23 hHeld.2.2.1, cell_later hx23 hHeld.2.2.2.1, cell_later hx23 hHeld.2.2.2.2.1, cell_later hx23 hHeld.2.2.2.2.2.1, cell_later hx23 hHeld.2.2.2.2.2.2.1, cell_later hx23 hHeld.2.2.2.2.2.2.2.1, next hHeld.2.2.2.2.2.2.2.2 hx23⟩
      clear hK K hHeld
      have hHeld := hNew
      clear hNew
      try simp only [Act.put, List.setIfInBounds_toArray, List.set_cons_zero, List.set_cons_succ]
      refine takeH (i := 24) (v := ?_) rfl rfl (by kernel_rfl) (by kernel_rfl) (by kernel_rfl) (fun _ _ _ h => h) (by rfl) ?_ (by assumption) ?_
      rotate_left 1
      · intro w hSw
        (try dsimp only at hSw)
        go_simp
        try with_reducible rfl
      try simp only [List.setIfInBounds_toArray, List.set_cons_zero, List.set_cons_succ]
      refine takeH (i := 25) (v := ?_) rfl rfl (by kernel_rfl) (by kernel_rfl) (by kernel_rfl) (fun _ _ _ h => h) (by rfl) ?_ (by assumption) ?_
      rotate_left 1
      · intro w hSw
        (try dsimp only at hSw)
        go_simp
        try with_reducible rfl
      try simp only [List.setIfInBounds_toArray, List.set_cons_zero, List.set_cons_succ]
      refine takeH (i := 26) (v := ?_) rfl rfl (by kernel_rfl) (by kernel_rfl) (by kernel_rfl) (fun _ _ _ h => h) (by rfl) ?_ (by assumption) ?_
      rotate_left 1
      · intro w hSw
        (try dsimp only at hSw)
        go_simp
        try with_reducible rfl
      try simp only [List.setIfInBounds_toArray, List.set_cons_zero, List.set_cons_succ]
      refine takeH (i := 27) (v := ?_) rfl rfl (by kernel_rfl) (by kernel_rfl) (by kernel_rfl) (fun _ _ _ h => h) (by rfl) ?_ (by assumption) ?_
      rotate_left 1
      · intro w hSw
        (try dsimp only at hSw)
        go_simp
        try with_reducible rfl
      try simp only [List.setIfInBounds_toArray, List.set_cons_zero, List.set_cons_succ]
      refine wpAnyH_ready (rs := [28]) (by kernel_rfl) (by simp) ?_
      refine AllReadyH.cons rfl (fun K hK => ?_) (AllReadyH.nil)
      go_simp
      refine (rin_is HIb.out _).mono ?_
      rintro e x28 ⟨rfl, hx28⟩
      go_wp2_with fail
      refine hK.out _ _ ?_ (fun hNew => ?_)
      · exact ⟨cell_later hx28 hHeld.1, cell_later hx28 hHeld.2.1, cell_later hx28 hHeld.2.2.1, cell_later hx28 hHeld.2.2.2.1, cell_later hx28 hHeld.2.2.2.2.1, cell_later hx28 hHeld.2.2.2.2.2.1, cell_later hx28 hHeld.2.2.2.2.2.2.1, cell_later hx28 hHeld.2.2.2.2.2.2.2.1, next hHeld.2.2.2.2.2.2.2.2 hx28⟩
      clear hK K hHeld
      have hHeld := hNew
      clear hNew
      try simp only [Act.put, List.setIfInBounds_toArray, List.set_cons_zero, List.set_cons_succ]
      refine takeH (i := 29) (v := ?_) rfl rfl (by kernel_rfl) (by kernel_rfl) (by kernel_rfl) (fun _ _ _ h => h) (by rfl) ?_ (by assumption) ?_
      rotate_left 1
      · intro w hSw
        (try dsimp only at hSw)
        go_simp
        try with_reducible rfl
      try simp only [List.setIfInBounds_toArray, List.set_cons_zero, List.set_cons_succ]
      refine takeH (i := 30) (v := ?_) rfl rfl (by kernel_rfl) (by kernel_rfl) (by kernel_rfl) (fun _ _ _ h => h) (by rfl) ?_ (by assumption) ?_
      rotate_left 1
      · intro w hSw
        (try dsimp only at hSw)
        go_simp
        try with_reducible rfl
      try simp only [List.setIfInBounds_toArray, List.set_cons_zero, List.set_cons_succ]
      refine takeH (i := 31) (v := ?_) rfl rfl (by kernel_rfl) (by kernel_rfl) (by kernel_rfl) (fun _ _ _ h => h) (by rfl) ?_ (by assumption) ?_
      rotate_left 1
      · intro w hSw
        (try dsimp only at hSw)
        go_simp
        try with_reducible rfl
      try simp only [List.setIfInBounds_toArray, List.set_cons_zero, List.set_cons_succ]
      refine takeH (i := 32) (v := ?_) rfl rfl (by kernel_rfl) (by kernel_rfl) (by kernel_rfl) (fun _ _ _ h => h) (by rfl) ?_ (by assumption) ?_
      rotate_left 1
      · intro w hSw
        (try dsimp only at hSw)
        go_simp
        try with_reducible rfl
      try simp only [List.setIfInBounds_toArray, List.set_cons_zero, List.set_cons_succ]
      refine takeH (i := 33) (v := ?_) rfl rfl (by kernel_rfl) (by kernel_rfl) (by kernel_rfl) (fun _ _ _ h => h) (by rfl) ?_ (by assumption) ?_
      rotate_left 1
      · intro w hSw
        (try dsimp only at hSw)
        go_simp
        try with_reducible rfl
      try simp only [List.setIfInBounds_toArray, List.set_cons_zero, List.set_cons_succ]
      refine takeH (i := 34) (v := ?_) rfl rfl (by kernel_rfl) (by kernel_rfl) (by kernel_rfl) (fun _ _ _ h => h) (by rfl) ?_ (by assumption) ?_
      rotate_left 1
      · intro w hSw
        (try dsimp only at hSw)
        go_simp
        try with_reducible rfl
      try simp only [List.setIfInBounds_toArray, List.set_cons_zero, List.set_cons_succ]
      refine takeH (i := 37) (v := ?_) rfl rfl (by kernel_rfl) (by kernel_rfl) (by kernel_rfl) (fun _ _ _ h => h) (by rfl) ?_ (by assumption) ?_
      rotate_left 1
      · intro w hSw
        (try dsimp only at hSw)
        go_simp
        try with_reducible rfl
      try simp only [List.setIfInBounds_toArray, List.set_cons_zero, List.set_cons_succ]
      refine wpAnyH_ready (rs := [35]) (by kernel_rfl) (by simp) ?_
      refine AllReadyH.cons rfl (fun K hK => ?_) (AllReadyH.nil)
      go_simp
      refine (rmany_is HMh.out _).mono ?_
      rintro e x35 ⟨rfl, hx35⟩
      go_wp2_with fail
      refine hK.out _ _ ?_ (fun hNew => ?_)
      · exact ⟨cell_later hx35 hHeld.1, cell_later hx35 hHeld.2.1, cell_later hx35 hHeld.2.2.1, cell_later hx35 hHeld.2.2.2.1, cell_later hx35 hHeld.2.2.2.2.1, cell_later hx35 hHeld.2.2.2.2.2.1, cell_later hx35 hHeld.2.2.2.2.2.2.1, cell_later hx35 hHeld.2.2.2.2.2.2.2.1, next hHeld.2.2.2.2.2.2.2.2 hx35⟩
      clear hK K hHeld
      have hHeld := hNew
      clear hNew
      try simp only [Act.put, List.setIfInBounds_toArray, List.set_cons_zero, List.set_cons_succ]
      refine takeH (i := 36) (v := ?_) rfl rfl (by kernel_rfl) (by kernel_rfl) (by kernel_rfl) (fun _ _ _ h => h) (by rfl) ?_ (by assumption) ?_
      rotate_left 1
      · intro w hSw
        (try dsimp only at hSw)
        go_simp
        try with_reducible rfl
      try simp only [List.setIfInBounds_toArray, List.set_cons_zero, List.set_cons_succ]
      refine wpAnyH_ready (rs := [38]) (by kernel_rfl) (by simp) ?_
      refine AllReadyH.cons rfl (fun K hK => ?_) (AllReadyH.nil)
      go_simp
      refine (rmany_is HMr.out _).mono ?_
      rintro e x38 ⟨rfl, hx38⟩
      go_wp2_with fail
      refine hK.out _ _ ?_ (fun hNew => ?_)
      · exact ⟨cell_later hx38 hHeld.1, cell_later hx38 hHeld.2.1, cell_later hx38 hHeld.2.2.1, cell_later hx38 hHeld.2.2.2.1, cell_later hx38 hHeld.2.2.2.2.1, cell_later hx38 hHeld.2.2.2.2.2.1, cell_later hx38 hHeld.2.2.2.2.2.2.1, cell_later hx38 hHeld.2.2.2.2.2.2.2.1, next hHeld.2.2.2.2.2.2.2.2 hx38⟩
      clear hK K hHeld
      have hHeld := hNew
      clear hNew
      try simp only [Act.put, List.setIfInBounds_toArray, List.set_cons_zero, List.set_cons_succ]
      refine takeH (i := 39) (v := ?_) rfl rfl (by kernel_rfl) (by kernel_rfl) (by kernel_rfl) (fun _ _ _ h => h) (by rfl) ?_ (by assumption) ?_
      rotate_left 1
      · intro w hSw
        (try dsimp only at hSw)
        go_simp
        try with_reducible rfl
      try simp only [List.setIfInBounds_toArray, List.set_cons_zero, List.set_cons_succ]
      refine takeH (i := 40) (v := ?_) rfl rfl (by kernel_rfl) (by kernel_rfl) (by kernel_rfl) (fun _ _ _ h => h) (by rfl) ?_ (by assumption) ?_
      rotate_left 1
      · intro w hSw
        (try dsimp only at hSw)
        go_simp
        try with_reducible rfl
      try simp only [List.setIfInBounds_toArray, List.set_cons_zero, List.set_cons_succ]
      refine takeH (i := 41) (v := ?_) rfl rfl (by kernel_rfl) (by kernel_rfl) (by kernel_rfl) (fun _ _ _ h => h) (by rfl) ?_ (by assumption) ?_
      rotate_left 1
      · intro w hSw
        (try dsimp only at hSw)
        go_simp
        try with_reducible rfl
      try simp only [List.setIfInBounds_toArray, List.set_cons_zero, List.set_cons_succ]
      refine wpAnyH_done (by kernel_rfl) ?_ _
      go_wp2
      go_ret
      exact ⟨rfl, hHeld.2.2.2.2.2.2.2.2⟩
  · have hn' : halfB f b = false := by simpa using hn
    clear hn
    have HV := Lib.hid (halfV_no u hn')
    refine (shalf_is HV.out _).mono ?_
    rintro e w2 ⟨rfl, hb⟩
    replace rA := rA.below hb
    replace B1 := next B1 hb
    clear hb
    obtain ⟨rA0, rA1, _, _⟩ := id rA
    have lA0 := rA.lt
    go_wp2_with fail
    clear rA0 rA1
    clear lA0
    have rW := At.new w2 0 0 25
    have lrA := rA.lt
    replace rA := rA.alloc (.cells #[.int .i64 0, .int .i64 0] 25)
    replace B1 := B1.alloc B1.size (.cells #[.int .i64 0, .int .i64 0] 25)
    generalize w2.alloc (.cells #[.int .i64 0, .int .i64 0] 25) = W2 at *
    generalize w2.heap.size = D1 at *
    refine (rhalf_is HV.out _).mono ?_
    rintro e w3 ⟨rfl, hb⟩
    replace rA := rA.below hb
    replace rW := rW.below hb
    replace B1 := next B1 hb
    clear hb
    obtain ⟨rA0, rA1, _, _⟩ := id rA
    obtain ⟨rW0, rW1, _, _⟩ := id rW
    have lA0 := rA.lt
    have lW0 := rW.lt
    go_wp2
    go_ret
    exact ⟨rfl, B1.alloc B1.size _⟩

end Go.Proofs.Ytglmoacgaacmeaa
