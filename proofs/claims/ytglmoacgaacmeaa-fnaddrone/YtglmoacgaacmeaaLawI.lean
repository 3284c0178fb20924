/-
  Each address is a range of its own: the walk of the law.
-/
import Derived.Test.YtglmoacgaacmeaaLawC0
namespace Go.Proofs.Ytglmoacgaacmeaa
open Go.RowKit
set_option linter.unusedSimpArgs false

theorem one_ok {m : Int} (h0 : 0 ≤ m) (h1 : m ≤ 255) : okB m 8 = true := okB_of (by omega) (by omega) h0 h1 (by simp [sz])
theorem one_in {m f b : Int} (h0 : 0 ≤ m) (h1 : m ≤ 255) (ho : okB f b = true) : inB m 8 f b = hasB f b m := by
  obtain ⟨b0, b8, _⟩ := (okB_iff f b).1 ho
  rw [Bool.eq_iff_iff, inB_iff]
  exact ⟨fun k => k.2.1, fun k => ⟨one_ok h0 h1, k, b8⟩⟩
theorem rok_is {f b : Int} {v : Bool} (h : okB f b = v) (w : World) :
    Calls Try.prog 22 #[.agg #[.int .i64 f, .int .i64 b]] w fun e w' => e = .returned (.bool v) ∧ Below w.heap.size w w' := by
  rw [← h]; exact rok_any f b w

set_option maxRecDepth 100000 in
set_option maxHeartbeats 2000000 in
theorem lawOne (a : Option Addr) (len cap : Nat) (zs : List Int) (a2 : Option Addr) (len2 cap2 : Nat) (zs2 : List Int) (w : World) (h : IsRow w a len cap zs) (_h2 : IsRow w a2 len2 cap2 zs2) :
    Calls Try.prog 19 #[.slice a len cap, .slice a2 len2 cap2] w fun e w' => e = .returned (.bool true) ∧ Below w.heap.size w w' := by
  clear _h2
  by_cases hl : 1048576 < len
  · clear h
    go_enter Try.func19, Try.ntmps19
    go_wp2
    go_ret
    exact ⟨rfl, Below.refl _ _⟩
  by_cases hl2 : 1048576 < len2
  · clear h
    go_enter Try.func19, Try.ntmps19
    go_wp2
    go_ret
    exact ⟨rfl, Below.refl _ _⟩
  have H := Lib.hid h
  clear h
  go_enter Try.func19, Try.ntmps19
  go_wp2_with fail
  refine (dHas_any a len cap zs _ H.out).mono ?_
  rintro e w1 ⟨f, b, x, hs, ⟨x0, x1⟩, rfl, hb1⟩
  have HS := Lib.hid hs
  clear hs
  have rA := At.new w1 f b 25
  have B1 := hb1.alloc hb1.size (.cells #[.int .i64 f, .int .i64 b] 25)
  clear hb1
  go_wp2_with fail
  generalize w1.alloc (.cells #[.int .i64 f, .int .i64 b] 25) = W1 at *
  generalize w1.heap.size = R at *
  refine (rhas_any f b x _ (by omega)).mono ?_
  rintro e w2 ⟨rfl, hb⟩
  replace rA := rA.below hb
  replace B1 := next B1 hb
  clear hb
  obtain ⟨a0, a1, _, _⟩ := id rA
  have hd : (hasB f b x != hasB f b x) = false := by simp
  have he : (hasB f b x == hasB f b x) = true := by simp
  go_wp2_with fail
  refine (shas_any f b x _).mono ?_
  rintro e w3 ⟨rfl, hb⟩
  replace rA := rA.below hb
  replace B1 := next B1 hb
  clear hb
  clear a0 a1
  obtain ⟨a0, a1, _, _⟩ := id rA
  by_cases ho : okB f b = true
  · go_wp2_with fail
    refine (sok_is ho _).mono ?_
    rintro e w4 ⟨rfl, hb⟩
    replace rA := rA.below hb
    replace B1 := next B1 hb
    clear hb
    clear a0 a1
    obtain ⟨a0, a1, _, _⟩ := id rA
    have la := rA.lt
    have m0 : 0 ≤ (len2 : Int) * 37 % 256 := by omega
    have m1 : (len2 : Int) * 37 % 256 ≤ 255 := by omega
    obtain ⟨m, hm⟩ := Int.eq_ofNat_of_zero_le m0
    have HM := Lib.hid hm
    have hm1 : (m : Int) ≤ 255 := by omega
    clear hm
    go_wp2_with fail
    rw [HM.out]
    have rD := At.new w4 (m : Int) 8 25
    replace rA := rA.alloc (.cells #[.int .i64 (m : Int), .int .i64 8] 25)
    replace B1 := B1.alloc B1.size (.cells #[.int .i64 (m : Int), .int .i64 8] 25)
    clear a0 a1 hd he m0 m1
    generalize w4.alloc (.cells #[.int .i64 (m : Int), .int .i64 8] 25) = W4 at *
    generalize w4.heap.size = D at *
    obtain ⟨a0, a1, _, _⟩ := id rA
    obtain ⟨d0, d1, _, _⟩ := id rD
    have HI := Lib.hid (⟨a0, a1, d0, d1, B1.drew⟩ : W4.drew.cell? ⟨R, 0, none⟩ = some (.int .i64 f) ∧ W4.drew.cell? ⟨R, 1, none⟩ = some (.int .i64 b) ∧ W4.drew.cell? ⟨D, 0, none⟩ = some (.int .i64 (m : Int)) ∧ W4.drew.cell? ⟨D, 1, none⟩ = some (.int .i64 8) ∧ Below w.heap.size w W4.drew)
    have q1 := one_ok (m := m) (by omega) hm1
    have q2 : manyI m 8 = 1 := by rw [many_ok q1]; simp [sz]
    have q3 := one_in (m := m) (by omega) hm1 ho
    have q4 : (hasB f b m == hasB f b m) = true := by simp
    have Q2 := Lib.hid q2
    have Q3 := Lib.hid q3
    clear q2 q3
    refine wp_region_held_drew (S := fun w' => w'.cell? ⟨R, 0, none⟩ = some (.int .i64 f) ∧ w'.cell? ⟨R, 1, none⟩ = some (.int .i64 b) ∧ w'.cell? ⟨D, 0, none⟩ = some (.int .i64 (m : Int)) ∧ w'.cell? ⟨D, 1, none⟩ = some (.int .i64 8) ∧ Below w.heap.size w w') (by kernel_rfl) ?_ (fun hHeld => ?_)
    · exact HI.out
    refine takeH (i := 0) (v := ?_) rfl rfl (by kernel_rfl) (by kernel_rfl) (by kernel_rfl) (fun _ _ _ h => h) (by rfl) ?_ (by assumption) ?_
    rotate_left 1
    · intro w hSw
      (try dsimp only at hSw)
      go_simp
      try with_reducible rfl
    try simp only [List.setIfInBounds_toArray, List.set_cons_zero, List.set_cons_succ]
    refine wpAnyH_ready (rs := [1]) (by kernel_rfl) (by simp) ?_
    refine AllReadyH.cons rfl (fun K hK => ?_) (AllReadyH.nil)
    go_simp
    refine (rok_is q1 _).mono ?_
    rintro e w5 ⟨rfl, hb5⟩
    go_wp2_with fail
    refine hK.out _ _ ?_ (fun hNew => ?_)
    · exact ⟨cell_later hb5 hHeld.1, cell_later hb5 hHeld.2.1, cell_later hb5 hHeld.2.2.1, cell_later hb5 hHeld.2.2.2.1, next hHeld.2.2.2.2 hb5⟩
    clear hK K hHeld
    have hHeld := hNew
    clear hNew
    try simp only [Act.put, List.setIfInBounds_toArray, List.set_cons_zero, List.set_cons_succ]
    refine takeH (i := 2) (v := ?_) rfl rfl (by kernel_rfl) (by kernel_rfl) (by kernel_rfl) (fun _ _ _ h => h) (by rfl) ?_ (by assumption) ?_
    rotate_left 1
    · intro w hSw
      (try dsimp only at hSw)
      go_simp
      try with_reducible rfl
    try simp only [List.setIfInBounds_toArray, List.set_cons_zero, List.set_cons_succ]
    refine takeH (i := 3) (v := ?_) rfl rfl (by kernel_rfl) (by kernel_rfl) (by kernel_rfl) (fun _ _ _ h => h) (by rfl) ?_ (by assumption) ?_
    rotate_left 1
    · intro w hSw
      (try dsimp only at hSw)
      go_simp
      try with_reducible rfl
    try simp only [List.setIfInBounds_toArray, List.set_cons_zero, List.set_cons_succ]
    refine wpAnyH_ready (rs := [4]) (by kernel_rfl) (by simp) ?_
    refine AllReadyH.cons rfl (fun K hK => ?_) (AllReadyH.nil)
    go_simp
    refine (rmany_is Q2.out _).mono ?_
    rintro e w6 ⟨rfl, hb6⟩
    go_wp2_with fail
    refine hK.out _ _ ?_ (fun hNew => ?_)
    · exact ⟨cell_later hb6 hHeld.1, cell_later hb6 hHeld.2.1, cell_later hb6 hHeld.2.2.1, cell_later hb6 hHeld.2.2.2.1, next hHeld.2.2.2.2 hb6⟩
    clear hK K hHeld
    have hHeld := hNew
    clear hNew
    try simp only [Act.put, List.setIfInBounds_toArray, List.set_cons_zero, List.set_cons_succ]
    refine takeH (i := 5) (v := ?_) rfl rfl (by kernel_rfl) (by kernel_rfl) (by kernel_rfl) (fun _ _ _ h => h) (by rfl) ?_ (by assumption) ?_
    rotate_left 1
    · intro w hSw
      (try dsimp only at hSw)
      go_simp
      try with_reducible rfl
    try simp only [List.setIfInBounds_toArray, List.set_cons_zero, List.set_cons_succ]
    refine takeH (i := 6) (v := ?_) rfl rfl (by kernel_rfl) (by kernel_rfl) (by kernel_rfl) (fun _ _ _ h => h) (by rfl) ?_ (by assumption) ?_
    rotate_left 1
    · intro w hSw
      (try dsimp only at hSw)
      go_simp
      try with_reducible rfl
    try simp only [List.setIfInBounds_toArray, List.set_cons_zero, List.set_cons_succ]
    refine takeH (i := 7) (v := ?_) rfl rfl (by kernel_rfl) (by kernel_rfl) (by kernel_rfl) (fun _ _ _ h => h) (by rfl) ?_ (by assumption) ?_
    rotate_left 1
    · intro w hSw
      (try dsimp only at hSw)
      go_simp
      try with_reducible rfl
    try simp only [List.setIfInBounds_toArray, List.set_cons_zero, List.set_cons_succ]
    refine takeH (i := 8) (v := ?_) rfl rfl (by kernel_rfl) (by kernel_rfl) (by kernel_rfl) (fun _ _ _ h => h) (by rfl) ?_ (by assumption) ?_
    rotate_left 1
    · intro w hSw
      (try dsimp only at hSw)
      go_simp
      try with_reducible rfl
    try simp only [List.setIfInBounds_toArray, List.set_cons_zero, List.set_cons_succ]
    refine takeH (i := 9) (v := ?_) rfl rfl (by kernel_rfl) (by kernel_rfl) (by kernel_rfl) (fun _ _ _ h => h) (by rfl) ?_ (by assumption) ?_
    rotate_left 1
    · intro w hSw
      (try dsimp only at hSw)
      go_simp
      try with_reducible rfl
    try simp only [List.setIfInBounds_toArray, List.set_cons_zero, List.set_cons_succ]
    refine takeH (i := 11) (v := ?_) rfl rfl (by kernel_rfl) (by kernel_rfl) (by kernel_rfl) (fun _ _ _ h => h) (by rfl) ?_ (by assumption) ?_
    rotate_left 1
    · intro w hSw
      (try dsimp only at hSw)
      go_simp
      try with_reducible rfl
    try simp only [List.setIfInBounds_toArray, List.set_cons_zero, List.set_cons_succ]
    refine takeH (i := 12) (v := ?_) rfl rfl (by kernel_rfl) (by kernel_rfl) (by kernel_rfl) (fun _ _ _ h => h) (by rfl) ?_ (by assumption) ?_
    rotate_left 1
    · intro w hSw
      (try dsimp only at hSw)
      go_simp
      try with_reducible rfl
    try simp only [List.setIfInBounds_toArray, List.set_cons_zero, List.set_cons_succ]
    refine wpAnyH_ready (rs := [10]) (by kernel_rfl) (by simp) ?_
    refine AllReadyH.cons rfl (fun K hK => ?_) (AllReadyH.nil)
    go_simp
    refine (rin_is Q3.out _).mono ?_
    rintro e w7 ⟨rfl, hb7⟩
    go_wp2_with fail
    refine hK.out _ _ ?_ (fun hNew => ?_)
    · exact ⟨cell_later hb7 hHeld.1, cell_later hb7 hHeld.2.1, cell_later hb7 hHeld.2.2.1, cell_later hb7 hHeld.2.2.2.1, next hHeld.2.2.2.2 hb7⟩
    clear hK K hHeld
    have hHeld := hNew
    clear hNew
    try simp only [Act.put, List.setIfInBounds_toArray, List.set_cons_zero, List.set_cons_succ]
    refine wpAnyH_ready (rs := [13]) (by kernel_rfl) (by simp) ?_
    refine AllReadyH.cons rfl (fun K hK => ?_) (AllReadyH.nil)
    go_simp
    refine (rhas_any f b m _ (by omega)).mono ?_
    rintro e w8 ⟨rfl, hb8⟩
    go_wp2_with fail
    refine hK.out _ _ ?_ (fun hNew => ?_)
    · exact ⟨cell_later hb8 hHeld.1, cell_later hb8 hHeld.2.1, cell_later hb8 hHeld.2.2.1, cell_later hb8 hHeld.2.2.2.1, next hHeld.2.2.2.2 hb8⟩
    clear hK K hHeld
    have hHeld := hNew
    clear hNew
    try simp only [Act.put, List.setIfInBounds_toArray, List.set_cons_zero, List.set_cons_succ]
    refine takeH (i := 14) (v := ?_) rfl rfl (by kernel_rfl) (by kernel_rfl) (by kernel_rfl) (fun _ _ _ h => h) (by rfl) ?_ (by assumption) ?_
    rotate_left 1
    · intro w hSw
      (try dsimp only at hSw)
      go_simp
      try with_reducible rfl
    try simp only [List.setIfInBounds_toArray, List.set_cons_zero, List.set_cons_succ]
    refine takeH (i := 15) (v := ?_) rfl rfl (by kernel_rfl) (by kernel_rfl) (by kernel_rfl) (fun _ _ _ h => h) (by rfl) ?_ (by assumption) ?_
    rotate_left 1
    · intro w hSw
      (try dsimp only at hSw)
      go_simp
      try with_reducible rfl
    try simp only [List.setIfInBounds_toArray, List.set_cons_zero, List.set_cons_succ]
    refine takeH (i := 16) (v := ?_) rfl rfl (by kernel_rfl) (by kernel_rfl) (by kernel_rfl) (fun _ _ _ h => h) (by rfl) ?_ (by assumption) ?_
    rotate_left 1
    · intro w hSw
      (try dsimp only at hSw)
      go_simp
      try with_reducible rfl
    try simp only [List.setIfInBounds_toArray, List.set_cons_zero, List.set_cons_succ]
    refine wpAnyH_done (by kernel_rfl) ?_ _
    go_wp2
    go_ret
    exact ⟨rfl, hHeld.2.2.2.2⟩
  · have ho' : okB f b = false := by simpa using ho
    clear ho
    go_wp2_with fail
    refine (sok_is ho' _).mono ?_
    rintro e w4 ⟨rfl, hb⟩
    replace rA := rA.below hb
    replace B1 := next B1 hb
    clear hb
    clear a0 a1
    obtain ⟨a0, a1, _, _⟩ := id rA
    go_wp2_with fail
    refine (shas_any f b x _).mono ?_
    rintro e w5 ⟨rfl, hb⟩
    replace rA := rA.below hb
    replace B1 := next B1 hb
    clear hb
    go_wp2
    go_ret
    exact ⟨rfl, B1⟩

end Go.Proofs.Ytglmoacgaacmeaa
