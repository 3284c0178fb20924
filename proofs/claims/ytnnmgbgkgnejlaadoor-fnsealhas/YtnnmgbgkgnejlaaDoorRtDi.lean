/-
  A drawn path and a drawn route, with bounds of their numbers.
-/
import Derived.Test.YtnnmgbgkgnejlaaDoorRtDr
import Derived.Test.YtnnmgbgkgnejlaaDoorSlMk
namespace Go.Proofs.YtnnmgbgkgnejlaaDoor
open Go.RowKit
set_option linter.unusedSimpArgs false
set_option linter.unusedVariables false

def PathedI (w : World) (B p : Nat) (e : Ending) (w' : World) : Prop :=
  ∃ (v : Value) (L : List Int) (p' : Nat), e = .returned v ∧ L.length ≤ 5 ∧ (∀ y ∈ L, Iv y) ∧ OwnI w' w.heap.size v L ∧ Rd w' B p' ∧ p' ≤ p + 20 ∧ w.grownBy w' (some B)
def RtedI (w : World) (B p : Nat) (en : Ending) (w' : World) : Prop :=
  ∃ (f b l : Int) (P M : List Int) (pv mv : Value) (p' : Nat), en = .returned (.agg #[.int .i64 f, .int .i64 b, pv, .int .i64 l, mv]) ∧ (P.length ≤ 6 ∧ M.length ≤ 11) ∧ (Iv f ∧ Iv b ∧ ∀ y ∈ P, Iv y) ∧ (OwnI w' w.heap.size pv P ∧ OwnI w' w.heap.size mv M) ∧ Rd w' B p' ∧ p' ≤ p + 50 ∧ w.grownBy w' (some B)
theorem iv_one {z : Int} (h0 : 0 ≤ z) (h1 : z < 5) : ∀ y ∈ [1 + z], Iv y := fun y hy => by
  obtain rfl := List.mem_singleton.1 hy
  unfold Iv; omega
theorem iv_snoc {L : List Int} {z : Int} (h : ∀ y ∈ L, Iv y) (h0 : 0 ≤ z) (h1 : z < 5) : ∀ y ∈ L ++ [1 + z], Iv y := fun y hy => by
  rcases List.mem_append.1 hy with k | k
  · exact h y k
  · exact iv_one h0 h1 y k
theorem small_iv {f b : Int} (h : -2 ≤ f ∧ f ≤ 257 ∧ -1 ≤ b ∧ b ≤ 9) : Iv f ∧ Iv b := by
  unfold Iv; omega
set_option maxRecDepth 100000 in
set_option maxHeartbeats 4000000 in
theorem path_iv (w : World) (B p : Nat) (hp : p < 990000) (hr : Rd w B p) :
    Calls Tryd.prog 88 #[.pointer (some ⟨B, 0, none⟩)] w (PathedI w B p) := by
  have hBw := rd_lt hr
  have HO0 := Lib.hid (owni_empty w w.heap.size (Nat.le_refl _))
  have HR0 := Lib.hid (rd_alloc hr (.cells #[] 3))
  have HG0 := Lib.hid (only_alloc (World.grownBy.refl w (some B)) (.cells #[] 3))
  clear hr
  go_enter Tryd.func88, Tryd.ntmps88
  go_wp2_with fail
  refine (pick_any 5 _ B p (by omega) (by omega) HR0.out).mono ?_
  rintro e w1 ⟨x, x0, x1, rfl, hr1, hg1⟩
  have I1 : Hid (PthI w B (p + 1) [] (.slice (some ⟨w.heap.size, 0, none⟩) 0 0) w1) := Lib.hid ⟨owni_pick HO0.out hg1 hBw, ⟨p + 1, hr1, Nat.le_refl _⟩, only_on HG0.out hg1⟩
  obtain ⟨m, rfl⟩ := Int.eq_ofNat_of_zero_le x0
  clear hr1 hg1 HO0 HR0 HG0
  go_wp2_with fail
  go_loopw [3, 4] (fun v n wr => ∃ (k : Nat) (L : List Int), k ≤ 4 ∧ n = .int .i64 k ∧ (L.length + k ≤ 4 ∧ ∀ y ∈ L, Iv y) ∧ PthI w B (p + 1 + 2 * (4 - k)) L v wr) (fun _ n _ => (intOf n).toNat)
  case atStart => exact ⟨m, [], by omega, rfl, ⟨by simp; omega, fun y hy => by cases hy⟩, I1.out.more (by omega)⟩
  case round =>
    obtain ⟨k, L, hk, rfl, ⟨hl, hiv⟩, ho, ⟨q, hr, hq⟩, hG⟩ := hrel
    clear I1
    have HIV := Lib.hid hiv
    clear hiv
    obtain ⟨av, pv, rfl, hcv, tv⟩ := OwnI.tab ho
    by_cases hk0 : 0 < k
    · have HO := Lib.hid (And.intro ho (And.intro hr hG))
      have hsz := hG.size
      clear ho hr hG tv
      go_wp2_with fail
      refine (pick_any 5 _ B q (by omega) (by omega) HO.out.2.1).mono ?_
      rintro e w2 ⟨y, y0, y1, rfl, hr2, hg2⟩
      have HO2 := Lib.hid (And.intro (owni_pick HO.out.1 hg2 hBw) (And.intro hr2 (only_on HO.out.2.2 hg2)))
      clear hr2 hg2 HO
      by_cases hm : (1 + y) ∈ L
      · have hm' : decide ((1 + y) ∈ L) = true := decide_eq_true hm
        clear hm
        go_wp2_with fail
        refine (pshas_is hm' av pv _ _ rfl (OwnI.intA HO2.out.1).2.2 (by omega)).mono ?_
        rintro e w3 ⟨rfl, rfl⟩
        go_wp2_with fail
        refine (pick_any 30 _ B (q + 1) (by omega) (by omega) HO2.out.2.1).mono ?_
        rintro e w3 ⟨z, z0, z1, rfl, hr3, hg3⟩
        have HO3 := Lib.hid (And.intro (owni_pick HO2.out.1 hg3 hBw) (And.intro hr3 (only_on HO2.out.2.2 hg3)))
        have hs3 := HO3.out.2.2.size
        clear hr3 hg3 HO2
        by_cases hz : z = 0
        · subst hz
          go_wp2_with (first | (at_builtin; refine wpList_appI rfl (.tmp 25) (.tmp 27) rfl w.heap.size _ L rfl (HO3.out.1.alloc _) _ 1 [1 + y] rfl (pnews1 w3 _) (by simp) (by simp; omega) (by simp only [World.size_alloc]; omega) ?_; intro v5 w5 own5 grow5))
          have ho3 := HO3.out.1.alloc (.cells #[.int .i64 (1 + y)] 3)
          have R : Hid (PthI w B (q + 2) (L ++ [1 + y]) v5 w5) := Lib.hid ⟨own5, ⟨q + 1 + 1, prd_own (rd_alloc HO3.out.2.1 _) grow5 (OwnI.lt' ho3) hBw, by omega⟩, ponly_own (only_alloc HO3.out.2.2 _) grow5 (OwnI.lt' ho3)⟩
          clear own5 grow5 ho3 HO3
          go_wp2_with fail
          go_roundw
          case rel => exact ⟨k - 1, L ++ [1 + y], by omega, by go_num, ⟨by simp; omega, iv_snoc HIV.out y0 y1⟩, R.out.more (by omega)⟩
          case measure => simp [intOf]; omega
        · have hz' : (z == 0) = false := by simpa using hz
          have R : Hid (PthI w B (q + 2) L (.slice av L.length pv) w3) := Lib.hid ⟨HO3.out.1, ⟨q + 1 + 1, HO3.out.2.1, by omega⟩, HO3.out.2.2⟩
          clear HO3
          go_wp2_with fail
          go_roundw
          case rel => exact ⟨k - 1, L, by omega, by go_num, ⟨by omega, HIV.out⟩, R.out.more (by omega)⟩
          case measure => simp [intOf]; omega
      · have hm' : decide ((1 + y) ∈ L) = false := decide_eq_false hm
        clear hm
        have hs3 := HO2.out.2.2.size
        go_wp2_with fail
        refine (pshas_is hm' av pv _ _ rfl (OwnI.intA HO2.out.1).2.2 (by omega)).mono ?_
        rintro e w3 ⟨rfl, rfl⟩
        go_wp2_with (first | (at_builtin; refine wpList_appI rfl (.tmp 25) (.tmp 27) rfl w.heap.size _ L rfl (HO2.out.1.alloc _) _ 1 [1 + y] rfl (pnews1 w2 _) (by simp) (by simp; omega) (by simp only [World.size_alloc]; omega) ?_; intro v5 w5 own5 grow5))
        have ho3 := HO2.out.1.alloc (.cells #[.int .i64 (1 + y)] 3)
        have R : Hid (PthI w B (q + 2) (L ++ [1 + y]) v5 w5) := Lib.hid ⟨own5, ⟨q + 1, prd_own (rd_alloc HO2.out.2.1 _) grow5 (OwnI.lt' ho3) hBw, by omega⟩, ponly_own (only_alloc HO2.out.2.2 _) grow5 (OwnI.lt' ho3)⟩
        clear own5 grow5 ho3 HO2
        go_wp2_with fail
        go_roundw
        case rel => exact ⟨k - 1, L ++ [1 + y], by omega, by go_num, ⟨by simp; omega, iv_snoc HIV.out y0 y1⟩, R.out.more (by omega)⟩
        case measure => simp [intOf]; omega
    · obtain rfl : k = 0 := by omega
      have HO := Lib.hid (And.intro ho (And.intro hr hG))
      clear ho hr hG tv
      go_wp2_with fail
      go_ret
      exact ⟨_, _, _, rfl, by omega, HIV.out, HO.out.1, HO.out.2.1, by omega, HO.out.2.2⟩

set_option maxRecDepth 100000 in
set_option maxHeartbeats 40000000 in
theorem route_iv (w : World) (B p : Nat) (hp : p < 900000) (hr : Rd w B p) :
    Calls Tryd.prog 52 #[.pointer (some ⟨B, 0, none⟩)] w (RtedI w B p) := by
  have hBw := rd_lt hr
  have A0 := Lib.hid (At5.new w (.int .i64 0) (.int .i64 0) (.slice none 0 0) (.int .i64 0) (.slice none 0 0) 27)
  have R0 := Lib.hid (And.intro (rd_alloc hr (.cells #[.int .i64 0, .int .i64 0, .slice none 0 0, .int .i64 0, .slice none 0 0] 27)) (only_alloc (World.grownBy.refl w (some B)) (.cells #[.int .i64 0, .int .i64 0, .slice none 0 0, .int .i64 0, .slice none 0 0] 27)))
  have hs0 : (w.alloc (.cells #[.int .i64 0, .int .i64 0, .slice none 0 0, .int .i64 0, .slice none 0 0] 27)).heap.size = w.heap.size + 1 := by simp
  clear hr
  go_enter Tryd.func52, Tryd.ntmps52
  go_wp2_with fail
  generalize w.alloc (.cells #[.int .i64 0, .int .i64 0, .slice none 0 0, .int .i64 0, .slice none 0 0] 27) = W at *
  refine (range_any _ B p (by omega) R0.out.1).mono ?_
  rintro en w1 ⟨f, b, p1, hsm, rfl, hr1, hp1, hg1⟩
  have HSM := Lib.hid (small_iv hsm)
  clear hsm
  have H1 := Lib.hid (And.intro (A0.out.only hg1 (by simp; omega)) (And.intro hr1 (only_on R0.out.2 hg1)))
  have hs1 := hg1.size
  clear hr1 hg1 A0 R0
  go_wp2_with fail
  refine (path_iv _ B p1 (by omega) H1.out.2.1).mono ?_
  rintro en w2 ⟨v2, P, p2, rfl, hlP, hiP, o2, hr2, hp2, hg2⟩
  have HIP := Lib.hid hiP
  clear hiP
  obtain ⟨a2, c2, rfl, _, _⟩ := OwnI.tab o2
  have H2 := Lib.hid (And.intro (H1.out.1.only hg2 (by simp; omega)) (And.intro hr2 (And.intro (only_on H1.out.2.2 hg2) o2)))
  have hs2 := hg2.size
  clear o2 hr2 hg2 H1
  go_wp2_with fail
  refine (pick_any 4 _ B p2 (by omega) (by omega) H2.out.2.1).mono ?_
  rintro en w3 ⟨l, _, _, rfl, hr3, hg3⟩
  have H3 := Lib.hid (And.intro (H2.out.1.only hg3 (by simp; omega)) (And.intro hr3 (And.intro (only_on H2.out.2.2.1 hg3) (owni_pick H2.out.2.2.2 hg3 (by omega)))))
  have hs3 := hg3.size
  clear hr3 hg3 H2
  go_wp2_with fail
  refine (marks_any _ B (p2 + 1) (by omega) H3.out.2.1).mono ?_
  rintro en w4 ⟨v4, M, p4, rfl, hlM, o4, hr4, hp4, hg4⟩
  obtain ⟨a4, c4, rfl, _, _⟩ := OwnI.tab o4
  have hs4 := hg4.size
  have D4 : Hid (Dr w B p4 w4.heap.size f b (.slice a2 P.length c2) P l (.slice a4 M.length c4) M (w4.alloc (.cells #[.int .i64 f, .int .i64 b, .slice a2 P.length c2, .int .i64 l, .slice a4 M.length c4] 27))) := by
    have oP := owni_pick H3.out.2.2.2 hg4 (by omega)
    have bP := OwnI.btw H3.out.2.2.2
    refine Lib.hid ⟨(H3.out.1.only hg4 (by simp; omega)).alloc _, At5.new w4 _ _ _ _ _ _, (owni_mono oP (by omega)).alloc _, (owni_mono o4 (by omega)).alloc _, ?_, fun e => ?_, fun e => ?_, ⟨p4, rd_alloc hr4 _, Nat.le_refl _⟩, only_alloc (only_on H3.out.2.2.1 hg4) _, by omega, hBw, _, heap_alloc_new w4 _⟩
    · cases e : (Value.slice a2 P.length c2).ownBlock with
      | none => exact .inl rfl
      | some k => exact .inr fun q => by have := (bP k e).2; have := (o4.lt k q.symm).1; omega
    · have := (oP.lt _ e).2; omega
    · have := (o4.lt _ e).2; omega
  clear o4 hr4 hg4 H3
  by_cases hP0 : P.length = 0
  · obtain rfl : P = [] := List.eq_nil_of_length_eq_zero hP0
    clear hP0
    go_wp2_with fail
    generalize w4.alloc (.cells #[.int .i64 f, .int .i64 b, .slice a2 ([] : List Int).length c2, .int .i64 l, .slice a4 M.length c4] 27) = w5 at *
    obtain ⟨q5, r5, hq5⟩ := D4.out.rd
    refine (pick_any 8 _ B q5 (by omega) (by omega) r5).mono ?_
    rintro en w6 ⟨y, y0, y1, rfl, hr6, hg6⟩
    have D6 : Hid (Dr w B (p4 + 1) w4.heap.size f b (.slice a2 0 c2) [] l (.slice a4 M.length c4) M w6) := Lib.hid (D4.out.pick hr6 (by omega) hg6)
    clear hr6 hg6 r5 D4
    by_cases hy : 0 < y
    · go_wp2_with fail
      obtain ⟨q6, r6, hq6⟩ := D6.out.rd
      refine (pick_any 5 _ B q6 (by omega) (by omega) r6).mono ?_
      rintro en w7 ⟨z, z0, z1, rfl, hr7, hg7⟩
      have D7 := Lib.hid (D6.out.pick hr7 (by omega) hg7)
      clear hr7 hg7 r6 D6
      have lt7 : w4.heap.size < w7.heap.size := D7.out.box.lt
      have O7 : Hid (OwnI (w7.alloc (.cells #[.int .i64 (1 + z)] 3)) (w.heap.size + 1) (.slice (some ⟨w7.heap.size, 0, none⟩) 1 1) [1 + z]) := Lib.hid (owni_one w7 (w.heap.size + 1) (by have := D7.out.lo; omega) (1 + z))
      have D8 := Lib.hid (Dr.setP (D7.out.alloc (.cells #[.int .i64 (1 + z)] 3)) O7.out (.inr (fun e => by have := (D7.out.oM.lt _ e.symm).2; simp at this)) (fun e => by simp [Value.ownBlock] at e; omega))
      rw [World.setCell_alloc_past _ _ _ _ lt7] at D8
      have q0 := D7.out.box.1.1; have q1 := D7.out.box.1.2.1; have q2 := D7.out.box.1.2.2.1; have q3 := D7.out.box.1.2.2.2.1; have q4 := D7.out.box.1.2.2.2.2; have k0 := D7.out.box.2.1; have k1 := D7.out.box.2.2.1; have k2 := D7.out.box.2.2.2.1; have k3 := D7.out.box.2.2.2.2.1; have k4 := D7.out.box.2.2.2.2.2
      have i1 : IntKind.i64.wrap (1 + z) = 1 + z := by rw [IntKind.wrap_i64]; omega
      have ne7 : ¬ w4.heap.size = w7.heap.size := by omega
      go_wp2_with fail
      clear q0 q1 q2 q3 q4 k0 k1 k2 k3 k4 D7
      obtain ⟨q8, r8, hq8⟩ := D8.out.rd
      refine (pick_any 60 _ B q8 (by omega) (by omega) r8).mono ?_
      rintro en w9 ⟨x, x0, x1, rfl, hr9, hg9⟩
      have D9 := Lib.hid (D8.out.pick hr9 (by omega) hg9)
      clear hr9 hg9 r8
      have lt9 : w4.heap.size < w9.heap.size := D9.out.box.lt
      have ne9 : ¬ w4.heap.size = w.heap.size := by have := D9.out.lo; omega
      have ne9b : ¬ w.heap.size = w4.heap.size := by omega
      by_cases hx0 : x = 0
      · subst hx0
        have D10 := Lib.hid (D9.out.alloc (.cells #[.int .i64 (-1), .int .i64 10, .int .i64 9] 3))
        have c0 : (w9.alloc (.cells #[.int .i64 (-1), .int .i64 10, .int .i64 9] 3)).cell? ⟨w9.heap.size, 0, none⟩ = some (.int .i64 (-1)) := by simp
        have c1 : (w9.alloc (.cells #[.int .i64 (-1), .int .i64 10, .int .i64 9] 3)).cell? ⟨w9.heap.size, 1, none⟩ = some (.int .i64 10) := by simp
        have c2' : (w9.alloc (.cells #[.int .i64 (-1), .int .i64 10, .int .i64 9] 3)).cell? ⟨w9.heap.size, 2, none⟩ = some (.int .i64 9) := by simp
        have C := Lib.hid (And.intro c0 (And.intro c1 c2'))
        clear c0 c1 c2'
        go_wp2_with fail
        obtain ⟨q10, r10, hq10⟩ := D10.out.rd
        refine (pick_any 3 _ B q10 (by omega) (by omega) r10).mono ?_
        rintro en w11 ⟨y, y0, y1, rfl, hr11, hg11⟩
        have D11 := Lib.hid (D10.out.pick hr11 (by omega) hg11)
        have C11 := Lib.hid (And.intro (hg11.cell C.out.1 (by simp; omega)) (And.intro (hg11.cell C.out.2.1 (by simp; omega)) (hg11.cell C.out.2.2 (by simp; omega))))
        clear hr11 hg11 r10 C
        have hy : y = 0 ∨ y = 1 ∨ y = 2 := by omega
        obtain ⟨cc0, cc1, cc2⟩ := C11.out
        rcases hy with rfl | rfl | rfl
        · have D12 := Lib.hid (D11.out.setL (-1)).fz
          have q0 := D11.out.box.1.1; have q1 := D11.out.box.1.2.1; have q2 := D11.out.box.1.2.2.1; have q3 := D11.out.box.1.2.2.2.1; have q4 := D11.out.box.1.2.2.2.2; have k0 := D11.out.box.2.1; have k1 := D11.out.box.2.2.1; have k2 := D11.out.box.2.2.2.1; have k3 := D11.out.box.2.2.2.2.1; have k4 := D11.out.box.2.2.2.2.2
          have s0 := D11.out.ans.1.1; have s1 := D11.out.ans.1.2.1; have s2 := D11.out.ans.1.2.2.1; have s3 := D11.out.ans.1.2.2.2.1; have s4 := D11.out.ans.1.2.2.2.2; have r0 := D11.out.ans.2.1; have r1 := D11.out.ans.2.2.1; have r2 := D11.out.ans.2.2.2.1; have r3 := D11.out.ans.2.2.2.2.1; have r4 := D11.out.ans.2.2.2.2.2
          obtain ⟨qz, rz1, rz2⟩ := D12.out.2.2.2.1
          have HF := Lib.hid (dr_fin (.int .i64 f) (.int .i64 b) (.int .i64 (-1)) D12.out.2.1 D12.out.2.2.1 D12.out.1 rz1 D12.out.2.2.2.2 hBw)
          clear rz1
          go_wp2_with fail
          have HG := HF.out
          generalize hX : set5 (w11.setCell ⟨w4.heap.size, 3, none⟩ (.int .i64 (-1))) w.heap.size (.int .i64 f) (.int .i64 b) (.slice (some ⟨w7.heap.size, 0, none⟩) 1 1) (.int .i64 (-1)) (.slice a4 M.length c4) = wF at HG
          unfold set5 at hX
          rw [hX]
          obtain ⟨⟨⟨g0, g1, g2, g3, g4⟩, _⟩, gO, gR, gG⟩ := HG
          exact bodyPost_ret (v := .agg #[.int .i64 f, .int .i64 b, .slice (some ⟨w7.heap.size, 0, none⟩) 1 1, .int .i64 (-1), .slice a4 M.length c4]) (by simp [results, Tryd.results52, go_sem, g0, g1, g2, g3, g4]) rfl ⟨f, b, (-1), ([1 + z] : List Int), M, _, _, qz, rfl, ⟨by (try simp) <;> omega, by (try simp) <;> omega⟩, ⟨HSM.out.1, HSM.out.2, iv_one z0 z1⟩, gO, gR, by omega, gG⟩
        · have D12 := Lib.hid (D11.out.setL 10).fz
          have q0 := D11.out.box.1.1; have q1 := D11.out.box.1.2.1; have q2 := D11.out.box.1.2.2.1; have q3 := D11.out.box.1.2.2.2.1; have q4 := D11.out.box.1.2.2.2.2; have k0 := D11.out.box.2.1; have k1 := D11.out.box.2.2.1; have k2 := D11.out.box.2.2.2.1; have k3 := D11.out.box.2.2.2.2.1; have k4 := D11.out.box.2.2.2.2.2
          have s0 := D11.out.ans.1.1; have s1 := D11.out.ans.1.2.1; have s2 := D11.out.ans.1.2.2.1; have s3 := D11.out.ans.1.2.2.2.1; have s4 := D11.out.ans.1.2.2.2.2; have r0 := D11.out.ans.2.1; have r1 := D11.out.ans.2.2.1; have r2 := D11.out.ans.2.2.2.1; have r3 := D11.out.ans.2.2.2.2.1; have r4 := D11.out.ans.2.2.2.2.2
          obtain ⟨qz, rz1, rz2⟩ := D12.out.2.2.2.1
          have HF := Lib.hid (dr_fin (.int .i64 f) (.int .i64 b) (.int .i64 10) D12.out.2.1 D12.out.2.2.1 D12.out.1 rz1 D12.out.2.2.2.2 hBw)
          clear rz1
          go_wp2_with fail
          have HG := HF.out
          generalize hX : set5 (w11.setCell ⟨w4.heap.size, 3, none⟩ (.int .i64 10)) w.heap.size (.int .i64 f) (.int .i64 b) (.slice (some ⟨w7.heap.size, 0, none⟩) 1 1) (.int .i64 10) (.slice a4 M.length c4) = wF at HG
          unfold set5 at hX
          rw [hX]
          obtain ⟨⟨⟨g0, g1, g2, g3, g4⟩, _⟩, gO, gR, gG⟩ := HG
          exact bodyPost_ret (v := .agg #[.int .i64 f, .int .i64 b, .slice (some ⟨w7.heap.size, 0, none⟩) 1 1, .int .i64 10, .slice a4 M.length c4]) (by simp [results, Tryd.results52, go_sem, g0, g1, g2, g3, g4]) rfl ⟨f, b, 10, ([1 + z] : List Int), M, _, _, qz, rfl, ⟨by (try simp) <;> omega, by (try simp) <;> omega⟩, ⟨HSM.out.1, HSM.out.2, iv_one z0 z1⟩, gO, gR, by omega, gG⟩
        · have D12 := Lib.hid (D11.out.setL 9).fz
          have q0 := D11.out.box.1.1; have q1 := D11.out.box.1.2.1; have q2 := D11.out.box.1.2.2.1; have q3 := D11.out.box.1.2.2.2.1; have q4 := D11.out.box.1.2.2.2.2; have k0 := D11.out.box.2.1; have k1 := D11.out.box.2.2.1; have k2 := D11.out.box.2.2.2.1; have k3 := D11.out.box.2.2.2.2.1; have k4 := D11.out.box.2.2.2.2.2
          have s0 := D11.out.ans.1.1; have s1 := D11.out.ans.1.2.1; have s2 := D11.out.ans.1.2.2.1; have s3 := D11.out.ans.1.2.2.2.1; have s4 := D11.out.ans.1.2.2.2.2; have r0 := D11.out.ans.2.1; have r1 := D11.out.ans.2.2.1; have r2 := D11.out.ans.2.2.2.1; have r3 := D11.out.ans.2.2.2.2.1; have r4 := D11.out.ans.2.2.2.2.2
          obtain ⟨qz, rz1, rz2⟩ := D12.out.2.2.2.1
          have HF := Lib.hid (dr_fin (.int .i64 f) (.int .i64 b) (.int .i64 9) D12.out.2.1 D12.out.2.2.1 D12.out.1 rz1 D12.out.2.2.2.2 hBw)
          clear rz1
          go_wp2_with fail
          have HG := HF.out
          generalize hX : set5 (w11.setCell ⟨w4.heap.size, 3, none⟩ (.int .i64 9)) w.heap.size (.int .i64 f) (.int .i64 b) (.slice (some ⟨w7.heap.size, 0, none⟩) 1 1) (.int .i64 9) (.slice a4 M.length c4) = wF at HG
          unfold set5 at hX
          rw [hX]
          obtain ⟨⟨⟨g0, g1, g2, g3, g4⟩, _⟩, gO, gR, gG⟩ := HG
          exact bodyPost_ret (v := .agg #[.int .i64 f, .int .i64 b, .slice (some ⟨w7.heap.size, 0, none⟩) 1 1, .int .i64 9, .slice a4 M.length c4]) (by simp [results, Tryd.results52, go_sem, g0, g1, g2, g3, g4]) rfl ⟨f, b, 9, ([1 + z] : List Int), M, _, _, qz, rfl, ⟨by (try simp) <;> omega, by (try simp) <;> omega⟩, ⟨HSM.out.1, HSM.out.2, iv_one z0 z1⟩, gO, gR, by omega, gG⟩
      · have hx0' : (x == 0) = false := by simpa using hx0
        by_cases hx1 : x = 1
        · subst hx1
          have D9d := Lib.hid D9.out.drew
          go_wp2_with fail
          refine wp_region_held_drew (S := fun _ => True) (by kernel_rfl) ?_ (fun hHeld => ?_)
          · exact trivial
          refine takeH (i := 0) (v := ?_) rfl rfl (by kernel_rfl) (by kernel_rfl) (by kernel_rfl) (fun _ _ _ h => h) (by rfl) ?_ (by assumption) ?_
          rotate_left 1
          · intro w hSw
            (try dsimp only at hSw)
            go_simp
            try with_reducible rfl
          try simp only [List.setIfInBounds_toArray, List.set_cons_zero, List.set_cons_succ]
          refine takeH (i := 2) (v := ?_) rfl rfl (by kernel_rfl) (by kernel_rfl) (by kernel_rfl) (fun _ _ _ h => h) (by rfl) ?_ (by assumption) ?_
          rotate_left 1
          · intro w hSw
            (try dsimp only at hSw)
            go_simp
            try with_reducible rfl
          try simp only [List.setIfInBounds_toArray, List.set_cons_zero, List.set_cons_succ]
          refine wpAnyH_ready (rs := [1, 3]) (by kernel_rfl) (by simp) ?_
          refine AllReadyH.cons rfl (fun K hK => ?_) (AllReadyH.cons rfl (fun K hK => ?_) (AllReadyH.nil))
          · have q0 := D9d.out.box.1.1; have q1 := D9d.out.box.1.2.1; have q2 := D9d.out.box.1.2.2.1; have q3 := D9d.out.box.1.2.2.2.1; have q4 := D9d.out.box.1.2.2.2.2; have k0 := D9d.out.box.2.1; have k1 := D9d.out.box.2.2.1; have k2 := D9d.out.box.2.2.2.1; have k3 := D9d.out.box.2.2.2.2.1; have k4 := D9d.out.box.2.2.2.2.2
            go_simp
            refine hK.out _ _ ?_ (fun hNew => ?_)
            · exact trivial
            clear hK K hHeld
            have hHeld := hNew
            clear hNew
            try simp only [Act.put, List.setIfInBounds_toArray, List.set_cons_zero, List.set_cons_succ]
            refine wpAnyH_ready (rs := [3]) (by kernel_rfl) (by simp) ?_
            refine AllReadyH.cons rfl (fun K hK => ?_) (AllReadyH.nil)
            go_simp
            obtain ⟨q9, r9, hq9⟩ := D9d.out.rd
            refine (pick_any 11 _ B q9 (by omega) (by omega) r9).mono ?_
            rintro en w10 ⟨y, y0, y1, rfl, hr10, hg10⟩
            have D10 := Lib.hid (D9d.out.pick hr10 (by omega) hg10)
            have lt10 : w4.heap.size < w10.heap.size := D10.out.box.lt
            clear hr10 hg10 r9
            go_wp2_with fail
            refine hK.out _ _ ?_ (fun hNew => ?_)
            · exact trivial
            clear hK K hHeld
            have hHeld := hNew
            clear hNew
            try simp only [Act.put, List.setIfInBounds_toArray, List.set_cons_zero, List.set_cons_succ]
            refine wpAnyH_ready (rs := [4]) (by kernel_rfl) (by simp) ?_
            refine AllReadyH.cons rfl (fun K hK => ?_) (AllReadyH.nil)
            have D11 := Lib.hid (D10.out.alloc (.cells #[.int .i64 y] 3))
            go_simp
            refine hK.out _ _ ?_ (fun hNew => ?_)
            · exact trivial
            clear hK K hHeld
            have hHeld := hNew
            clear hNew
            try simp only [Act.put, List.setIfInBounds_toArray, List.set_cons_zero, List.set_cons_succ]
            refine wpAnyH_ready (rs := [5]) (by kernel_rfl) (by simp) ?_
            refine AllReadyH.cons rfl (fun K hK => ?_) (AllReadyH.nil)
            clear q0 q1 q2 q3 q4 k0 k1 k2 k3 k4
            refine wp_appI (.tmp 40) (.tmp 43) rfl (w.heap.size + 1) _ M (by simp [Act.eval]) D11.out.oM _ 1 [y] (by simp [Act.eval]) (pnews1 w10 y) (by simp) (by simp; omega) (by have := D10.out.lo; simp; omega) ?_
            intro v5 w5 own5 grow5
            obtain ⟨a5, c5, rfl, _, _⟩ := OwnI.tab own5
            replace own5 : OwnI w5 (w.heap.size + 1) (.slice a5 (M.length + 1) c5) (M ++ [y]) := (by rw [show M.length + 1 = (M ++ [y]).length by simp]; exact own5)
            have D12 := Lib.hid (D11.out.appM own5 grow5)
            clear own5 grow5
            refine hK.out _ _ ?_ (fun hNew => ?_)
            · exact trivial
            clear hK K hHeld
            have hHeld := hNew
            clear hNew
            try simp only [Act.put, List.setIfInBounds_toArray, List.set_cons_zero, List.set_cons_succ]
            refine takeH (i := 6) (v := ?_) rfl rfl (by kernel_rfl) (by kernel_rfl) (by kernel_rfl) (fun _ _ _ h => h) (by rfl) ?_ (by assumption) ?_
            rotate_left 1
            · intro w hSw
              (try dsimp only at hSw)
              go_simp
              try with_reducible rfl
            try simp only [List.setIfInBounds_toArray, List.set_cons_zero, List.set_cons_succ]
            refine wpAnyH_ready (rs := [7]) (by kernel_rfl) (by simp) ?_
            refine AllReadyH.cons rfl (fun K hK => ?_) (AllReadyH.nil)
            have q0 := D12.out.2.1.1.1; have q1 := D12.out.2.1.1.2.1; have q2 := D12.out.2.1.1.2.2.1; have q3 := D12.out.2.1.1.2.2.2.1; have q4 := D12.out.2.1.1.2.2.2.2; have k0 := D12.out.2.1.2.1; have k1 := D12.out.2.1.2.2.1; have k2 := D12.out.2.1.2.2.2.1; have k3 := D12.out.2.1.2.2.2.2.1; have k4 := D12.out.2.1.2.2.2.2.2
            have s0 := D12.out.2.2.1.1; have s1 := D12.out.2.2.1.2.1; have s2 := D12.out.2.2.1.2.2.1; have s3 := D12.out.2.2.1.2.2.2.1; have s4 := D12.out.2.2.1.2.2.2.2; have r0 := D12.out.2.2.2.1; have r1 := D12.out.2.2.2.2.1; have r2 := D12.out.2.2.2.2.2.1; have r3 := D12.out.2.2.2.2.2.2.1; have r4 := D12.out.2.2.2.2.2.2.2
            go_simp
            refine hK.out _ _ ?_ (fun hNew => ?_)
            · exact trivial
            clear hK K hHeld
            have hHeld := hNew
            clear hNew
            try simp only [Act.put, List.setIfInBounds_toArray, List.set_cons_zero, List.set_cons_succ]
            refine wpAnyH_done (by kernel_rfl) ?_ _
            have F13 := Lib.hid D12.out.1
            have lt5 : w4.heap.size < w5.heap.size := D12.out.2.1.lt
            clear D12
            obtain ⟨qz, rz1, rz2⟩ := F13.out.2.2.2.1
            have HF := Lib.hid (dr_fin (.int .i64 f) (.int .i64 b) (.int .i64 l) F13.out.2.1 F13.out.2.2.1 F13.out.1 rz1 F13.out.2.2.2.2 hBw)
            clear rz1
            go_wp2_with fail
            have HG := HF.out
            generalize hX : set5 (w5.setCell ⟨w4.heap.size, 4, none⟩ (.slice a5 (M.length + 1) c5)) w.heap.size (.int .i64 f) (.int .i64 b) (.slice (some ⟨w7.heap.size, 0, none⟩) 1 1) (.int .i64 l) (.slice a5 (M.length + 1) c5) = wF at HG
            unfold set5 at hX
            rw [hX]
            obtain ⟨⟨⟨g0, g1, g2, g3, g4⟩, _⟩, gO, gR, gG⟩ := HG
            exact bodyPost_ret (v := .agg #[.int .i64 f, .int .i64 b, .slice (some ⟨w7.heap.size, 0, none⟩) 1 1, .int .i64 l, .slice a5 (M.length + 1) c5]) (by simp [results, Tryd.results52, go_sem, g0, g1, g2, g3, g4]) rfl ⟨f, b, l, ([1 + z] : List Int), M ++ [y], _, _, qz, rfl, ⟨by (try simp) <;> omega, by (try simp) <;> omega⟩, ⟨HSM.out.1, HSM.out.2, iv_one z0 z1⟩, gO, gR, by omega, gG⟩
          · go_simp
            obtain ⟨q9, r9, hq9⟩ := D9d.out.rd
            refine (pick_any 11 _ B q9 (by omega) (by omega) r9).mono ?_
            rintro en w10 ⟨y, y0, y1, rfl, hr10, hg10⟩
            have D10 := Lib.hid (D9d.out.pick hr10 (by omega) hg10)
            have lt10 : w4.heap.size < w10.heap.size := D10.out.box.lt
            clear hr10 hg10 r9
            go_wp2_with fail
            refine hK.out _ _ ?_ (fun hNew => ?_)
            · exact trivial
            clear hK K hHeld
            have hHeld := hNew
            clear hNew
            try simp only [Act.put, List.setIfInBounds_toArray, List.set_cons_zero, List.set_cons_succ]
            refine wpAnyH_ready (rs := [1, 4]) (by kernel_rfl) (by simp) ?_
            refine AllReadyH.cons rfl (fun K hK => ?_) (AllReadyH.cons rfl (fun K hK => ?_) (AllReadyH.nil))
            · have q0 := D10.out.box.1.1; have q1 := D10.out.box.1.2.1; have q2 := D10.out.box.1.2.2.1; have q3 := D10.out.box.1.2.2.2.1; have q4 := D10.out.box.1.2.2.2.2; have k0 := D10.out.box.2.1; have k1 := D10.out.box.2.2.1; have k2 := D10.out.box.2.2.2.1; have k3 := D10.out.box.2.2.2.2.1; have k4 := D10.out.box.2.2.2.2.2
              go_simp
              refine hK.out _ _ ?_ (fun hNew => ?_)
              · exact trivial
              clear hK K hHeld
              have hHeld := hNew
              clear hNew
              try simp only [Act.put, List.setIfInBounds_toArray, List.set_cons_zero, List.set_cons_succ]
              refine wpAnyH_ready (rs := [4]) (by kernel_rfl) (by simp) ?_
              refine AllReadyH.cons rfl (fun K hK => ?_) (AllReadyH.nil)
              have D11 := Lib.hid (D10.out.alloc (.cells #[.int .i64 y] 3))
              go_simp
              refine hK.out _ _ ?_ (fun hNew => ?_)
              · exact trivial
              clear hK K hHeld
              have hHeld := hNew
              clear hNew
              try simp only [Act.put, List.setIfInBounds_toArray, List.set_cons_zero, List.set_cons_succ]
              refine wpAnyH_ready (rs := [5]) (by kernel_rfl) (by simp) ?_
              refine AllReadyH.cons rfl (fun K hK => ?_) (AllReadyH.nil)
              clear q0 q1 q2 q3 q4 k0 k1 k2 k3 k4
              refine wp_appI (.tmp 40) (.tmp 43) rfl (w.heap.size + 1) _ M (by simp [Act.eval]) D11.out.oM _ 1 [y] (by simp [Act.eval]) (pnews1 w10 y) (by simp) (by simp; omega) (by have := D10.out.lo; simp; omega) ?_
              intro v5 w5 own5 grow5
              obtain ⟨a5, c5, rfl, _, _⟩ := OwnI.tab own5
              replace own5 : OwnI w5 (w.heap.size + 1) (.slice a5 (M.length + 1) c5) (M ++ [y]) := (by rw [show M.length + 1 = (M ++ [y]).length by simp]; exact own5)
              have D12 := Lib.hid (D11.out.appM own5 grow5)
              clear own5 grow5
              refine hK.out _ _ ?_ (fun hNew => ?_)
              · exact trivial
              clear hK K hHeld
              have hHeld := hNew
              clear hNew
              try simp only [Act.put, List.setIfInBounds_toArray, List.set_cons_zero, List.set_cons_succ]
              refine takeH (i := 6) (v := ?_) rfl rfl (by kernel_rfl) (by kernel_rfl) (by kernel_rfl) (fun _ _ _ h => h) (by rfl) ?_ (by assumption) ?_
              rotate_left 1
              · intro w hSw
                (try dsimp only at hSw)
                go_simp
                try with_reducible rfl
              try simp only [List.setIfInBounds_toArray, List.set_cons_zero, List.set_cons_succ]
              refine wpAnyH_ready (rs := [7]) (by kernel_rfl) (by simp) ?_
              refine AllReadyH.cons rfl (fun K hK => ?_) (AllReadyH.nil)
              have q0 := D12.out.2.1.1.1; have q1 := D12.out.2.1.1.2.1; have q2 := D12.out.2.1.1.2.2.1; have q3 := D12.out.2.1.1.2.2.2.1; have q4 := D12.out.2.1.1.2.2.2.2; have k0 := D12.out.2.1.2.1; have k1 := D12.out.2.1.2.2.1; have k2 := D12.out.2.1.2.2.2.1; have k3 := D12.out.2.1.2.2.2.2.1; have k4 := D12.out.2.1.2.2.2.2.2
              have s0 := D12.out.2.2.1.1; have s1 := D12.out.2.2.1.2.1; have s2 := D12.out.2.2.1.2.2.1; have s3 := D12.out.2.2.1.2.2.2.1; have s4 := D12.out.2.2.1.2.2.2.2; have r0 := D12.out.2.2.2.1; have r1 := D12.out.2.2.2.2.1; have r2 := D12.out.2.2.2.2.2.1; have r3 := D12.out.2.2.2.2.2.2.1; have r4 := D12.out.2.2.2.2.2.2.2
              go_simp
              refine hK.out _ _ ?_ (fun hNew => ?_)
              · exact trivial
              clear hK K hHeld
              have hHeld := hNew
              clear hNew
              try simp only [Act.put, List.setIfInBounds_toArray, List.set_cons_zero, List.set_cons_succ]
              refine wpAnyH_done (by kernel_rfl) ?_ _
              have F13 := Lib.hid D12.out.1
              have lt5 : w4.heap.size < w5.heap.size := D12.out.2.1.lt
              clear D12
              obtain ⟨qz, rz1, rz2⟩ := F13.out.2.2.2.1
              have HF := Lib.hid (dr_fin (.int .i64 f) (.int .i64 b) (.int .i64 l) F13.out.2.1 F13.out.2.2.1 F13.out.1 rz1 F13.out.2.2.2.2 hBw)
              clear rz1
              go_wp2_with fail
              have HG := HF.out
              generalize hX : set5 (w5.setCell ⟨w4.heap.size, 4, none⟩ (.slice a5 (M.length + 1) c5)) w.heap.size (.int .i64 f) (.int .i64 b) (.slice (some ⟨w7.heap.size, 0, none⟩) 1 1) (.int .i64 l) (.slice a5 (M.length + 1) c5) = wF at HG
              unfold set5 at hX
              rw [hX]
              obtain ⟨⟨⟨g0, g1, g2, g3, g4⟩, _⟩, gO, gR, gG⟩ := HG
              exact bodyPost_ret (v := .agg #[.int .i64 f, .int .i64 b, .slice (some ⟨w7.heap.size, 0, none⟩) 1 1, .int .i64 l, .slice a5 (M.length + 1) c5]) (by simp [results, Tryd.results52, go_sem, g0, g1, g2, g3, g4]) rfl ⟨f, b, l, ([1 + z] : List Int), M ++ [y], _, _, qz, rfl, ⟨by (try simp) <;> omega, by (try simp) <;> omega⟩, ⟨HSM.out.1, HSM.out.2, iv_one z0 z1⟩, gO, gR, by omega, gG⟩
            · have D11 := Lib.hid (D10.out.alloc (.cells #[.int .i64 y] 3))
              go_simp
              refine hK.out _ _ ?_ (fun hNew => ?_)
              · exact trivial
              clear hK K hHeld
              have hHeld := hNew
              clear hNew
              try simp only [Act.put, List.setIfInBounds_toArray, List.set_cons_zero, List.set_cons_succ]
              refine wpAnyH_ready (rs := [1]) (by kernel_rfl) (by simp) ?_
              refine AllReadyH.cons rfl (fun K hK => ?_) (AllReadyH.nil)
              have q0 := D11.out.box.1.1; have q1 := D11.out.box.1.2.1; have q2 := D11.out.box.1.2.2.1; have q3 := D11.out.box.1.2.2.2.1; have q4 := D11.out.box.1.2.2.2.2; have k0 := D11.out.box.2.1; have k1 := D11.out.box.2.2.1; have k2 := D11.out.box.2.2.2.1; have k3 := D11.out.box.2.2.2.2.1; have k4 := D11.out.box.2.2.2.2.2
              go_simp
              refine hK.out _ _ ?_ (fun hNew => ?_)
              · exact trivial
              clear hK K hHeld
              have hHeld := hNew
              clear hNew
              try simp only [Act.put, List.setIfInBounds_toArray, List.set_cons_zero, List.set_cons_succ]
              refine wpAnyH_ready (rs := [5]) (by kernel_rfl) (by simp) ?_
              refine AllReadyH.cons rfl (fun K hK => ?_) (AllReadyH.nil)
              clear q0 q1 q2 q3 q4 k0 k1 k2 k3 k4
              refine wp_appI (.tmp 40) (.tmp 43) rfl (w.heap.size + 1) _ M (by simp [Act.eval]) D11.out.oM _ 1 [y] (by simp [Act.eval]) (pnews1 w10 y) (by simp) (by simp; omega) (by have := D10.out.lo; simp; omega) ?_
              intro v5 w5 own5 grow5
              obtain ⟨a5, c5, rfl, _, _⟩ := OwnI.tab own5
              replace own5 : OwnI w5 (w.heap.size + 1) (.slice a5 (M.length + 1) c5) (M ++ [y]) := (by rw [show M.length + 1 = (M ++ [y]).length by simp]; exact own5)
              have D12 := Lib.hid (D11.out.appM own5 grow5)
              clear own5 grow5
              refine hK.out _ _ ?_ (fun hNew => ?_)
              · exact trivial
              clear hK K hHeld
              have hHeld := hNew
              clear hNew
              try simp only [Act.put, List.setIfInBounds_toArray, List.set_cons_zero, List.set_cons_succ]
              refine takeH (i := 6) (v := ?_) rfl rfl (by kernel_rfl) (by kernel_rfl) (by kernel_rfl) (fun _ _ _ h => h) (by rfl) ?_ (by assumption) ?_
              rotate_left 1
              · intro w hSw
                (try dsimp only at hSw)
                go_simp
                try with_reducible rfl
              try simp only [List.setIfInBounds_toArray, List.set_cons_zero, List.set_cons_succ]
              refine wpAnyH_ready (rs := [7]) (by kernel_rfl) (by simp) ?_
              refine AllReadyH.cons rfl (fun K hK => ?_) (AllReadyH.nil)
              have q0 := D12.out.2.1.1.1; have q1 := D12.out.2.1.1.2.1; have q2 := D12.out.2.1.1.2.2.1; have q3 := D12.out.2.1.1.2.2.2.1; have q4 := D12.out.2.1.1.2.2.2.2; have k0 := D12.out.2.1.2.1; have k1 := D12.out.2.1.2.2.1; have k2 := D12.out.2.1.2.2.2.1; have k3 := D12.out.2.1.2.2.2.2.1; have k4 := D12.out.2.1.2.2.2.2.2
              have s0 := D12.out.2.2.1.1; have s1 := D12.out.2.2.1.2.1; have s2 := D12.out.2.2.1.2.2.1; have s3 := D12.out.2.2.1.2.2.2.1; have s4 := D12.out.2.2.1.2.2.2.2; have r0 := D12.out.2.2.2.1; have r1 := D12.out.2.2.2.2.1; have r2 := D12.out.2.2.2.2.2.1; have r3 := D12.out.2.2.2.2.2.2.1; have r4 := D12.out.2.2.2.2.2.2.2
              go_simp
              refine hK.out _ _ ?_ (fun hNew => ?_)
              · exact trivial
              clear hK K hHeld
              have hHeld := hNew
              clear hNew
              try simp only [Act.put, List.setIfInBounds_toArray, List.set_cons_zero, List.set_cons_succ]
              refine wpAnyH_done (by kernel_rfl) ?_ _
              have F13 := Lib.hid D12.out.1
              have lt5 : w4.heap.size < w5.heap.size := D12.out.2.1.lt
              clear D12
              obtain ⟨qz, rz1, rz2⟩ := F13.out.2.2.2.1
              have HF := Lib.hid (dr_fin (.int .i64 f) (.int .i64 b) (.int .i64 l) F13.out.2.1 F13.out.2.2.1 F13.out.1 rz1 F13.out.2.2.2.2 hBw)
              clear rz1
              go_wp2_with fail
              have HG := HF.out
              generalize hX : set5 (w5.setCell ⟨w4.heap.size, 4, none⟩ (.slice a5 (M.length + 1) c5)) w.heap.size (.int .i64 f) (.int .i64 b) (.slice (some ⟨w7.heap.size, 0, none⟩) 1 1) (.int .i64 l) (.slice a5 (M.length + 1) c5) = wF at HG
              unfold set5 at hX
              rw [hX]
              obtain ⟨⟨⟨g0, g1, g2, g3, g4⟩, _⟩, gO, gR, gG⟩ := HG
              exact bodyPost_ret (v := .agg #[.int .i64 f, .int .i64 b, .slice (some ⟨w7.heap.size, 0, none⟩) 1 1, .int .i64 l, .slice a5 (M.length + 1) c5]) (by simp [results, Tryd.results52, go_sem, g0, g1, g2, g3, g4]) rfl ⟨f, b, l, ([1 + z] : List Int), M ++ [y], _, _, qz, rfl, ⟨by (try simp) <;> omega, by (try simp) <;> omega⟩, ⟨HSM.out.1, HSM.out.2, iv_one z0 z1⟩, gO, gR, by omega, gG⟩
        · have hx1' : (x == 1) = false := by simpa using hx1
          have q0 := D9.out.box.1.1; have q1 := D9.out.box.1.2.1; have q2 := D9.out.box.1.2.2.1; have q3 := D9.out.box.1.2.2.2.1; have q4 := D9.out.box.1.2.2.2.2; have k0 := D9.out.box.2.1; have k1 := D9.out.box.2.2.1; have k2 := D9.out.box.2.2.2.1; have k3 := D9.out.box.2.2.2.2.1; have k4 := D9.out.box.2.2.2.2.2
          have s0 := D9.out.ans.1.1; have s1 := D9.out.ans.1.2.1; have s2 := D9.out.ans.1.2.2.1; have s3 := D9.out.ans.1.2.2.2.1; have s4 := D9.out.ans.1.2.2.2.2; have r0 := D9.out.ans.2.1; have r1 := D9.out.ans.2.2.1; have r2 := D9.out.ans.2.2.2.1; have r3 := D9.out.ans.2.2.2.2.1; have r4 := D9.out.ans.2.2.2.2.2
          have F9 := Lib.hid D9.out.fz
          obtain ⟨qz, rz1, rz2⟩ := F9.out.2.2.2.1
          have HF := Lib.hid (dr_fin (.int .i64 f) (.int .i64 b) (.int .i64 l) F9.out.2.1 F9.out.2.2.1 F9.out.1 rz1 F9.out.2.2.2.2 hBw)
          clear rz1
          go_wp2_with fail
          have HG := HF.out
          generalize hX : set5 (w9) w.heap.size (.int .i64 f) (.int .i64 b) (.slice (some ⟨w7.heap.size, 0, none⟩) 1 1) (.int .i64 l) (.slice a4 M.length c4) = wF at HG
          unfold set5 at hX
          rw [hX]
          obtain ⟨⟨⟨g0, g1, g2, g3, g4⟩, _⟩, gO, gR, gG⟩ := HG
          exact bodyPost_ret (v := .agg #[.int .i64 f, .int .i64 b, .slice (some ⟨w7.heap.size, 0, none⟩) 1 1, .int .i64 l, .slice a4 M.length c4]) (by simp [results, Tryd.results52, go_sem, g0, g1, g2, g3, g4]) rfl ⟨f, b, l, ([1 + z] : List Int), M, _, _, qz, rfl, ⟨by (try simp) <;> omega, by (try simp) <;> omega⟩, ⟨HSM.out.1, HSM.out.2, iv_one z0 z1⟩, gO, gR, by omega, gG⟩
    · go_wp2_with fail
      obtain ⟨q8, r8, hq8⟩ := D6.out.rd
      refine (pick_any 60 _ B q8 (by omega) (by omega) r8).mono ?_
      rintro en w9 ⟨x, x0, x1, rfl, hr9, hg9⟩
      have D9 := Lib.hid (D6.out.pick hr9 (by omega) hg9)
      clear hr9 hg9 r8
      have lt9 : w4.heap.size < w9.heap.size := D9.out.box.lt
      have ne9 : ¬ w4.heap.size = w.heap.size := by have := D9.out.lo; omega
      have ne9b : ¬ w.heap.size = w4.heap.size := by omega
      by_cases hx0 : x = 0
      · subst hx0
        have D10 := Lib.hid (D9.out.alloc (.cells #[.int .i64 (-1), .int .i64 10, .int .i64 9] 3))
        have c0 : (w9.alloc (.cells #[.int .i64 (-1), .int .i64 10, .int .i64 9] 3)).cell? ⟨w9.heap.size, 0, none⟩ = some (.int .i64 (-1)) := by simp
        have c1 : (w9.alloc (.cells #[.int .i64 (-1), .int .i64 10, .int .i64 9] 3)).cell? ⟨w9.heap.size, 1, none⟩ = some (.int .i64 10) := by simp
        have c2' : (w9.alloc (.cells #[.int .i64 (-1), .int .i64 10, .int .i64 9] 3)).cell? ⟨w9.heap.size, 2, none⟩ = some (.int .i64 9) := by simp
        have C := Lib.hid (And.intro c0 (And.intro c1 c2'))
        clear c0 c1 c2'
        go_wp2_with fail
        obtain ⟨q10, r10, hq10⟩ := D10.out.rd
        refine (pick_any 3 _ B q10 (by omega) (by omega) r10).mono ?_
        rintro en w11 ⟨y, y0, y1, rfl, hr11, hg11⟩
        have D11 := Lib.hid (D10.out.pick hr11 (by omega) hg11)
        have C11 := Lib.hid (And.intro (hg11.cell C.out.1 (by simp; omega)) (And.intro (hg11.cell C.out.2.1 (by simp; omega)) (hg11.cell C.out.2.2 (by simp; omega))))
        clear hr11 hg11 r10 C
        have hy : y = 0 ∨ y = 1 ∨ y = 2 := by omega
        obtain ⟨cc0, cc1, cc2⟩ := C11.out
        rcases hy with rfl | rfl | rfl
        · have D12 := Lib.hid (D11.out.setL (-1)).fz
          have q0 := D11.out.box.1.1; have q1 := D11.out.box.1.2.1; have q2 := D11.out.box.1.2.2.1; have q3 := D11.out.box.1.2.2.2.1; have q4 := D11.out.box.1.2.2.2.2; have k0 := D11.out.box.2.1; have k1 := D11.out.box.2.2.1; have k2 := D11.out.box.2.2.2.1; have k3 := D11.out.box.2.2.2.2.1; have k4 := D11.out.box.2.2.2.2.2
          have s0 := D11.out.ans.1.1; have s1 := D11.out.ans.1.2.1; have s2 := D11.out.ans.1.2.2.1; have s3 := D11.out.ans.1.2.2.2.1; have s4 := D11.out.ans.1.2.2.2.2; have r0 := D11.out.ans.2.1; have r1 := D11.out.ans.2.2.1; have r2 := D11.out.ans.2.2.2.1; have r3 := D11.out.ans.2.2.2.2.1; have r4 := D11.out.ans.2.2.2.2.2
          obtain ⟨qz, rz1, rz2⟩ := D12.out.2.2.2.1
          have HF := Lib.hid (dr_fin (.int .i64 f) (.int .i64 b) (.int .i64 (-1)) D12.out.2.1 D12.out.2.2.1 D12.out.1 rz1 D12.out.2.2.2.2 hBw)
          clear rz1
          go_wp2_with fail
          have HG := HF.out
          generalize hX : set5 (w11.setCell ⟨w4.heap.size, 3, none⟩ (.int .i64 (-1))) w.heap.size (.int .i64 f) (.int .i64 b) (.slice a2 0 c2) (.int .i64 (-1)) (.slice a4 M.length c4) = wF at HG
          unfold set5 at hX
          rw [hX]
          obtain ⟨⟨⟨g0, g1, g2, g3, g4⟩, _⟩, gO, gR, gG⟩ := HG
          exact bodyPost_ret (v := .agg #[.int .i64 f, .int .i64 b, .slice a2 0 c2, .int .i64 (-1), .slice a4 M.length c4]) (by simp [results, Tryd.results52, go_sem, g0, g1, g2, g3, g4]) rfl ⟨f, b, (-1), ([] : List Int), M, _, _, qz, rfl, ⟨by (try simp) <;> omega, by (try simp) <;> omega⟩, ⟨HSM.out.1, HSM.out.2, fun y hy => by cases hy⟩, gO, gR, by omega, gG⟩
        · have D12 := Lib.hid (D11.out.setL 10).fz
          have q0 := D11.out.box.1.1; have q1 := D11.out.box.1.2.1; have q2 := D11.out.box.1.2.2.1; have q3 := D11.out.box.1.2.2.2.1; have q4 := D11.out.box.1.2.2.2.2; have k0 := D11.out.box.2.1; have k1 := D11.out.box.2.2.1; have k2 := D11.out.box.2.2.2.1; have k3 := D11.out.box.2.2.2.2.1; have k4 := D11.out.box.2.2.2.2.2
          have s0 := D11.out.ans.1.1; have s1 := D11.out.ans.1.2.1; have s2 := D11.out.ans.1.2.2.1; have s3 := D11.out.ans.1.2.2.2.1; have s4 := D11.out.ans.1.2.2.2.2; have r0 := D11.out.ans.2.1; have r1 := D11.out.ans.2.2.1; have r2 := D11.out.ans.2.2.2.1; have r3 := D11.out.ans.2.2.2.2.1; have r4 := D11.out.ans.2.2.2.2.2
          obtain ⟨qz, rz1, rz2⟩ := D12.out.2.2.2.1
          have HF := Lib.hid (dr_fin (.int .i64 f) (.int .i64 b) (.int .i64 10) D12.out.2.1 D12.out.2.2.1 D12.out.1 rz1 D12.out.2.2.2.2 hBw)
          clear rz1
          go_wp2_with fail
          have HG := HF.out
          generalize hX : set5 (w11.setCell ⟨w4.heap.size, 3, none⟩ (.int .i64 10)) w.heap.size (.int .i64 f) (.int .i64 b) (.slice a2 0 c2) (.int .i64 10) (.slice a4 M.length c4) = wF at HG
          unfold set5 at hX
          rw [hX]
          obtain ⟨⟨⟨g0, g1, g2, g3, g4⟩, _⟩, gO, gR, gG⟩ := HG
          exact bodyPost_ret (v := .agg #[.int .i64 f, .int .i64 b, .slice a2 0 c2, .int .i64 10, .slice a4 M.length c4]) (by simp [results, Tryd.results52, go_sem, g0, g1, g2, g3, g4]) rfl ⟨f, b, 10, ([] : List Int), M, _, _, qz, rfl, ⟨by (try simp) <;> omega, by (try simp) <;> omega⟩, ⟨HSM.out.1, HSM.out.2, fun y hy => by cases hy⟩, gO, gR, by omega, gG⟩
        · have D12 := Lib.hid (D11.out.setL 9).fz
          have q0 := D11.out.box.1.1; have q1 := D11.out.box.1.2.1; have q2 := D11.out.box.1.2.2.1; have q3 := D11.out.box.1.2.2.2.1; have q4 := D11.out.box.1.2.2.2.2; have k0 := D11.out.box.2.1; have k1 := D11.out.box.2.2.1; have k2 := D11.out.box.2.2.2.1; have k3 := D11.out.box.2.2.2.2.1; have k4 := D11.out.box.2.2.2.2.2
          have s0 := D11.out.ans.1.1; have s1 := D11.out.ans.1.2.1; have s2 := D11.out.ans.1.2.2.1; have s3 := D11.out.ans.1.2.2.2.1; have s4 := D11.out.ans.1.2.2.2.2; have r0 := D11.out.ans.2.1; have r1 := D11.out.ans.2.2.1; have r2 := D11.out.ans.2.2.2.1; have r3 := D11.out.ans.2.2.2.2.1; have r4 := D11.out.ans.2.2.2.2.2
          obtain ⟨qz, rz1, rz2⟩ := D12.out.2.2.2.1
          have HF := Lib.hid (dr_fin (.int .i64 f) (.int .i64 b) (.int .i64 9) D12.out.2.1 D12.out.2.2.1 D12.out.1 rz1 D12.out.2.2.2.2 hBw)
          clear rz1
          go_wp2_with fail
          have HG := HF.out
          generalize hX : set5 (w11.setCell ⟨w4.heap.size, 3, none⟩ (.int .i64 9)) w.heap.size (.int .i64 f) (.int .i64 b) (.slice a2 0 c2) (.int .i64 9) (.slice a4 M.length c4) = wF at HG
          unfold set5 at hX
          rw [hX]
          obtain ⟨⟨⟨g0, g1, g2, g3, g4⟩, _⟩, gO, gR, gG⟩ := HG
          exact bodyPost_ret (v := .agg #[.int .i64 f, .int .i64 b, .slice a2 0 c2, .int .i64 9, .slice a4 M.length c4]) (by simp [results, Tryd.results52, go_sem, g0, g1, g2, g3, g4]) rfl ⟨f, b, 9, ([] : List Int), M, _, _, qz, rfl, ⟨by (try simp) <;> omega, by (try simp) <;> omega⟩, ⟨HSM.out.1, HSM.out.2, fun y hy => by cases hy⟩, gO, gR, by omega, gG⟩
      · have hx0' : (x == 0) = false := by simpa using hx0
        by_cases hx1 : x = 1
        · subst hx1
          have D9d := Lib.hid D9.out.drew
          go_wp2_with fail
          refine wp_region_held_drew (S := fun _ => True) (by kernel_rfl) ?_ (fun hHeld => ?_)
          · exact trivial
          refine takeH (i := 0) (v := ?_) rfl rfl (by kernel_rfl) (by kernel_rfl) (by kernel_rfl) (fun _ _ _ h => h) (by rfl) ?_ (by assumption) ?_
          rotate_left 1
          · intro w hSw
            (try dsimp only at hSw)
            go_simp
            try with_reducible rfl
          try simp only [List.setIfInBounds_toArray, List.set_cons_zero, List.set_cons_succ]
          refine takeH (i := 2) (v := ?_) rfl rfl (by kernel_rfl) (by kernel_rfl) (by kernel_rfl) (fun _ _ _ h => h) (by rfl) ?_ (by assumption) ?_
          rotate_left 1
          · intro w hSw
            (try dsimp only at hSw)
            go_simp
            try with_reducible rfl
          try simp only [List.setIfInBounds_toArray, List.set_cons_zero, List.set_cons_succ]
          refine wpAnyH_ready (rs := [1, 3]) (by kernel_rfl) (by simp) ?_
          refine AllReadyH.cons rfl (fun K hK => ?_) (AllReadyH.cons rfl (fun K hK => ?_) (AllReadyH.nil))
          · have q0 := D9d.out.box.1.1; have q1 := D9d.out.box.1.2.1; have q2 := D9d.out.box.1.2.2.1; have q3 := D9d.out.box.1.2.2.2.1; have q4 := D9d.out.box.1.2.2.2.2; have k0 := D9d.out.box.2.1; have k1 := D9d.out.box.2.2.1; have k2 := D9d.out.box.2.2.2.1; have k3 := D9d.out.box.2.2.2.2.1; have k4 := D9d.out.box.2.2.2.2.2
            go_simp
            refine hK.out _ _ ?_ (fun hNew => ?_)
            · exact trivial
            clear hK K hHeld
            have hHeld := hNew
            clear hNew
            try simp only [Act.put, List.setIfInBounds_toArray, List.set_cons_zero, List.set_cons_succ]
            refine wpAnyH_ready (rs := [3]) (by kernel_rfl) (by simp) ?_
            refine AllReadyH.cons rfl (fun K hK => ?_) (AllReadyH.nil)
            go_simp
            obtain ⟨q9, r9, hq9⟩ := D9d.out.rd
            refine (pick_any 11 _ B q9 (by omega) (by omega) r9).mono ?_
            rintro en w10 ⟨y, y0, y1, rfl, hr10, hg10⟩
            have D10 := Lib.hid (D9d.out.pick hr10 (by omega) hg10)
            have lt10 : w4.heap.size < w10.heap.size := D10.out.box.lt
            clear hr10 hg10 r9
            go_wp2_with fail
            refine hK.out _ _ ?_ (fun hNew => ?_)
            · exact trivial
            clear hK K hHeld
            have hHeld := hNew
            clear hNew
            try simp only [Act.put, List.setIfInBounds_toArray, List.set_cons_zero, List.set_cons_succ]
            refine wpAnyH_ready (rs := [4]) (by kernel_rfl) (by simp) ?_
            refine AllReadyH.cons rfl (fun K hK => ?_) (AllReadyH.nil)
            have D11 := Lib.hid (D10.out.alloc (.cells #[.int .i64 y] 3))
            go_simp
            refine hK.out _ _ ?_ (fun hNew => ?_)
            · exact trivial
            clear hK K hHeld
            have hHeld := hNew
            clear hNew
            try simp only [Act.put, List.setIfInBounds_toArray, List.set_cons_zero, List.set_cons_succ]
            refine wpAnyH_ready (rs := [5]) (by kernel_rfl) (by simp) ?_
            refine AllReadyH.cons rfl (fun K hK => ?_) (AllReadyH.nil)
            clear q0 q1 q2 q3 q4 k0 k1 k2 k3 k4
            refine wp_appI (.tmp 40) (.tmp 43) rfl (w.heap.size + 1) _ M (by simp [Act.eval]) D11.out.oM _ 1 [y] (by simp [Act.eval]) (pnews1 w10 y) (by simp) (by simp; omega) (by have := D10.out.lo; simp; omega) ?_
            intro v5 w5 own5 grow5
            obtain ⟨a5, c5, rfl, _, _⟩ := OwnI.tab own5
            replace own5 : OwnI w5 (w.heap.size + 1) (.slice a5 (M.length + 1) c5) (M ++ [y]) := (by rw [show M.length + 1 = (M ++ [y]).length by simp]; exact own5)
            have D12 := Lib.hid (D11.out.appM own5 grow5)
            clear own5 grow5
            refine hK.out _ _ ?_ (fun hNew => ?_)
            · exact trivial
            clear hK K hHeld
            have hHeld := hNew
            clear hNew
            try simp only [Act.put, List.setIfInBounds_toArray, List.set_cons_zero, List.set_cons_succ]
            refine takeH (i := 6) (v := ?_) rfl rfl (by kernel_rfl) (by kernel_rfl) (by kernel_rfl) (fun _ _ _ h => h) (by rfl) ?_ (by assumption) ?_
            rotate_left 1
            · intro w hSw
              (try dsimp only at hSw)
              go_simp
              try with_reducible rfl
            try simp only [List.setIfInBounds_toArray, List.set_cons_zero, List.set_cons_succ]
            refine wpAnyH_ready (rs := [7]) (by kernel_rfl) (by simp) ?_
            refine AllReadyH.cons rfl (fun K hK => ?_) (AllReadyH.nil)
            have q0 := D12.out.2.1.1.1; have q1 := D12.out.2.1.1.2.1; have q2 := D12.out.2.1.1.2.2.1; have q3 := D12.out.2.1.1.2.2.2.1; have q4 := D12.out.2.1.1.2.2.2.2; have k0 := D12.out.2.1.2.1; have k1 := D12.out.2.1.2.2.1; have k2 := D12.out.2.1.2.2.2.1; have k3 := D12.out.2.1.2.2.2.2.1; have k4 := D12.out.2.1.2.2.2.2.2
            have s0 := D12.out.2.2.1.1; have s1 := D12.out.2.2.1.2.1; have s2 := D12.out.2.2.1.2.2.1; have s3 := D12.out.2.2.1.2.2.2.1; have s4 := D12.out.2.2.1.2.2.2.2; have r0 := D12.out.2.2.2.1; have r1 := D12.out.2.2.2.2.1; have r2 := D12.out.2.2.2.2.2.1; have r3 := D12.out.2.2.2.2.2.2.1; have r4 := D12.out.2.2.2.2.2.2.2
            go_simp
            refine hK.out _ _ ?_ (fun hNew => ?_)
            · exact trivial
            clear hK K hHeld
            have hHeld := hNew
            clear hNew
            try simp only [Act.put, List.setIfInBounds_toArray, List.set_cons_zero, List.set_cons_succ]
            refine wpAnyH_done (by kernel_rfl) ?_ _
            have F13 := Lib.hid D12.out.1
            have lt5 : w4.heap.size < w5.heap.size := D12.out.2.1.lt
            clear D12
            obtain ⟨qz, rz1, rz2⟩ := F13.out.2.2.2.1
            have HF := Lib.hid (dr_fin (.int .i64 f) (.int .i64 b) (.int .i64 l) F13.out.2.1 F13.out.2.2.1 F13.out.1 rz1 F13.out.2.2.2.2 hBw)
            clear rz1
            go_wp2_with fail
            have HG := HF.out
            generalize hX : set5 (w5.setCell ⟨w4.heap.size, 4, none⟩ (.slice a5 (M.length + 1) c5)) w.heap.size (.int .i64 f) (.int .i64 b) (.slice a2 0 c2) (.int .i64 l) (.slice a5 (M.length + 1) c5) = wF at HG
            unfold set5 at hX
            rw [hX]
            obtain ⟨⟨⟨g0, g1, g2, g3, g4⟩, _⟩, gO, gR, gG⟩ := HG
            exact bodyPost_ret (v := .agg #[.int .i64 f, .int .i64 b, .slice a2 0 c2, .int .i64 l, .slice a5 (M.length + 1) c5]) (by simp [results, Tryd.results52, go_sem, g0, g1, g2, g3, g4]) rfl ⟨f, b, l, ([] : List Int), M ++ [y], _, _, qz, rfl, ⟨by (try simp) <;> omega, by (try simp) <;> omega⟩, ⟨HSM.out.1, HSM.out.2, fun y hy => by cases hy⟩, gO, gR, by omega, gG⟩
          · go_simp
            obtain ⟨q9, r9, hq9⟩ := D9d.out.rd
            refine (pick_any 11 _ B q9 (by omega) (by omega) r9).mono ?_
            rintro en w10 ⟨y, y0, y1, rfl, hr10, hg10⟩
            have D10 := Lib.hid (D9d.out.pick hr10 (by omega) hg10)
            have lt10 : w4.heap.size < w10.heap.size := D10.out.box.lt
            clear hr10 hg10 r9
            go_wp2_with fail
            refine hK.out _ _ ?_ (fun hNew => ?_)
            · exact trivial
            clear hK K hHeld
            have hHeld := hNew
            clear hNew
            try simp only [Act.put, List.setIfInBounds_toArray, List.set_cons_zero, List.set_cons_succ]
            refine wpAnyH_ready (rs := [1, 4]) (by kernel_rfl) (by simp) ?_
            refine AllReadyH.cons rfl (fun K hK => ?_) (AllReadyH.cons rfl (fun K hK => ?_) (AllReadyH.nil))
            · have q0 := D10.out.box.1.1; have q1 := D10.out.box.1.2.1; have q2 := D10.out.box.1.2.2.1; have q3 := D10.out.box.1.2.2.2.1; have q4 := D10.out.box.1.2.2.2.2; have k0 := D10.out.box.2.1; have k1 := D10.out.box.2.2.1; have k2 := D10.out.box.2.2.2.1; have k3 := D10.out.box.2.2.2.2.1; have k4 := D10.out.box.2.2.2.2.2
              go_simp
              refine hK.out _ _ ?_ (fun hNew => ?_)
              · exact trivial
              clear hK K hHeld
              have hHeld := hNew
              clear hNew
              try simp only [Act.put, List.setIfInBounds_toArray, List.set_cons_zero, List.set_cons_succ]
              refine wpAnyH_ready (rs := [4]) (by kernel_rfl) (by simp) ?_
              refine AllReadyH.cons rfl (fun K hK => ?_) (AllReadyH.nil)
              have D11 := Lib.hid (D10.out.alloc (.cells #[.int .i64 y] 3))
              go_simp
              refine hK.out _ _ ?_ (fun hNew => ?_)
              · exact trivial
              clear hK K hHeld
              have hHeld := hNew
              clear hNew
              try simp only [Act.put, List.setIfInBounds_toArray, List.set_cons_zero, List.set_cons_succ]
              refine wpAnyH_ready (rs := [5]) (by kernel_rfl) (by simp) ?_
              refine AllReadyH.cons rfl (fun K hK => ?_) (AllReadyH.nil)
              clear q0 q1 q2 q3 q4 k0 k1 k2 k3 k4
              refine wp_appI (.tmp 40) (.tmp 43) rfl (w.heap.size + 1) _ M (by simp [Act.eval]) D11.out.oM _ 1 [y] (by simp [Act.eval]) (pnews1 w10 y) (by simp) (by simp; omega) (by have := D10.out.lo; simp; omega) ?_
              intro v5 w5 own5 grow5
              obtain ⟨a5, c5, rfl, _, _⟩ := OwnI.tab own5
              replace own5 : OwnI w5 (w.heap.size + 1) (.slice a5 (M.length + 1) c5) (M ++ [y]) := (by rw [show M.length + 1 = (M ++ [y]).length by simp]; exact own5)
              have D12 := Lib.hid (D11.out.appM own5 grow5)
              clear own5 grow5
              refine hK.out _ _ ?_ (fun hNew => ?_)
              · exact trivial
              clear hK K hHeld
              have hHeld := hNew
              clear hNew
              try simp only [Act.put, List.setIfInBounds_toArray, List.set_cons_zero, List.set_cons_succ]
              refine takeH (i := 6) (v := ?_) rfl rfl (by kernel_rfl) (by kernel_rfl) (by kernel_rfl) (fun _ _ _ h => h) (by rfl) ?_ (by assumption) ?_
              rotate_left 1
              · intro w hSw
                (try dsimp only at hSw)
                go_simp
                try with_reducible rfl
              try simp only [List.setIfInBounds_toArray, List.set_cons_zero, List.set_cons_succ]
              refine wpAnyH_ready (rs := [7]) (by kernel_rfl) (by simp) ?_
              refine AllReadyH.cons rfl (fun K hK => ?_) (AllReadyH.nil)
              have q0 := D12.out.2.1.1.1; have q1 := D12.out.2.1.1.2.1; have q2 := D12.out.2.1.1.2.2.1; have q3 := D12.out.2.1.1.2.2.2.1; have q4 := D12.out.2.1.1.2.2.2.2; have k0 := D12.out.2.1.2.1; have k1 := D12.out.2.1.2.2.1; have k2 := D12.out.2.1.2.2.2.1; have k3 := D12.out.2.1.2.2.2.2.1; have k4 := D12.out.2.1.2.2.2.2.2
              have s0 := D12.out.2.2.1.1; have s1 := D12.out.2.2.1.2.1; have s2 := D12.out.2.2.1.2.2.1; have s3 := D12.out.2.2.1.2.2.2.1; have s4 := D12.out.2.2.1.2.2.2.2; have r0 := D12.out.2.2.2.1; have r1 := D12.out.2.2.2.2.1; have r2 := D12.out.2.2.2.2.2.1; have r3 := D12.out.2.2.2.2.2.2.1; have r4 := D12.out.2.2.2.2.2.2.2
              go_simp
              refine hK.out _ _ ?_ (fun hNew => ?_)
              · exact trivial
              clear hK K hHeld
              have hHeld := hNew
              clear hNew
              try simp only [Act.put, List.setIfInBounds_toArray, List.set_cons_zero, List.set_cons_succ]
              refine wpAnyH_done (by kernel_rfl) ?_ _
              have F13 := Lib.hid D12.out.1
              have lt5 : w4.heap.size < w5.heap.size := D12.out.2.1.lt
              clear D12
              obtain ⟨qz, rz1, rz2⟩ := F13.out.2.2.2.1
              have HF := Lib.hid (dr_fin (.int .i64 f) (.int .i64 b) (.int .i64 l) F13.out.2.1 F13.out.2.2.1 F13.out.1 rz1 F13.out.2.2.2.2 hBw)
              clear rz1
              go_wp2_with fail
              have HG := HF.out
              generalize hX : set5 (w5.setCell ⟨w4.heap.size, 4, none⟩ (.slice a5 (M.length + 1) c5)) w.heap.size (.int .i64 f) (.int .i64 b) (.slice a2 0 c2) (.int .i64 l) (.slice a5 (M.length + 1) c5) = wF at HG
              unfold set5 at hX
              rw [hX]
              obtain ⟨⟨⟨g0, g1, g2, g3, g4⟩, _⟩, gO, gR, gG⟩ := HG
              exact bodyPost_ret (v := .agg #[.int .i64 f, .int .i64 b, .slice a2 0 c2, .int .i64 l, .slice a5 (M.length + 1) c5]) (by simp [results, Tryd.results52, go_sem, g0, g1, g2, g3, g4]) rfl ⟨f, b, l, ([] : List Int), M ++ [y], _, _, qz, rfl, ⟨by (try simp) <;> omega, by (try simp) <;> omega⟩, ⟨HSM.out.1, HSM.out.2, fun y hy => by cases hy⟩, gO, gR, by omega, gG⟩
            · have D11 := Lib.hid (D10.out.alloc (.cells #[.int .i64 y] 3))
              go_simp
              refine hK.out _ _ ?_ (fun hNew => ?_)
              · exact trivial
              clear hK K hHeld
              have hHeld := hNew
              clear hNew
              try simp only [Act.put, List.setIfInBounds_toArray, List.set_cons_zero, List.set_cons_succ]
              refine wpAnyH_ready (rs := [1]) (by kernel_rfl) (by simp) ?_
              refine AllReadyH.cons rfl (fun K hK => ?_) (AllReadyH.nil)
              have q0 := D11.out.box.1.1; have q1 := D11.out.box.1.2.1; have q2 := D11.out.box.1.2.2.1; have q3 := D11.out.box.1.2.2.2.1; have q4 := D11.out.box.1.2.2.2.2; have k0 := D11.out.box.2.1; have k1 := D11.out.box.2.2.1; have k2 := D11.out.box.2.2.2.1; have k3 := D11.out.box.2.2.2.2.1; have k4 := D11.out.box.2.2.2.2.2
              go_simp
              refine hK.out _ _ ?_ (fun hNew => ?_)
              · exact trivial
              clear hK K hHeld
              have hHeld := hNew
              clear hNew
              try simp only [Act.put, List.setIfInBounds_toArray, List.set_cons_zero, List.set_cons_succ]
              refine wpAnyH_ready (rs := [5]) (by kernel_rfl) (by simp) ?_
              refine AllReadyH.cons rfl (fun K hK => ?_) (AllReadyH.nil)
              clear q0 q1 q2 q3 q4 k0 k1 k2 k3 k4
              refine wp_appI (.tmp 40) (.tmp 43) rfl (w.heap.size + 1) _ M (by simp [Act.eval]) D11.out.oM _ 1 [y] (by simp [Act.eval]) (pnews1 w10 y) (by simp) (by simp; omega) (by have := D10.out.lo; simp; omega) ?_
              intro v5 w5 own5 grow5
              obtain ⟨a5, c5, rfl, _, _⟩ := OwnI.tab own5
              replace own5 : OwnI w5 (w.heap.size + 1) (.slice a5 (M.length + 1) c5) (M ++ [y]) := (by rw [show M.length + 1 = (M ++ [y]).length by simp]; exact own5)
              have D12 := Lib.hid (D11.out.appM own5 grow5)
              clear own5 grow5
              refine hK.out _ _ ?_ (fun hNew => ?_)
              · exact trivial
              clear hK K hHeld
              have hHeld := hNew
              clear hNew
              try simp only [Act.put, List.setIfInBounds_toArray, List.set_cons_zero, List.set_cons_succ]
              refine takeH (i := 6) (v := ?_) rfl rfl (by kernel_rfl) (by kernel_rfl) (by kernel_rfl) (fun _ _ _ h => h) (by rfl) ?_ (by assumption) ?_
              rotate_left 1
              · intro w hSw
                (try dsimp only at hSw)
                go_simp
                try with_reducible rfl
              try simp only [List.setIfInBounds_toArray, List.set_cons_zero, List.set_cons_succ]
              refine wpAnyH_ready (rs := [7]) (by kernel_rfl) (by simp) ?_
              refine AllReadyH.cons rfl (fun K hK => ?_) (AllReadyH.nil)
              have q0 := D12.out.2.1.1.1; have q1 := D12.out.2.1.1.2.1; have q2 := D12.out.2.1.1.2.2.1; have q3 := D12.out.2.1.1.2.2.2.1; have q4 := D12.out.2.1.1.2.2.2.2; have k0 := D12.out.2.1.2.1; have k1 := D12.out.2.1.2.2.1; have k2 := D12.out.2.1.2.2.2.1; have k3 := D12.out.2.1.2.2.2.2.1; have k4 := D12.out.2.1.2.2.2.2.2
              have s0 := D12.out.2.2.1.1; have s1 := D12.out.2.2.1.2.1; have s2 := D12.out.2.2.1.2.2.1; have s3 := D12.out.2.2.1.2.2.2.1; have s4 := D12.out.2.2.1.2.2.2.2; have r0 := D12.out.2.2.2.1; have r1 := D12.out.2.2.2.2.1; have r2 := D12.out.2.2.2.2.2.1; have r3 := D12.out.2.2.2.2.2.2.1; have r4 := D12.out.2.2.2.2.2.2.2
              go_simp
              refine hK.out _ _ ?_ (fun hNew => ?_)
              · exact trivial
              clear hK K hHeld
              have hHeld := hNew
              clear hNew
              try simp only [Act.put, List.setIfInBounds_toArray, List.set_cons_zero, List.set_cons_succ]
              refine wpAnyH_done (by kernel_rfl) ?_ _
              have F13 := Lib.hid D12.out.1
              have lt5 : w4.heap.size < w5.heap.size := D12.out.2.1.lt
              clear D12
              obtain ⟨qz, rz1, rz2⟩ := F13.out.2.2.2.1
              have HF := Lib.hid (dr_fin (.int .i64 f) (.int .i64 b) (.int .i64 l) F13.out.2.1 F13.out.2.2.1 F13.out.1 rz1 F13.out.2.2.2.2 hBw)
              clear rz1
              go_wp2_with fail
              have HG := HF.out
              generalize hX : set5 (w5.setCell ⟨w4.heap.size, 4, none⟩ (.slice a5 (M.length + 1) c5)) w.heap.size (.int .i64 f) (.int .i64 b) (.slice a2 0 c2) (.int .i64 l) (.slice a5 (M.length + 1) c5) = wF at HG
              unfold set5 at hX
              rw [hX]
              obtain ⟨⟨⟨g0, g1, g2, g3, g4⟩, _⟩, gO, gR, gG⟩ := HG
              exact bodyPost_ret (v := .agg #[.int .i64 f, .int .i64 b, .slice a2 0 c2, .int .i64 l, .slice a5 (M.length + 1) c5]) (by simp [results, Tryd.results52, go_sem, g0, g1, g2, g3, g4]) rfl ⟨f, b, l, ([] : List Int), M ++ [y], _, _, qz, rfl, ⟨by (try simp) <;> omega, by (try simp) <;> omega⟩, ⟨HSM.out.1, HSM.out.2, fun y hy => by cases hy⟩, gO, gR, by omega, gG⟩
        · have hx1' : (x == 1) = false := by simpa using hx1
          have q0 := D9.out.box.1.1; have q1 := D9.out.box.1.2.1; have q2 := D9.out.box.1.2.2.1; have q3 := D9.out.box.1.2.2.2.1; have q4 := D9.out.box.1.2.2.2.2; have k0 := D9.out.box.2.1; have k1 := D9.out.box.2.2.1; have k2 := D9.out.box.2.2.2.1; have k3 := D9.out.box.2.2.2.2.1; have k4 := D9.out.box.2.2.2.2.2
          have s0 := D9.out.ans.1.1; have s1 := D9.out.ans.1.2.1; have s2 := D9.out.ans.1.2.2.1; have s3 := D9.out.ans.1.2.2.2.1; have s4 := D9.out.ans.1.2.2.2.2; have r0 := D9.out.ans.2.1; have r1 := D9.out.ans.2.2.1; have r2 := D9.out.ans.2.2.2.1; have r3 := D9.out.ans.2.2.2.2.1; have r4 := D9.out.ans.2.2.2.2.2
          have F9 := Lib.hid D9.out.fz
          obtain ⟨qz, rz1, rz2⟩ := F9.out.2.2.2.1
          have HF := Lib.hid (dr_fin (.int .i64 f) (.int .i64 b) (.int .i64 l) F9.out.2.1 F9.out.2.2.1 F9.out.1 rz1 F9.out.2.2.2.2 hBw)
          clear rz1
          go_wp2_with fail
          have HG := HF.out
          generalize hX : set5 (w9) w.heap.size (.int .i64 f) (.int .i64 b) (.slice a2 0 c2) (.int .i64 l) (.slice a4 M.length c4) = wF at HG
          unfold set5 at hX
          rw [hX]
          obtain ⟨⟨⟨g0, g1, g2, g3, g4⟩, _⟩, gO, gR, gG⟩ := HG
          exact bodyPost_ret (v := .agg #[.int .i64 f, .int .i64 b, .slice a2 0 c2, .int .i64 l, .slice a4 M.length c4]) (by simp [results, Tryd.results52, go_sem, g0, g1, g2, g3, g4]) rfl ⟨f, b, l, ([] : List Int), M, _, _, qz, rfl, ⟨by (try simp) <;> omega, by (try simp) <;> omega⟩, ⟨HSM.out.1, HSM.out.2, fun y hy => by cases hy⟩, gO, gR, by omega, gG⟩
  · have hP0' : ((P.length : Int) == 0) = false := beq_eq_false_iff_ne.2 (by omega)
    go_wp2_with fail
    generalize w4.alloc (.cells #[.int .i64 f, .int .i64 b, .slice a2 P.length c2, .int .i64 l, .slice a4 M.length c4] 27) = w5 at *
    obtain ⟨q8, r8, hq8⟩ := D4.out.rd
    refine (pick_any 60 _ B q8 (by omega) (by omega) r8).mono ?_
    rintro en w9 ⟨x, x0, x1, rfl, hr9, hg9⟩
    have D9 := Lib.hid (D4.out.pick hr9 (by omega) hg9)
    clear hr9 hg9 r8
    have lt9 : w4.heap.size < w9.heap.size := D9.out.box.lt
    have ne9 : ¬ w4.heap.size = w.heap.size := by have := D9.out.lo; omega
    have ne9b : ¬ w.heap.size = w4.heap.size := by omega
    by_cases hx0 : x = 0
    · subst hx0
      have D10 := Lib.hid (D9.out.alloc (.cells #[.int .i64 (-1), .int .i64 10, .int .i64 9] 3))
      have c0 : (w9.alloc (.cells #[.int .i64 (-1), .int .i64 10, .int .i64 9] 3)).cell? ⟨w9.heap.size, 0, none⟩ = some (.int .i64 (-1)) := by simp
      have c1 : (w9.alloc (.cells #[.int .i64 (-1), .int .i64 10, .int .i64 9] 3)).cell? ⟨w9.heap.size, 1, none⟩ = some (.int .i64 10) := by simp
      have c2' : (w9.alloc (.cells #[.int .i64 (-1), .int .i64 10, .int .i64 9] 3)).cell? ⟨w9.heap.size, 2, none⟩ = some (.int .i64 9) := by simp
      have C := Lib.hid (And.intro c0 (And.intro c1 c2'))
      clear c0 c1 c2'
      go_wp2_with fail
      obtain ⟨q10, r10, hq10⟩ := D10.out.rd
      refine (pick_any 3 _ B q10 (by omega) (by omega) r10).mono ?_
      rintro en w11 ⟨y, y0, y1, rfl, hr11, hg11⟩
      have D11 := Lib.hid (D10.out.pick hr11 (by omega) hg11)
      have C11 := Lib.hid (And.intro (hg11.cell C.out.1 (by simp; omega)) (And.intro (hg11.cell C.out.2.1 (by simp; omega)) (hg11.cell C.out.2.2 (by simp; omega))))
      clear hr11 hg11 r10 C
      have hy : y = 0 ∨ y = 1 ∨ y = 2 := by omega
      obtain ⟨cc0, cc1, cc2⟩ := C11.out
      rcases hy with rfl | rfl | rfl
      · have D12 := Lib.hid (D11.out.setL (-1)).fz
        have q0 := D11.out.box.1.1; have q1 := D11.out.box.1.2.1; have q2 := D11.out.box.1.2.2.1; have q3 := D11.out.box.1.2.2.2.1; have q4 := D11.out.box.1.2.2.2.2; have k0 := D11.out.box.2.1; have k1 := D11.out.box.2.2.1; have k2 := D11.out.box.2.2.2.1; have k3 := D11.out.box.2.2.2.2.1; have k4 := D11.out.box.2.2.2.2.2
        have s0 := D11.out.ans.1.1; have s1 := D11.out.ans.1.2.1; have s2 := D11.out.ans.1.2.2.1; have s3 := D11.out.ans.1.2.2.2.1; have s4 := D11.out.ans.1.2.2.2.2; have r0 := D11.out.ans.2.1; have r1 := D11.out.ans.2.2.1; have r2 := D11.out.ans.2.2.2.1; have r3 := D11.out.ans.2.2.2.2.1; have r4 := D11.out.ans.2.2.2.2.2
        obtain ⟨qz, rz1, rz2⟩ := D12.out.2.2.2.1
        have HF := Lib.hid (dr_fin (.int .i64 f) (.int .i64 b) (.int .i64 (-1)) D12.out.2.1 D12.out.2.2.1 D12.out.1 rz1 D12.out.2.2.2.2 hBw)
        clear rz1
        go_wp2_with fail
        have HG := HF.out
        generalize hX : set5 (w11.setCell ⟨w4.heap.size, 3, none⟩ (.int .i64 (-1))) w.heap.size (.int .i64 f) (.int .i64 b) (.slice a2 P.length c2) (.int .i64 (-1)) (.slice a4 M.length c4) = wF at HG
        unfold set5 at hX
        rw [hX]
        obtain ⟨⟨⟨g0, g1, g2, g3, g4⟩, _⟩, gO, gR, gG⟩ := HG
        exact bodyPost_ret (v := .agg #[.int .i64 f, .int .i64 b, .slice a2 P.length c2, .int .i64 (-1), .slice a4 M.length c4]) (by simp [results, Tryd.results52, go_sem, g0, g1, g2, g3, g4]) rfl ⟨f, b, (-1), P, M, _, _, qz, rfl, ⟨by (try simp) <;> omega, by (try simp) <;> omega⟩, ⟨HSM.out.1, HSM.out.2, HIP.out⟩, gO, gR, by omega, gG⟩
      · have D12 := Lib.hid (D11.out.setL 10).fz
        have q0 := D11.out.box.1.1; have q1 := D11.out.box.1.2.1; have q2 := D11.out.box.1.2.2.1; have q3 := D11.out.box.1.2.2.2.1; have q4 := D11.out.box.1.2.2.2.2; have k0 := D11.out.box.2.1; have k1 := D11.out.box.2.2.1; have k2 := D11.out.box.2.2.2.1; have k3 := D11.out.box.2.2.2.2.1; have k4 := D11.out.box.2.2.2.2.2
        have s0 := D11.out.ans.1.1; have s1 := D11.out.ans.1.2.1; have s2 := D11.out.ans.1.2.2.1; have s3 := D11.out.ans.1.2.2.2.1; have s4 := D11.out.ans.1.2.2.2.2; have r0 := D11.out.ans.2.1; have r1 := D11.out.ans.2.2.1; have r2 := D11.out.ans.2.2.2.1; have r3 := D11.out.ans.2.2.2.2.1; have r4 := D11.out.ans.2.2.2.2.2
        obtain ⟨qz, rz1, rz2⟩ := D12.out.2.2.2.1
        have HF := Lib.hid (dr_fin (.int .i64 f) (.int .i64 b) (.int .i64 10) D12.out.2.1 D12.out.2.2.1 D12.out.1 rz1 D12.out.2.2.2.2 hBw)
        clear rz1
        go_wp2_with fail
        have HG := HF.out
        generalize hX : set5 (w11.setCell ⟨w4.heap.size, 3, none⟩ (.int .i64 10)) w.heap.size (.int .i64 f) (.int .i64 b) (.slice a2 P.length c2) (.int .i64 10) (.slice a4 M.length c4) = wF at HG
        unfold set5 at hX
        rw [hX]
        obtain ⟨⟨⟨g0, g1, g2, g3, g4⟩, _⟩, gO, gR, gG⟩ := HG
        exact bodyPost_ret (v := .agg #[.int .i64 f, .int .i64 b, .slice a2 P.length c2, .int .i64 10, .slice a4 M.length c4]) (by simp [results, Tryd.results52, go_sem, g0, g1, g2, g3, g4]) rfl ⟨f, b, 10, P, M, _, _, qz, rfl, ⟨by (try simp) <;> omega, by (try simp) <;> omega⟩, ⟨HSM.out.1, HSM.out.2, HIP.out⟩, gO, gR, by omega, gG⟩
      · have D12 := Lib.hid (D11.out.setL 9).fz
        have q0 := D11.out.box.1.1; have q1 := D11.out.box.1.2.1; have q2 := D11.out.box.1.2.2.1; have q3 := D11.out.box.1.2.2.2.1; have q4 := D11.out.box.1.2.2.2.2; have k0 := D11.out.box.2.1; have k1 := D11.out.box.2.2.1; have k2 := D11.out.box.2.2.2.1; have k3 := D11.out.box.2.2.2.2.1; have k4 := D11.out.box.2.2.2.2.2
        have s0 := D11.out.ans.1.1; have s1 := D11.out.ans.1.2.1; have s2 := D11.out.ans.1.2.2.1; have s3 := D11.out.ans.1.2.2.2.1; have s4 := D11.out.ans.1.2.2.2.2; have r0 := D11.out.ans.2.1; have r1 := D11.out.ans.2.2.1; have r2 := D11.out.ans.2.2.2.1; have r3 := D11.out.ans.2.2.2.2.1; have r4 := D11.out.ans.2.2.2.2.2
        obtain ⟨qz, rz1, rz2⟩ := D12.out.2.2.2.1
        have HF := Lib.hid (dr_fin (.int .i64 f) (.int .i64 b) (.int .i64 9) D12.out.2.1 D12.out.2.2.1 D12.out.1 rz1 D12.out.2.2.2.2 hBw)
        clear rz1
        go_wp2_with fail
        have HG := HF.out
        generalize hX : set5 (w11.setCell ⟨w4.heap.size, 3, none⟩ (.int .i64 9)) w.heap.size (.int .i64 f) (.int .i64 b) (.slice a2 P.length c2) (.int .i64 9) (.slice a4 M.length c4) = wF at HG
        unfold set5 at hX
        rw [hX]
        obtain ⟨⟨⟨g0, g1, g2, g3, g4⟩, _⟩, gO, gR, gG⟩ := HG
        exact bodyPost_ret (v := .agg #[.int .i64 f, .int .i64 b, .slice a2 P.length c2, .int .i64 9, .slice a4 M.length c4]) (by simp [results, Tryd.results52, go_sem, g0, g1, g2, g3, g4]) rfl ⟨f, b, 9, P, M, _, _, qz, rfl, ⟨by (try simp) <;> omega, by (try simp) <;> omega⟩, ⟨HSM.out.1, HSM.out.2, HIP.out⟩, gO, gR, by omega, gG⟩
    · have hx0' : (x == 0) = false := by simpa using hx0
      by_cases hx1 : x = 1
      · subst hx1
        have D9d := Lib.hid D9.out.drew
        go_wp2_with fail
        refine wp_region_held_drew (S := fun _ => True) (by kernel_rfl) ?_ (fun hHeld => ?_)
        · exact trivial
        refine takeH (i := 0) (v := ?_) rfl rfl (by kernel_rfl) (by kernel_rfl) (by kernel_rfl) (fun _ _ _ h => h) (by rfl) ?_ (by assumption) ?_
        rotate_left 1
        · intro w hSw
          (try dsimp only at hSw)
          go_simp
          try with_reducible rfl
        try simp only [List.setIfInBounds_toArray, List.set_cons_zero, List.set_cons_succ]
        refine takeH (i := 2) (v := ?_) rfl rfl (by kernel_rfl) (by kernel_rfl) (by kernel_rfl) (fun _ _ _ h => h) (by rfl) ?_ (by assumption) ?_
        rotate_left 1
        · intro w hSw
          (try dsimp only at hSw)
          go_simp
          try with_reducible rfl
        try simp only [List.setIfInBounds_toArray, List.set_cons_zero, List.set_cons_succ]
        refine wpAnyH_ready (rs := [1, 3]) (by kernel_rfl) (by simp) ?_
        refine AllReadyH.cons rfl (fun K hK => ?_) (AllReadyH.cons rfl (fun K hK => ?_) (AllReadyH.nil))
        · have q0 := D9d.out.box.1.1; have q1 := D9d.out.box.1.2.1; have q2 := D9d.out.box.1.2.2.1; have q3 := D9d.out.box.1.2.2.2.1; have q4 := D9d.out.box.1.2.2.2.2; have k0 := D9d.out.box.2.1; have k1 := D9d.out.box.2.2.1; have k2 := D9d.out.box.2.2.2.1; have k3 := D9d.out.box.2.2.2.2.1; have k4 := D9d.out.box.2.2.2.2.2
          go_simp
          refine hK.out _ _ ?_ (fun hNew => ?_)
          · exact trivial
          clear hK K hHeld
          have hHeld := hNew
          clear hNew
          try simp only [Act.put, List.setIfInBounds_toArray, List.set_cons_zero, List.set_cons_succ]
          refine wpAnyH_ready (rs := [3]) (by kernel_rfl) (by simp) ?_
          refine AllReadyH.cons rfl (fun K hK => ?_) (AllReadyH.nil)
          go_simp
          obtain ⟨q9, r9, hq9⟩ := D9d.out.rd
          refine (pick_any 11 _ B q9 (by omega) (by omega) r9).mono ?_
          rintro en w10 ⟨y, y0, y1, rfl, hr10, hg10⟩
          have D10 := Lib.hid (D9d.out.pick hr10 (by omega) hg10)
          have lt10 : w4.heap.size < w10.heap.size := D10.out.box.lt
          clear hr10 hg10 r9
          go_wp2_with fail
          refine hK.out _ _ ?_ (fun hNew => ?_)
          · exact trivial
          clear hK K hHeld
          have hHeld := hNew
          clear hNew
          try simp only [Act.put, List.setIfInBounds_toArray, List.set_cons_zero, List.set_cons_succ]
          refine wpAnyH_ready (rs := [4]) (by kernel_rfl) (by simp) ?_
          refine AllReadyH.cons rfl (fun K hK => ?_) (AllReadyH.nil)
          have D11 := Lib.hid (D10.out.alloc (.cells #[.int .i64 y] 3))
          go_simp
          refine hK.out _ _ ?_ (fun hNew => ?_)
          · exact trivial
          clear hK K hHeld
          have hHeld := hNew
          clear hNew
          try simp only [Act.put, List.setIfInBounds_toArray, List.set_cons_zero, List.set_cons_succ]
          refine wpAnyH_ready (rs := [5]) (by kernel_rfl) (by simp) ?_
          refine AllReadyH.cons rfl (fun K hK => ?_) (AllReadyH.nil)
          clear q0 q1 q2 q3 q4 k0 k1 k2 k3 k4
          refine wp_appI (.tmp 40) (.tmp 43) rfl (w.heap.size + 1) _ M (by simp [Act.eval]) D11.out.oM _ 1 [y] (by simp [Act.eval]) (pnews1 w10 y) (by simp) (by simp; omega) (by have := D10.out.lo; simp; omega) ?_
          intro v5 w5 own5 grow5
          obtain ⟨a5, c5, rfl, _, _⟩ := OwnI.tab own5
          replace own5 : OwnI w5 (w.heap.size + 1) (.slice a5 (M.length + 1) c5) (M ++ [y]) := (by rw [show M.length + 1 = (M ++ [y]).length by simp]; exact own5)
          have D12 := Lib.hid (D11.out.appM own5 grow5)
          clear own5 grow5
          refine hK.out _ _ ?_ (fun hNew => ?_)
          · exact trivial
          clear hK K hHeld
          have hHeld := hNew
          clear hNew
          try simp only [Act.put, List.setIfInBounds_toArray, List.set_cons_zero, List.set_cons_succ]
          refine takeH (i := 6) (v := ?_) rfl rfl (by kernel_rfl) (by kernel_rfl) (by kernel_rfl) (fun _ _ _ h => h) (by rfl) ?_ (by assumption) ?_
          rotate_left 1
          · intro w hSw
            (try dsimp only at hSw)
            go_simp
            try with_reducible rfl
          try simp only [List.setIfInBounds_toArray, List.set_cons_zero, List.set_cons_succ]
          refine wpAnyH_ready (rs := [7]) (by kernel_rfl) (by simp) ?_
          refine AllReadyH.cons rfl (fun K hK => ?_) (AllReadyH.nil)
          have q0 := D12.out.2.1.1.1; have q1 := D12.out.2.1.1.2.1; have q2 := D12.out.2.1.1.2.2.1; have q3 := D12.out.2.1.1.2.2.2.1; have q4 := D12.out.2.1.1.2.2.2.2; have k0 := D12.out.2.1.2.1; have k1 := D12.out.2.1.2.2.1; have k2 := D12.out.2.1.2.2.2.1; have k3 := D12.out.2.1.2.2.2.2.1; have k4 := D12.out.2.1.2.2.2.2.2
          have s0 := D12.out.2.2.1.1; have s1 := D12.out.2.2.1.2.1; have s2 := D12.out.2.2.1.2.2.1; have s3 := D12.out.2.2.1.2.2.2.1; have s4 := D12.out.2.2.1.2.2.2.2; have r0 := D12.out.2.2.2.1; have r1 := D12.out.2.2.2.2.1; have r2 := D12.out.2.2.2.2.2.1; have r3 := D12.out.2.2.2.2.2.2.1; have r4 := D12.out.2.2.2.2.2.2.2
          go_simp
          refine hK.out _ _ ?_ (fun hNew => ?_)
          · exact trivial
          clear hK K hHeld
          have hHeld := hNew
          clear hNew
          try simp only [Act.put, List.setIfInBounds_toArray, List.set_cons_zero, List.set_cons_succ]
          refine wpAnyH_done (by kernel_rfl) ?_ _
          have F13 := Lib.hid D12.out.1
          have lt5 : w4.heap.size < w5.heap.size := D12.out.2.1.lt
          clear D12
          obtain ⟨qz, rz1, rz2⟩ := F13.out.2.2.2.1
          have HF := Lib.hid (dr_fin (.int .i64 f) (.int .i64 b) (.int .i64 l) F13.out.2.1 F13.out.2.2.1 F13.out.1 rz1 F13.out.2.2.2.2 hBw)
          clear rz1
          go_wp2_with fail
          have HG := HF.out
          generalize hX : set5 (w5.setCell ⟨w4.heap.size, 4, none⟩ (.slice a5 (M.length + 1) c5)) w.heap.size (.int .i64 f) (.int .i64 b) (.slice a2 P.length c2) (.int .i64 l) (.slice a5 (M.length + 1) c5) = wF at HG
          unfold set5 at hX
          rw [hX]
          obtain ⟨⟨⟨g0, g1, g2, g3, g4⟩, _⟩, gO, gR, gG⟩ := HG
          exact bodyPost_ret (v := .agg #[.int .i64 f, .int .i64 b, .slice a2 P.length c2, .int .i64 l, .slice a5 (M.length + 1) c5]) (by simp [results, Tryd.results52, go_sem, g0, g1, g2, g3, g4]) rfl ⟨f, b, l, P, M ++ [y], _, _, qz, rfl, ⟨by (try simp) <;> omega, by (try simp) <;> omega⟩, ⟨HSM.out.1, HSM.out.2, HIP.out⟩, gO, gR, by omega, gG⟩
        · go_simp
          obtain ⟨q9, r9, hq9⟩ := D9d.out.rd
          refine (pick_any 11 _ B q9 (by omega) (by omega) r9).mono ?_
          rintro en w10 ⟨y, y0, y1, rfl, hr10, hg10⟩
          have D10 := Lib.hid (D9d.out.pick hr10 (by omega) hg10)
          have lt10 : w4.heap.size < w10.heap.size := D10.out.box.lt
          clear hr10 hg10 r9
          go_wp2_with fail
          refine hK.out _ _ ?_ (fun hNew => ?_)
          · exact trivial
          clear hK K hHeld
          have hHeld := hNew
          clear hNew
          try simp only [Act.put, List.setIfInBounds_toArray, List.set_cons_zero, List.set_cons_succ]
          refine wpAnyH_ready (rs := [1, 4]) (by kernel_rfl) (by simp) ?_
          refine AllReadyH.cons rfl (fun K hK => ?_) (AllReadyH.cons rfl (fun K hK => ?_) (AllReadyH.nil))
          · have q0 := D10.out.box.1.1; have q1 := D10.out.box.1.2.1; have q2 := D10.out.box.1.2.2.1; have q3 := D10.out.box.1.2.2.2.1; have q4 := D10.out.box.1.2.2.2.2; have k0 := D10.out.box.2.1; have k1 := D10.out.box.2.2.1; have k2 := D10.out.box.2.2.2.1; have k3 := D10.out.box.2.2.2.2.1; have k4 := D10.out.box.2.2.2.2.2
            go_simp
            refine hK.out _ _ ?_ (fun hNew => ?_)
            · exact trivial
            clear hK K hHeld
            have hHeld := hNew
            clear hNew
            try simp only [Act.put, List.setIfInBounds_toArray, List.set_cons_zero, List.set_cons_succ]
            refine wpAnyH_ready (rs := [4]) (by kernel_rfl) (by simp) ?_
            refine AllReadyH.cons rfl (fun K hK => ?_) (AllReadyH.nil)
            have D11 := Lib.hid (D10.out.alloc (.cells #[.int .i64 y] 3))
            go_simp
            refine hK.out _ _ ?_ (fun hNew => ?_)
            · exact trivial
            clear hK K hHeld
            have hHeld := hNew
            clear hNew
            try simp only [Act.put, List.setIfInBounds_toArray, List.set_cons_zero, List.set_cons_succ]
            refine wpAnyH_ready (rs := [5]) (by kernel_rfl) (by simp) ?_
            refine AllReadyH.cons rfl (fun K hK => ?_) (AllReadyH.nil)
            clear q0 q1 q2 q3 q4 k0 k1 k2 k3 k4
            refine wp_appI (.tmp 40) (.tmp 43) rfl (w.heap.size + 1) _ M (by simp [Act.eval]) D11.out.oM _ 1 [y] (by simp [Act.eval]) (pnews1 w10 y) (by simp) (by simp; omega) (by have := D10.out.lo; simp; omega) ?_
            intro v5 w5 own5 grow5
            obtain ⟨a5, c5, rfl, _, _⟩ := OwnI.tab own5
            replace own5 : OwnI w5 (w.heap.size + 1) (.slice a5 (M.length + 1) c5) (M ++ [y]) := (by rw [show M.length + 1 = (M ++ [y]).length by simp]; exact own5)
            have D12 := Lib.hid (D11.out.appM own5 grow5)
            clear own5 grow5
            refine hK.out _ _ ?_ (fun hNew => ?_)
            · exact trivial
            clear hK K hHeld
            have hHeld := hNew
            clear hNew
            try simp only [Act.put, List.setIfInBounds_toArray, List.set_cons_zero, List.set_cons_succ]
            refine takeH (i := 6) (v := ?_) rfl rfl (by kernel_rfl) (by kernel_rfl) (by kernel_rfl) (fun _ _ _ h => h) (by rfl) ?_ (by assumption) ?_
            rotate_left 1
            · intro w hSw
              (try dsimp only at hSw)
              go_simp
              try with_reducible rfl
            try simp only [List.setIfInBounds_toArray, List.set_cons_zero, List.set_cons_succ]
            refine wpAnyH_ready (rs := [7]) (by kernel_rfl) (by simp) ?_
            refine AllReadyH.cons rfl (fun K hK => ?_) (AllReadyH.nil)
            have q0 := D12.out.2.1.1.1; have q1 := D12.out.2.1.1.2.1; have q2 := D12.out.2.1.1.2.2.1; have q3 := D12.out.2.1.1.2.2.2.1; have q4 := D12.out.2.1.1.2.2.2.2; have k0 := D12.out.2.1.2.1; have k1 := D12.out.2.1.2.2.1; have k2 := D12.out.2.1.2.2.2.1; have k3 := D12.out.2.1.2.2.2.2.1; have k4 := D12.out.2.1.2.2.2.2.2
            have s0 := D12.out.2.2.1.1; have s1 := D12.out.2.2.1.2.1; have s2 := D12.out.2.2.1.2.2.1; have s3 := D12.out.2.2.1.2.2.2.1; have s4 := D12.out.2.2.1.2.2.2.2; have r0 := D12.out.2.2.2.1; have r1 := D12.out.2.2.2.2.1; have r2 := D12.out.2.2.2.2.2.1; have r3 := D12.out.2.2.2.2.2.2.1; have r4 := D12.out.2.2.2.2.2.2.2
            go_simp
            refine hK.out _ _ ?_ (fun hNew => ?_)
            · exact trivial
            clear hK K hHeld
            have hHeld := hNew
            clear hNew
            try simp only [Act.put, List.setIfInBounds_toArray, List.set_cons_zero, List.set_cons_succ]
            refine wpAnyH_done (by kernel_rfl) ?_ _
            have F13 := Lib.hid D12.out.1
            have lt5 : w4.heap.size < w5.heap.size := D12.out.2.1.lt
            clear D12
            obtain ⟨qz, rz1, rz2⟩ := F13.out.2.2.2.1
            have HF := Lib.hid (dr_fin (.int .i64 f) (.int .i64 b) (.int .i64 l) F13.out.2.1 F13.out.2.2.1 F13.out.1 rz1 F13.out.2.2.2.2 hBw)
            clear rz1
            go_wp2_with fail
            have HG := HF.out
            generalize hX : set5 (w5.setCell ⟨w4.heap.size, 4, none⟩ (.slice a5 (M.length + 1) c5)) w.heap.size (.int .i64 f) (.int .i64 b) (.slice a2 P.length c2) (.int .i64 l) (.slice a5 (M.length + 1) c5) = wF at HG
            unfold set5 at hX
            rw [hX]
            obtain ⟨⟨⟨g0, g1, g2, g3, g4⟩, _⟩, gO, gR, gG⟩ := HG
            exact bodyPost_ret (v := .agg #[.int .i64 f, .int .i64 b, .slice a2 P.length c2, .int .i64 l, .slice a5 (M.length + 1) c5]) (by simp [results, Tryd.results52, go_sem, g0, g1, g2, g3, g4]) rfl ⟨f, b, l, P, M ++ [y], _, _, qz, rfl, ⟨by (try simp) <;> omega, by (try simp) <;> omega⟩, ⟨HSM.out.1, HSM.out.2, HIP.out⟩, gO, gR, by omega, gG⟩
          · have D11 := Lib.hid (D10.out.alloc (.cells #[.int .i64 y] 3))
            go_simp
            refine hK.out _ _ ?_ (fun hNew => ?_)
            · exact trivial
            clear hK K hHeld
            have hHeld := hNew
            clear hNew
            try simp only [Act.put, List.setIfInBounds_toArray, List.set_cons_zero, List.set_cons_succ]
            refine wpAnyH_ready (rs := [1]) (by kernel_rfl) (by simp) ?_
            refine AllReadyH.cons rfl (fun K hK => ?_) (AllReadyH.nil)
            have q0 := D11.out.box.1.1; have q1 := D11.out.box.1.2.1; have q2 := D11.out.box.1.2.2.1; have q3 := D11.out.box.1.2.2.2.1; have q4 := D11.out.box.1.2.2.2.2; have k0 := D11.out.box.2.1; have k1 := D11.out.box.2.2.1; have k2 := D11.out.box.2.2.2.1; have k3 := D11.out.box.2.2.2.2.1; have k4 := D11.out.box.2.2.2.2.2
            go_simp
            refine hK.out _ _ ?_ (fun hNew => ?_)
            · exact trivial
            clear hK K hHeld
            have hHeld := hNew
            clear hNew
            try simp only [Act.put, List.setIfInBounds_toArray, List.set_cons_zero, List.set_cons_succ]
            refine wpAnyH_ready (rs := [5]) (by kernel_rfl) (by simp) ?_
            refine AllReadyH.cons rfl (fun K hK => ?_) (AllReadyH.nil)
            clear q0 q1 q2 q3 q4 k0 k1 k2 k3 k4
            refine wp_appI (.tmp 40) (.tmp 43) rfl (w.heap.size + 1) _ M (by simp [Act.eval]) D11.out.oM _ 1 [y] (by simp [Act.eval]) (pnews1 w10 y) (by simp) (by simp; omega) (by have := D10.out.lo; simp; omega) ?_
            intro v5 w5 own5 grow5
            obtain ⟨a5, c5, rfl, _, _⟩ := OwnI.tab own5
            replace own5 : OwnI w5 (w.heap.size + 1) (.slice a5 (M.length + 1) c5) (M ++ [y]) := (by rw [show M.length + 1 = (M ++ [y]).length by simp]; exact own5)
            have D12 := Lib.hid (D11.out.appM own5 grow5)
            clear own5 grow5
            refine hK.out _ _ ?_ (fun hNew => ?_)
            · exact trivial
            clear hK K hHeld
            have hHeld := hNew
            clear hNew
            try simp only [Act.put, List.setIfInBounds_toArray, List.set_cons_zero, List.set_cons_succ]
            refine takeH (i := 6) (v := ?_) rfl rfl (by kernel_rfl) (by kernel_rfl) (by kernel_rfl) (fun _ _ _ h => h) (by rfl) ?_ (by assumption) ?_
            rotate_left 1
            · intro w hSw
              (try dsimp only at hSw)
              go_simp
              try with_reducible rfl
            try simp only [List.setIfInBounds_toArray, List.set_cons_zero, List.set_cons_succ]
            refine wpAnyH_ready (rs := [7]) (by kernel_rfl) (by simp) ?_
            refine AllReadyH.cons rfl (fun K hK => ?_) (AllReadyH.nil)
            have q0 := D12.out.2.1.1.1; have q1 := D12.out.2.1.1.2.1; have q2 := D12.out.2.1.1.2.2.1; have q3 := D12.out.2.1.1.2.2.2.1; have q4 := D12.out.2.1.1.2.2.2.2; have k0 := D12.out.2.1.2.1; have k1 := D12.out.2.1.2.2.1; have k2 := D12.out.2.1.2.2.2.1; have k3 := D12.out.2.1.2.2.2.2.1; have k4 := D12.out.2.1.2.2.2.2.2
            have s0 := D12.out.2.2.1.1; have s1 := D12.out.2.2.1.2.1; have s2 := D12.out.2.2.1.2.2.1; have s3 := D12.out.2.2.1.2.2.2.1; have s4 := D12.out.2.2.1.2.2.2.2; have r0 := D12.out.2.2.2.1; have r1 := D12.out.2.2.2.2.1; have r2 := D12.out.2.2.2.2.2.1; have r3 := D12.out.2.2.2.2.2.2.1; have r4 := D12.out.2.2.2.2.2.2.2
            go_simp
            refine hK.out _ _ ?_ (fun hNew => ?_)
            · exact trivial
            clear hK K hHeld
            have hHeld := hNew
            clear hNew
            try simp only [Act.put, List.setIfInBounds_toArray, List.set_cons_zero, List.set_cons_succ]
            refine wpAnyH_done (by kernel_rfl) ?_ _
            have F13 := Lib.hid D12.out.1
            have lt5 : w4.heap.size < w5.heap.size := D12.out.2.1.lt
            clear D12
            obtain ⟨qz, rz1, rz2⟩ := F13.out.2.2.2.1
            have HF := Lib.hid (dr_fin (.int .i64 f) (.int .i64 b) (.int .i64 l) F13.out.2.1 F13.out.2.2.1 F13.out.1 rz1 F13.out.2.2.2.2 hBw)
            clear rz1
            go_wp2_with fail
            have HG := HF.out
            generalize hX : set5 (w5.setCell ⟨w4.heap.size, 4, none⟩ (.slice a5 (M.length + 1) c5)) w.heap.size (.int .i64 f) (.int .i64 b) (.slice a2 P.length c2) (.int .i64 l) (.slice a5 (M.length + 1) c5) = wF at HG
            unfold set5 at hX
            rw [hX]
            obtain ⟨⟨⟨g0, g1, g2, g3, g4⟩, _⟩, gO, gR, gG⟩ := HG
            exact bodyPost_ret (v := .agg #[.int .i64 f, .int .i64 b, .slice a2 P.length c2, .int .i64 l, .slice a5 (M.length + 1) c5]) (by simp [results, Tryd.results52, go_sem, g0, g1, g2, g3, g4]) rfl ⟨f, b, l, P, M ++ [y], _, _, qz, rfl, ⟨by (try simp) <;> omega, by (try simp) <;> omega⟩, ⟨HSM.out.1, HSM.out.2, HIP.out⟩, gO, gR, by omega, gG⟩
      · have hx1' : (x == 1) = false := by simpa using hx1
        have q0 := D9.out.box.1.1; have q1 := D9.out.box.1.2.1; have q2 := D9.out.box.1.2.2.1; have q3 := D9.out.box.1.2.2.2.1; have q4 := D9.out.box.1.2.2.2.2; have k0 := D9.out.box.2.1; have k1 := D9.out.box.2.2.1; have k2 := D9.out.box.2.2.2.1; have k3 := D9.out.box.2.2.2.2.1; have k4 := D9.out.box.2.2.2.2.2
        have s0 := D9.out.ans.1.1; have s1 := D9.out.ans.1.2.1; have s2 := D9.out.ans.1.2.2.1; have s3 := D9.out.ans.1.2.2.2.1; have s4 := D9.out.ans.1.2.2.2.2; have r0 := D9.out.ans.2.1; have r1 := D9.out.ans.2.2.1; have r2 := D9.out.ans.2.2.2.1; have r3 := D9.out.ans.2.2.2.2.1; have r4 := D9.out.ans.2.2.2.2.2
        have F9 := Lib.hid D9.out.fz
        obtain ⟨qz, rz1, rz2⟩ := F9.out.2.2.2.1
        have HF := Lib.hid (dr_fin (.int .i64 f) (.int .i64 b) (.int .i64 l) F9.out.2.1 F9.out.2.2.1 F9.out.1 rz1 F9.out.2.2.2.2 hBw)
        clear rz1
        go_wp2_with fail
        have HG := HF.out
        generalize hX : set5 (w9) w.heap.size (.int .i64 f) (.int .i64 b) (.slice a2 P.length c2) (.int .i64 l) (.slice a4 M.length c4) = wF at HG
        unfold set5 at hX
        rw [hX]
        obtain ⟨⟨⟨g0, g1, g2, g3, g4⟩, _⟩, gO, gR, gG⟩ := HG
        exact bodyPost_ret (v := .agg #[.int .i64 f, .int .i64 b, .slice a2 P.length c2, .int .i64 l, .slice a4 M.length c4]) (by simp [results, Tryd.results52, go_sem, g0, g1, g2, g3, g4]) rfl ⟨f, b, l, P, M, _, _, qz, rfl, ⟨by (try simp) <;> omega, by (try simp) <;> omega⟩, ⟨HSM.out.1, HSM.out.2, HIP.out⟩, gO, gR, by omega, gG⟩
end Go.Proofs.YtnnmgbgkgnejlaaDoor
