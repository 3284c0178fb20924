/-
  Whether entries are a table: the program's own answer.
-/
import Derived.Test.YtnabcffpficgcaaColl
namespace Go.Proofs.Ytnabcffpficgcaa
open Go.RowKit
set_option linter.unusedSimpArgs false

theorem entOk_no1 {f b v : Int} (h : okB f b = false) : entOk (f, b, v) = false := by simp [entOk, h]
theorem entOk_val {f b v : Int} (h : okB f b = true) : entOk (f, b, v) = decide (1 ≤ v ∧ v ≤ 9) := by simp [entOk, h]

set_option maxHeartbeats 400000 in
theorem eok_any (f b v : Int) (w : World) :
    Calls Try.prog 11 #[.agg #[.int .i64 f, .int .i64 b, .int .i64 v]] w fun e w' => e = .returned (.bool (entOk (f, b, v))) ∧ Below w.heap.size w w' := by
  have A0 := At3.new w f b v 29
  by_cases ho : okB f b = true
  · have hr := Lib.hid (entOk_val (v := v) ho)
    go_enter Try.func11, Try.ntmps11
    go_wp2_with fail
    refine (iok_is ho _).mono ?_
    rintro e w1 ⟨rfl, hb1⟩
    obtain ⟨c0, c1, c2⟩ := A0.below hb1
    have HB := Lib.hid (below_box hb1 (by simp))
    clear hb1 A0
    by_cases h1 : 1 ≤ v
    · by_cases h2 : v ≤ 9
      · go_wp2
        go_ret
        exact ⟨ret_bool (by rw [hr.out]; simp; omega), HB.out⟩
      · go_wp2
        go_ret
        exact ⟨ret_bool (by rw [hr.out]; simp; omega), HB.out⟩
    · go_wp2
      go_ret
      exact ⟨ret_bool (by rw [hr.out]; simp; omega), HB.out⟩
  · have ho' : okB f b = false := by simpa using ho
    have hr := Lib.hid (entOk_no1 (v := v) ho')
    clear ho
    go_enter Try.func11, Try.ntmps11
    go_wp2_with fail
    refine (iok_is ho' _).mono ?_
    rintro e w1 ⟨rfl, hb1⟩
    have HB := Lib.hid (below_box hb1 (by simp))
    clear hb1 A0
    go_wp2
    go_ret
    exact ⟨ret_bool hr.out.symm, HB.out⟩
theorem eok_is {f b v : Int} {x : Bool} (h : entOk (f, b, v) = x) (w : World) :
    Calls Try.prog 11 #[.agg #[.int .i64 f, .int .i64 b, .int .i64 v]] w fun e w' => e = .returned (.bool x) ∧ Below w.heap.size w w' := by
  rw [← h]; exact eok_any f b v w
theorem rcmp_is {f b g c x : Int} (h : cmpOk f b g c = x) (w : World) :
    Calls Try.prog 12 #[.agg #[.int .i64 f, .int .i64 b], .agg #[.int .i64 g, .int .i64 c]] w fun e w' => e = .returned (.int .i64 x) ∧ Below w.heap.size w w' := by
  rw [← h]; exact rcmp_any f b g c w

theorem good_zero (T : List E) : Good (T.take 0) := by simpa using Good.nil
theorem good_step {T : List E} {k : Nat} {e : E} (h : Good (T.take k)) (he : T[k]? = some e) (ok : entOk e = true) (hp : k = 0 ∨ ∃ p, T[k - 1]? = some p ∧ ltE p e) : Good (T.take (k + 1)) := by
  rw [List.take_add_one, he]
  simp only [Option.toList_some]
  refine ⟨fun x hx => ?_, ?_⟩
  · rcases List.mem_append.1 hx with k' | k'
    · exact h.1 x k'
    · simp at k'; subst k'; exact ok
  · rw [List.pairwise_append]
    refine ⟨h.2, by simp, fun x hx y hy => ?_⟩
    simp at hy; subst hy
    rcases hp with rfl | ⟨p, hp, hlt⟩
    · simp at hx
    · cases k with
      | zero => simp at hx
      | succ k =>
        have hp' : T[k]? = some p := by simpa using hp
        have h2 := h.2
        rw [List.take_add_one, hp'] at h2 hx
        simp only [Option.toList_some] at h2 hx
        rcases List.mem_append.1 hx with k' | k'
        · exact ltE_trans ((List.pairwise_append.1 h2).2.2 x k' p (by simp)) hlt
        · simp at k'; subst k'; exact hlt
theorem not_good_ok {T : List E} {k : Nat} {e : E} (he : T[k]? = some e) (ok : entOk e = false) : ¬ Good T := fun h => by
  rw [h.1 e (mem_at he)] at ok; cases ok
theorem not_good_lt {T : List E} {k : Nat} {p e : E} (hp : T[k]? = some p) (he : T[k + 1]? = some e) (hlt : ¬ ltE p e) : ¬ Good T := fun h => by
  have h1 := List.pairwise_iff_getElem.1 h.2
  obtain ⟨i1, e1⟩ := List.getElem?_eq_some_iff.1 hp
  obtain ⟨i2, e2⟩ := List.getElem?_eq_some_iff.1 he
  have := h1 k (k + 1) i1 i2 (by omega)
  rw [e1, e2] at this
  exact hlt this
theorem take_ok {T : List E} {k : Nat} {p : E} (h : Good (T.take (k + 1))) (hp : T[k]? = some p) : entOk p = true := by
  refine h.1 p ?_
  rw [List.take_add_one, hp]; simp

set_option maxHeartbeats 2000000 in
theorem tok_any (a : Option Addr) (cap : Nat) (T : List E) (w : World) (hT : TabA w a T) (hl : T.length ≤ 2000000) :
    Calls Try.prog 5 #[.slice a T.length cap] w fun e w' => e = .returned (.bool (tabOk T)) ∧ Below w.heap.size w w' := by
  by_cases h12 : T.length ≤ 12
  · go_enter Try.func5, Try.ntmps5
    go_wp2_with fail
    go_loopw [10] (fun i wr => ∃ k : Nat, k ≤ T.length ∧ i = .int .i64 k ∧ Good (T.take k) ∧ Below w.heap.size w wr) (fun i _ => T.length - (intOf i).toNat)
    case atStart => exact ⟨0, Nat.zero_le _, rfl, good_zero T, Below.refl _ _⟩
    case round =>
      obtain ⟨k, hk, rfl, hg, hb⟩ := hrel
      by_cases hlt : k < T.length
      · obtain ⟨b, off, f, c, v, rfl, hTk, c0, c1, c2⟩ := hT.at hlt
        have d0 := cell_later hb c0
        have d1 := cell_later hb c1
        have d2 := cell_later hb c2
        have A0 := Lib.hid (At3.new wr f c v 29)
        have hB1 := Lib.hid (hb.alloc hb.size (.cells #[.int .i64 f, .int .i64 c, .int .i64 v] 29))
        have hs := hb.size
        by_cases ho : entOk (f, c, v) = true
        · cases k with
          | zero =>
            have HG := Lib.hid (good_step hg hTk ho (.inl rfl))
            clear hg c0 c1 c2 hT hTk
            simp only [Nat.zero_mul, Nat.add_zero] at d0 d1 d2
            go_wp2_with fail
            refine (eok_is ho _).mono ?_
            rintro e w1 ⟨rfl, hb1⟩
            have HB := Lib.hid (hB1.out.trans (hb1.mono (by simp; omega)))
            clear hb1 d0 d1 d2
            go_wp2_with fail
            refine wp_region_held_drew (S := fun W => Below w.heap.size w W) (by kernel_rfl) ?_ (fun hHeld => ?_)
            · exact HB.out.drew
            refine takeH (i := 0) (v := ?_) rfl rfl (by kernel_rfl) (by kernel_rfl) (by kernel_rfl) (fun _ _ _ h => h) (by rfl) ?_ (by assumption) ?_
            rotate_left 1
            · intro w hSw
              (try dsimp only at hSw)
              go_simp
              try with_reducible rfl
            try simp only [List.setIfInBounds_toArray, List.set_cons_zero, List.set_cons_succ]
            refine takeH (i := 1) (v := ?_) rfl rfl (by kernel_rfl) (by kernel_rfl) (by kernel_rfl) (fun _ _ _ h => h) (by rfl) ?_ (by assumption) ?_
            rotate_left 1
            · intro w hSw
              (try dsimp only at hSw)
              go_simp
              try with_reducible rfl
            try simp only [List.setIfInBounds_toArray, List.set_cons_zero, List.set_cons_succ]
            refine takeH (i := 2) (v := ?_) rfl rfl (by kernel_rfl) (by kernel_rfl) (by kernel_rfl) (fun _ _ _ h => h) (by rfl) ?_ (by assumption) ?_
            rotate_left 1
            · intro w hSw
              (try dsimp only at hSw)
              go_simp
              try with_reducible rfl
            try simp only [List.setIfInBounds_toArray, List.set_cons_zero, List.set_cons_succ]
            refine skipH (i := 3) rfl rfl (by kernel_rfl) (by kernel_rfl) (by kernel_rfl) (fun _ _ _ h => h) (by rfl) (by assumption) ?_
            try simp only [List.setIfInBounds_toArray, List.set_cons_zero, List.set_cons_succ]
            refine skipH (i := 4) rfl rfl (by kernel_rfl) (by kernel_rfl) (by kernel_rfl) (fun _ _ _ h => h) (by rfl) (by assumption) ?_
            try simp only [List.setIfInBounds_toArray, List.set_cons_zero, List.set_cons_succ]
            refine skipH (i := 5) rfl rfl (by kernel_rfl) (by kernel_rfl) (by kernel_rfl) (fun _ _ _ h => h) (by rfl) (by assumption) ?_
            try simp only [List.setIfInBounds_toArray, List.set_cons_zero, List.set_cons_succ]
            refine skipH (i := 6) rfl rfl (by kernel_rfl) (by kernel_rfl) (by kernel_rfl) (fun _ _ _ h => h) (by rfl) (by assumption) ?_
            try simp only [List.setIfInBounds_toArray, List.set_cons_zero, List.set_cons_succ]
            refine skipH (i := 7) rfl rfl (by kernel_rfl) (by kernel_rfl) (by kernel_rfl) (fun _ _ _ h => h) (by rfl) (by assumption) ?_
            try simp only [List.setIfInBounds_toArray, List.set_cons_zero, List.set_cons_succ]
            refine skipH (i := 8) rfl rfl (by kernel_rfl) (by kernel_rfl) (by kernel_rfl) (fun _ _ _ h => h) (by rfl) (by assumption) ?_
            try simp only [List.setIfInBounds_toArray, List.set_cons_zero, List.set_cons_succ]
            refine skipH (i := 9) rfl rfl (by kernel_rfl) (by kernel_rfl) (by kernel_rfl) (fun _ _ _ h => h) (by rfl) (by assumption) ?_
            try simp only [List.setIfInBounds_toArray, List.set_cons_zero, List.set_cons_succ]
            refine skipH (i := 10) rfl rfl (by kernel_rfl) (by kernel_rfl) (by kernel_rfl) (fun _ _ _ h => h) (by rfl) (by assumption) ?_
            try simp only [List.setIfInBounds_toArray, List.set_cons_zero, List.set_cons_succ]
            refine skipH (i := 11) rfl rfl (by kernel_rfl) (by kernel_rfl) (by kernel_rfl) (fun _ _ _ h => h) (by rfl) (by assumption) ?_
            try simp only [List.setIfInBounds_toArray, List.set_cons_zero, List.set_cons_succ]
            refine skipH (i := 12) rfl rfl (by kernel_rfl) (by kernel_rfl) (by kernel_rfl) (fun _ _ _ h => h) (by rfl) (by assumption) ?_
            try simp only [List.setIfInBounds_toArray, List.set_cons_zero, List.set_cons_succ]
            refine takeH (i := 13) (v := ?_) rfl rfl (by kernel_rfl) (by kernel_rfl) (by kernel_rfl) (fun _ _ _ h => h) (by rfl) ?_ (by assumption) ?_
            rotate_left 1
            · intro w hSw
              (try dsimp only at hSw)
              go_simp
              try with_reducible rfl
            try simp only [List.setIfInBounds_toArray, List.set_cons_zero, List.set_cons_succ]
            refine wpAnyH_done (by kernel_rfl) ?_ _
            go_wp2_with fail
            go_roundw
            case rel => exact ⟨1, by omega, by go_num, HG.out, hHeld⟩
            case measure => simp [intOf]; omega
          | succ k =>
            obtain ⟨b', off', g, d, u, e', hTp, p0, p1, p2⟩ := hT.at (show k < T.length by omega)
            obtain ⟨rfl, rfl⟩ : b = b' ∧ off = off' := by simpa using e'
            have q0 := cell_later hb p0
            have q1 := cell_later hb p1
            have okp := ((entOk_iff _).1 (take_ok hg hTp)).1
            have oke := ((entOk_iff _).1 ho).1
            have hcmp := cmpOk_yes okp oke
            by_cases hord : ltE (g, d, u) (f, c, v)
            · have HG := Lib.hid (good_step hg hTk ho (.inr ⟨_, hTp, hord⟩))
              have hcm : cmpOk g d f c = -1 := by rw [hcmp]; exact (cmpE_lt (g, d, u) (f, c, v)).2 hord
              clear hg c0 c1 c2 hT hTk hTp p0 p1 p2 hcmp hord e'
              go_wp2_with fail
              refine (eok_is ho _).mono ?_
              rintro e w1 ⟨rfl, hb1⟩
              have HB := Lib.hid (hB1.out.trans (hb1.mono (by simp; omega)))
              have HA := Lib.hid (A0.out.below hb1)
              have r0 := cell_later hb1 (cellA q0 (.cells #[.int .i64 f, .int .i64 c, .int .i64 v] 29))
              have r1 := cell_later hb1 (cellA q1 (.cells #[.int .i64 f, .int .i64 c, .int .i64 v] 29))
              have HR := Lib.hid (And.intro r0 r1)
              clear hb1 d0 d1 d2 q0 q1 r0 r1
              go_wp2_with fail
              have hd : decide ((0 : Int) < (k : Int) + 1) = true := by rw [decide_eq_true_eq]; omega
              have m1 : IntKind.i64.wrap (k : Int) = (k : Int) := IntWalk.i64_in _ (by omega)
              have i0 : (0 : Int) ≤ (k : Int) := by omega
              have i1 : (k : Int) < (T.length : Int) := by omega
              refine wp_region_held_drew (S := fun W => W.cell? ⟨b, off + k * 3, none⟩ = some (.int .i64 g) ∧ W.cell? ⟨b, off + k * 3 + 1, none⟩ = some (.int .i64 d) ∧ W.cell? ⟨wr.heap.size, 0, none⟩ = some (.int .i64 f) ∧ W.cell? ⟨wr.heap.size, 1, none⟩ = some (.int .i64 c) ∧ Below w.heap.size w W) (by kernel_rfl) ?_ (fun hHeld => ?_)
              · exact ⟨HR.out.1, HR.out.2, HA.out.1, HA.out.2.1, HB.out.drew⟩
              refine takeH (i := 0) (v := ?_) rfl rfl (by kernel_rfl) (by kernel_rfl) (by kernel_rfl) (fun _ _ _ h => h) (by rfl) ?_ (by assumption) ?_
              rotate_left 1
              · intro w hSw
                (try dsimp only at hSw)
                go_simp
                try with_reducible rfl
              try simp only [List.setIfInBounds_toArray, List.set_cons_zero, List.set_cons_succ]
              refine takeH (i := 1) (v := ?_) rfl rfl (by kernel_rfl) (by kernel_rfl) (by kernel_rfl) (fun _ _ _ h => h) (by rfl) ?_ (by assumption) ?_
              rotate_left 1
              · intro w hSw
                (try dsimp only at hSw)
                go_simp
                try with_reducible rfl
              try simp only [List.setIfInBounds_toArray, List.set_cons_zero, List.set_cons_succ]
              refine takeH (i := 2) (v := ?_) rfl rfl (by kernel_rfl) (by kernel_rfl) (by kernel_rfl) (fun _ _ _ h => h) (by rfl) ?_ (by assumption) ?_
              rotate_left 1
              · intro w hSw
                (try dsimp only at hSw)
                go_simp
                try with_reducible rfl
              try simp only [List.setIfInBounds_toArray, List.set_cons_zero, List.set_cons_succ]
              refine takeH (i := 3) (v := ?_) rfl rfl (by kernel_rfl) (by kernel_rfl) (by kernel_rfl) (fun _ _ _ h => h) (by rfl) ?_ (by assumption) ?_
              rotate_left 1
              · intro w hSw
                (try dsimp only at hSw)
                go_simp
                try with_reducible rfl
              try simp only [List.setIfInBounds_toArray, List.set_cons_zero, List.set_cons_succ]
              refine takeH (i := 4) (v := ?_) rfl rfl (by kernel_rfl) (by kernel_rfl) (by kernel_rfl) (fun _ _ _ h => h) (by rfl) ?_ (by assumption) ?_
              rotate_left 1
              · intro w hSw
                (try dsimp only at hSw)
                go_simp
                try with_reducible rfl
              try simp only [List.setIfInBounds_toArray, List.set_cons_zero, List.set_cons_succ]
              refine takeH (i := 5) (v := ?_) rfl rfl (by kernel_rfl) (by kernel_rfl) (by kernel_rfl) (fun _ _ _ h => h) (by rfl) ?_ (by assumption) ?_
              rotate_left 1
              · intro w hSw
                (try dsimp only at hSw)
                go_simp
                try with_reducible rfl
              try simp only [List.setIfInBounds_toArray, List.set_cons_zero, List.set_cons_succ]
              refine takeH (i := 6) (v := ?_) rfl rfl (by kernel_rfl) (by kernel_rfl) (by kernel_rfl) (fun _ _ _ h => h) (by rfl) ?_ (by assumption) ?_
              rotate_left 1
              · intro w hSw
                (try dsimp only at hSw)
                go_simp
                try with_reducible rfl
              try simp only [List.setIfInBounds_toArray, List.set_cons_zero, List.set_cons_succ]
              refine takeH (i := 7) (v := ?_) rfl rfl (by kernel_rfl) (by kernel_rfl) (by kernel_rfl) (fun _ _ _ h => h) (by rfl) ?_ (by assumption) ?_
              rotate_left 1
              · intro w hSw
                (try dsimp only at hSw)
                go_simp
                try with_reducible rfl
              try simp only [List.setIfInBounds_toArray, List.set_cons_zero, List.set_cons_succ]
              refine takeH (i := 8) (v := ?_) rfl rfl (by kernel_rfl) (by kernel_rfl) (by kernel_rfl) (fun _ _ _ h => h) (by rfl) ?_ (by assumption) ?_
              rotate_left 1
              · intro w hSw
                (try dsimp only at hSw)
                go_simp
                try with_reducible rfl
              try simp only [List.setIfInBounds_toArray, List.set_cons_zero, List.set_cons_succ]
              refine takeH (i := 9) (v := ?_) rfl rfl (by kernel_rfl) (by kernel_rfl) (by kernel_rfl) (fun _ _ _ h => h) (by rfl) ?_ (by assumption) ?_
              rotate_left 1
              · intro w hSw
                (try dsimp only at hSw)
                go_simp
                try with_reducible rfl
              try simp only [List.setIfInBounds_toArray, List.set_cons_zero, List.set_cons_succ]
              refine takeH (i := 10) (v := ?_) rfl rfl (by kernel_rfl) (by kernel_rfl) (by kernel_rfl) (fun _ _ _ h => h) (by rfl) ?_ (by assumption) ?_
              rotate_left 1
              · intro w hSw
                (try dsimp only at hSw)
                go_simp
                try with_reducible rfl
              try simp only [List.setIfInBounds_toArray, List.set_cons_zero, List.set_cons_succ]
              refine wpAnyH_ready (rs := [11]) (by kernel_rfl) (by simp) ?_
              refine AllReadyH.cons rfl (fun K hK => ?_) (AllReadyH.nil)
              go_simp
              refine (rcmp_is hcm _).mono ?_
              rintro e w2 ⟨rfl, hb2⟩
              go_wp2_with fail
              refine hK.out _ _ ?_ (fun hNew => ?_)
              · exact ⟨cell_later hb2 hHeld.1, cell_later hb2 hHeld.2.1, cell_later hb2 hHeld.2.2.1, cell_later hb2 hHeld.2.2.2.1, hHeld.2.2.2.2.trans (hb2.mono hHeld.2.2.2.2.size)⟩
              clear hK K hHeld
              have hHeld := hNew
              clear hNew
              try simp only [Act.put, List.setIfInBounds_toArray, List.set_cons_zero, List.set_cons_succ]
              refine takeH (i := 12) (v := ?_) rfl rfl (by kernel_rfl) (by kernel_rfl) (by kernel_rfl) (fun _ _ _ h => h) (by rfl) ?_ (by assumption) ?_
              rotate_left 1
              · intro w hSw
                (try dsimp only at hSw)
                go_simp
                try with_reducible rfl
              try simp only [List.setIfInBounds_toArray, List.set_cons_zero, List.set_cons_succ]
              refine takeH (i := 13) (v := ?_) rfl rfl (by kernel_rfl) (by kernel_rfl) (by kernel_rfl) (fun _ _ _ h => h) (by rfl) ?_ (by assumption) ?_
              rotate_left 1
              · intro w hSw
                (try dsimp only at hSw)
                go_simp
                try with_reducible rfl
              try simp only [List.setIfInBounds_toArray, List.set_cons_zero, List.set_cons_succ]
              refine wpAnyH_done (by kernel_rfl) ?_ _
              have HH := Lib.hid hHeld
              clear hHeld
              go_wp2_with fail
              go_roundw
              case rel => exact ⟨k + 1 + 1, by omega, by go_num, HG.out, HH.out.2.2.2.2⟩
              case measure => simp [intOf]; omega
            · have HG := Lib.hid (tabOk_no (fun h => not_good_lt hTp hTk hord h.1))
              have hcn : cmpOk g d f c ≠ -1 := by rw [hcmp]; exact fun h => hord ((cmpE_lt (g, d, u) (f, c, v)).1 h)
              obtain ⟨z, hcm, hzn⟩ : ∃ z, cmpOk g d f c = z ∧ z ≠ -1 := ⟨_, rfl, hcn⟩
              have hz1 : (z != -1) = true := by simpa using hzn
              clear hcn
              clear hg c0 c1 c2 hT hTk hTp p0 p1 p2 hcmp hord e'
              go_wp2_with fail
              refine (eok_is ho _).mono ?_
              rintro e w1 ⟨rfl, hb1⟩
              have HB := Lib.hid (hB1.out.trans (hb1.mono (by simp; omega)))
              have HA := Lib.hid (A0.out.below hb1)
              have r0 := cell_later hb1 (cellA q0 (.cells #[.int .i64 f, .int .i64 c, .int .i64 v] 29))
              have r1 := cell_later hb1 (cellA q1 (.cells #[.int .i64 f, .int .i64 c, .int .i64 v] 29))
              have HR := Lib.hid (And.intro r0 r1)
              clear hb1 d0 d1 d2 q0 q1 r0 r1
              go_wp2_with fail
              have hd : decide ((0 : Int) < (k : Int) + 1) = true := by rw [decide_eq_true_eq]; omega
              have m1 : IntKind.i64.wrap (k : Int) = (k : Int) := IntWalk.i64_in _ (by omega)
              have i0 : (0 : Int) ≤ (k : Int) := by omega
              have i1 : (k : Int) < (T.length : Int) := by omega
              refine wp_region_held_drew (S := fun W => W.cell? ⟨b, off + k * 3, none⟩ = some (.int .i64 g) ∧ W.cell? ⟨b, off + k * 3 + 1, none⟩ = some (.int .i64 d) ∧ W.cell? ⟨wr.heap.size, 0, none⟩ = some (.int .i64 f) ∧ W.cell? ⟨wr.heap.size, 1, none⟩ = some (.int .i64 c) ∧ Below w.heap.size w W) (by kernel_rfl) ?_ (fun hHeld => ?_)
              · exact ⟨HR.out.1, HR.out.2, HA.out.1, HA.out.2.1, HB.out.drew⟩
              refine takeH (i := 0) (v := ?_) rfl rfl (by kernel_rfl) (by kernel_rfl) (by kernel_rfl) (fun _ _ _ h => h) (by rfl) ?_ (by assumption) ?_
              rotate_left 1
              · intro w hSw
                (try dsimp only at hSw)
                go_simp
                try with_reducible rfl
              try simp only [List.setIfInBounds_toArray, List.set_cons_zero, List.set_cons_succ]
              refine takeH (i := 1) (v := ?_) rfl rfl (by kernel_rfl) (by kernel_rfl) (by kernel_rfl) (fun _ _ _ h => h) (by rfl) ?_ (by assumption) ?_
              rotate_left 1
              · intro w hSw
                (try dsimp only at hSw)
                go_simp
                try with_reducible rfl
              try simp only [List.setIfInBounds_toArray, List.set_cons_zero, List.set_cons_succ]
              refine takeH (i := 2) (v := ?_) rfl rfl (by kernel_rfl) (by kernel_rfl) (by kernel_rfl) (fun _ _ _ h => h) (by rfl) ?_ (by assumption) ?_
              rotate_left 1
              · intro w hSw
                (try dsimp only at hSw)
                go_simp
                try with_reducible rfl
              try simp only [List.setIfInBounds_toArray, List.set_cons_zero, List.set_cons_succ]
              refine takeH (i := 3) (v := ?_) rfl rfl (by kernel_rfl) (by kernel_rfl) (by kernel_rfl) (fun _ _ _ h => h) (by rfl) ?_ (by assumption) ?_
              rotate_left 1
              · intro w hSw
                (try dsimp only at hSw)
                go_simp
                try with_reducible rfl
              try simp only [List.setIfInBounds_toArray, List.set_cons_zero, List.set_cons_succ]
              refine takeH (i := 4) (v := ?_) rfl rfl (by kernel_rfl) (by kernel_rfl) (by kernel_rfl) (fun _ _ _ h => h) (by rfl) ?_ (by assumption) ?_
              rotate_left 1
              · intro w hSw
                (try dsimp only at hSw)
                go_simp
                try with_reducible rfl
              try simp only [List.setIfInBounds_toArray, List.set_cons_zero, List.set_cons_succ]
              refine takeH (i := 5) (v := ?_) rfl rfl (by kernel_rfl) (by kernel_rfl) (by kernel_rfl) (fun _ _ _ h => h) (by rfl) ?_ (by assumption) ?_
              rotate_left 1
              · intro w hSw
                (try dsimp only at hSw)
                go_simp
                try with_reducible rfl
              try simp only [List.setIfInBounds_toArray, List.set_cons_zero, List.set_cons_succ]
              refine takeH (i := 6) (v := ?_) rfl rfl (by kernel_rfl) (by kernel_rfl) (by kernel_rfl) (fun _ _ _ h => h) (by rfl) ?_ (by assumption) ?_
              rotate_left 1
              · intro w hSw
                (try dsimp only at hSw)
                go_simp
                try with_reducible rfl
              try simp only [List.setIfInBounds_toArray, List.set_cons_zero, List.set_cons_succ]
              refine takeH (i := 7) (v := ?_) rfl rfl (by kernel_rfl) (by kernel_rfl) (by kernel_rfl) (fun _ _ _ h => h) (by rfl) ?_ (by assumption) ?_
              rotate_left 1
              · intro w hSw
                (try dsimp only at hSw)
                go_simp
                try with_reducible rfl
              try simp only [List.setIfInBounds_toArray, List.set_cons_zero, List.set_cons_succ]
              refine takeH (i := 8) (v := ?_) rfl rfl (by kernel_rfl) (by kernel_rfl) (by kernel_rfl) (fun _ _ _ h => h) (by rfl) ?_ (by assumption) ?_
              rotate_left 1
              · intro w hSw
                (try dsimp only at hSw)
                go_simp
                try with_reducible rfl
              try simp only [List.setIfInBounds_toArray, List.set_cons_zero, List.set_cons_succ]
              refine takeH (i := 9) (v := ?_) rfl rfl (by kernel_rfl) (by kernel_rfl) (by kernel_rfl) (fun _ _ _ h => h) (by rfl) ?_ (by assumption) ?_
              rotate_left 1
              · intro w hSw
                (try dsimp only at hSw)
                go_simp
                try with_reducible rfl
              try simp only [List.setIfInBounds_toArray, List.set_cons_zero, List.set_cons_succ]
              refine takeH (i := 10) (v := ?_) rfl rfl (by kernel_rfl) (by kernel_rfl) (by kernel_rfl) (fun _ _ _ h => h) (by rfl) ?_ (by assumption) ?_
              rotate_left 1
              · intro w hSw
                (try dsimp only at hSw)
                go_simp
                try with_reducible rfl
              try simp only [List.setIfInBounds_toArray, List.set_cons_zero, List.set_cons_succ]
              refine wpAnyH_ready (rs := [11]) (by kernel_rfl) (by simp) ?_
              refine AllReadyH.cons rfl (fun K hK => ?_) (AllReadyH.nil)
              go_simp
              refine (rcmp_is hcm _).mono ?_
              rintro e w2 ⟨rfl, hb2⟩
              go_wp2_with fail
              refine hK.out _ _ ?_ (fun hNew => ?_)
              · exact ⟨cell_later hb2 hHeld.1, cell_later hb2 hHeld.2.1, cell_later hb2 hHeld.2.2.1, cell_later hb2 hHeld.2.2.2.1, hHeld.2.2.2.2.trans (hb2.mono hHeld.2.2.2.2.size)⟩
              clear hK K hHeld
              have hHeld := hNew
              clear hNew
              try simp only [Act.put, List.setIfInBounds_toArray, List.set_cons_zero, List.set_cons_succ]
              refine takeH (i := 12) (v := ?_) rfl rfl (by kernel_rfl) (by kernel_rfl) (by kernel_rfl) (fun _ _ _ h => h) (by rfl) ?_ (by assumption) ?_
              rotate_left 1
              · intro w hSw
                (try dsimp only at hSw)
                go_simp
                try with_reducible rfl
              try simp only [List.setIfInBounds_toArray, List.set_cons_zero, List.set_cons_succ]
              refine takeH (i := 13) (v := ?_) rfl rfl (by kernel_rfl) (by kernel_rfl) (by kernel_rfl) (fun _ _ _ h => h) (by rfl) ?_ (by assumption) ?_
              rotate_left 1
              · intro w hSw
                (try dsimp only at hSw)
                go_simp
                try with_reducible rfl
              try simp only [List.setIfInBounds_toArray, List.set_cons_zero, List.set_cons_succ]
              refine wpAnyH_done (by kernel_rfl) ?_ _
              have HH := Lib.hid hHeld
              clear hHeld
              go_wp2_with fail
              go_ret
              exact ⟨ret_bool HG.out.symm, HH.out.2.2.2.2⟩
        · have ho' : entOk (f, c, v) = false := by simpa using ho
          have HN := Lib.hid (tabOk_no (fun h => not_good_ok hTk ho' h.1))
          clear ho hg c0 c1 c2 hT hTk
          go_wp2_with fail
          refine (eok_is ho' _).mono ?_
          rintro e w1 ⟨rfl, hb1⟩
          have HB := Lib.hid (hB1.out.trans (hb1.mono (by simp; omega)))
          clear hb1 d0 d1 d2
          go_wp2_with fail
          go_ret
          exact ⟨ret_bool HN.out.symm, HB.out⟩
      · obtain rfl : k = T.length := by omega
        rw [List.take_length] at hg
        have HG := Lib.hid ((tabOk_iff T).2 ⟨hg, h12⟩)
        have HB := Lib.hid hb
        clear hg hb hT
        go_wp2_with fail
        go_ret
        exact ⟨ret_bool HG.out.symm, HB.out⟩
  · have HN := Lib.hid (tabOk_no (T := T) (fun h => h12 h.2))
    clear hT
    go_enter Try.func5, Try.ntmps5
    go_wp2_with fail
    go_ret
    exact ⟨ret_bool HN.out.symm, Below.refl _ _⟩
end Go.Proofs.Ytnabcffpficgcaa
