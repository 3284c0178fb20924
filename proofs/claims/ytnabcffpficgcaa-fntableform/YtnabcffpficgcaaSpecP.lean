/-
  What the model's functions on tables make: put, drop (slices of the call's own).
-/
import Derived.Test.YtnabcffpficgcaaSpecA
namespace Go.Proofs.Ytnabcffpficgcaa
open Go.RowKit
set_option linter.unusedSimpArgs false

theorem news1 (W : World) (f b v : Int) (t : TypeId) (j : Nat) (u : Value) (h : (cellsT [(f, b, v)])[j]? = some u) :
    (W.alloc (.cells #[.int .i64 f, .int .i64 b, .int .i64 v] t)).cell? ((⟨W.heap.size, 0, none⟩ : Addr).add j) = some u := news3 W f b v t j u h
theorem app_below {R : Nat} {W w2 : World} {v : Value} {L : List E} (ho : Owns W R v L) (hg : W.grownBy w2 v.ownBlock) (hR : R ≤ W.heap.size) : Below R W w2 :=
  (Below.refl R W).grown hg hR (fun k e => (ho.lt k e).1)
theorem owns_empty (w : World) (R : Nat) (hR : R ≤ w.heap.size) : Owns (w.alloc (.cells #[] 29)) R (.slice (some ⟨w.heap.size, 0, none⟩) 0 0) [] :=
  World.ownsRow_lit w #[] 0 hR (by unfold maxLen; omega) rfl

/-- what l2Put has so far -/
def PS (T : List E) (e : E) (k : Nat) : List E × Bool := (T.take k).foldl (putStep e) ([], false)
theorem PS_succ {T : List E} {e a : E} {k : Nat} (h : T[k]? = some a) : PS T e (k + 1) = putStep e (PS T e k) a := by
  unfold PS; rw [List.take_add_one, h]; simp
theorem PS_end (T : List E) (e : E) : putM T e = putEnd e (PS T e T.length) := by unfold PS putM; rw [List.take_length]
theorem PS_len (T : List E) (e : E) : ∀ k, (PS T e k).1.length ≤ 2 * k
  | 0 => by simp [PS]
  | k + 1 => by
    have ih := PS_len T e k
    cases h : T[k]? with
    | none => 
      have : PS T e (k + 1) = PS T e k := by unfold PS; rw [List.take_add_one, h]; simp
      rw [this]; omega
    | some a =>
      rw [PS_succ h]
      unfold putStep
      split
      · split <;> simp <;> omega
      · split <;> simp <;> omega
theorem putStep_same {e a : E} {s : List E × Bool} (h : cmpI a.1 a.2.1 e.1 e.2.1 = 0) (hs : s.2 = true) : putStep e s a = s := by
  obtain ⟨x, y⟩ := s; simp at hs; subst hs; simp [putStep, h]
theorem putStep_here {e a : E} {s : List E × Bool} (h : cmpI a.1 a.2.1 e.1 e.2.1 = 0) (hs : s.2 = false) : putStep e s a = (s.1 ++ [e], true) := by
  obtain ⟨x, y⟩ := s; simp at hs; subst hs; simp [putStep, h]
theorem putStep_both {e a : E} {s : List E × Bool} (h : 0 < cmpI a.1 a.2.1 e.1 e.2.1) (hs : s.2 = false) : putStep e s a = (s.1 ++ [e] ++ [a], true) := by
  obtain ⟨x, y⟩ := s; simp at hs; subst hs; unfold putStep; rw [if_neg (by omega), if_pos ⟨rfl, by omega⟩]
theorem putStep_on {e a : E} {s : List E × Bool} (h : 0 < cmpI a.1 a.2.1 e.1 e.2.1) (hs : s.2 = true) : putStep e s a = (s.1 ++ [a], true) := by
  obtain ⟨x, y⟩ := s; simp at hs; subst hs; unfold putStep; rw [if_neg (by omega), if_neg (by simp)]
theorem putStep_low {e a : E} {s : List E × Bool} (h : cmpI a.1 a.2.1 e.1 e.2.1 < 0) : putStep e s a = (s.1 ++ [a], s.2) := by
  unfold putStep; rw [if_neg (by omega), if_neg (by omega)]

/-- what l2Put's rounds keep -/
def PutI (wX : World) (T : List E) (e : E) (k : Nat) (v p : Value) (W : World) : Prop := p = .bool (PS T e k).2 ∧ Owns W wX.heap.size v (PS T e k).1 ∧ Below wX.heap.size wX W

set_option maxRecDepth 100000 in
set_option maxHeartbeats 4000000 in
theorem lput_any (a : Option Addr) (cap : Nat) (T : List E) (f b v : Int) (w : World) (hT : TabA w a T) (hl : T.length ≤ 12) :
    Calls Try.prog 15 #[.slice a T.length cap, .agg #[.int .i64 f, .int .i64 b, .int .i64 v]] w (Own1 w (putM T (f, b, v))) := by
  have hTX := hT.alloc (.cells #[.int .i64 f, .int .i64 b, .int .i64 v] 29)
  have hAX := At3.new w f b v 29
  have hBX := (Below.refl w.heap.size w).alloc (Nat.le_refl _) (.cells #[.int .i64 f, .int .i64 b, .int .i64 v] 29)
  have hPE := Lib.hid (PS_end T (f, b, v))
  have hPL := PS_len T (f, b, v)
  have I0 : PutI (w.alloc (.cells #[.int .i64 f, .int .i64 b, .int .i64 v] 29)) T (f, b, v) 0 (.slice (some ⟨(w.alloc (.cells #[.int .i64 f, .int .i64 b, .int .i64 v] 29)).heap.size, 0, none⟩) 0 0) (.bool false) ((w.alloc (.cells #[.int .i64 f, .int .i64 b, .int .i64 v] 29)).alloc (.cells #[] 29)) :=
    ⟨rfl, owns_empty _ _ (Nat.le_refl _), (Below.refl _ _).alloc (Nat.le_refl _) _⟩
  have HX := Lib.hid (And.intro hTX (And.intro hAX hBX))
  have HI := Lib.hid I0
  have HL := Lib.hid hPL
  obtain ⟨i0, hi, hz0, hz1, hz2⟩ := info_parts infoE
  have hXs : (w.alloc (.cells #[.int .i64 f, .int .i64 b, .int .i64 v] 29)).heap.size = w.heap.size + 1 := by simp
  clear hT hTX hAX hBX hPL I0
  generalize hU : putM T (f, b, v) = U at *
  have HU := Lib.hid hU
  clear hU
  go_enter Try.func15, Try.ntmps15
  go_wp2_with fail
  generalize w.alloc (.cells #[.int .i64 f, .int .i64 b, .int .i64 v] 29) = wX at *
  -- ROUND
  go_loopw [5, 6, 7] (fun v' p i wr => ∃ k : Nat, k ≤ T.length ∧ i = .int .i64 k ∧ PutI wX T (f, b, v) k v' p wr) (fun _ _ i _ => T.length - (intOf i).toNat)
  case atStart => exact ⟨0, Nat.zero_le _, rfl, by have := HI.out; rw [hXs] at this; exact this⟩
  case round =>
    obtain ⟨k, hk, rfl, rfl, ho, hb⟩ := hrel
    clear HI
    have hlk := HL.out k
    have hsX := hb.size
    by_cases hlt : k < T.length
    · obtain ⟨bb, off, g, c, u, rfl, hTk, c0, c1, c2⟩ := HX.out.1.at hlt
      replace hTk := Lib.hid hTk
      replace c0 := Lib.hid c0
      replace c1 := Lib.hid c1
      replace c2 := Lib.hid c2
      have HC := Lib.hid (And.intro (cell_later hb c0.out) (And.intro (cell_later hb c1.out) (And.intro (cell_later hb HX.out.2.1.1) (cell_later hb HX.out.2.1.2.1))))
      have HOW := Lib.hid (And.intro ho hb)
      obtain ⟨z, hcm⟩ : ∃ z, cmpI g c f b = z := ⟨_, rfl⟩
      have j0 : (0 : Int) ≤ (k : Int) := by omega
      have j1 : (k : Int) < (T.length : Int) := by omega
      clear ho hb
      go_wp2_with fail
      refine wp_region_held_drew (S := fun W => W.cell? ⟨bb, off + k * 3, none⟩ = some (.int .i64 g) ∧ W.cell? ⟨bb, off + k * 3 + 1, none⟩ = some (.int .i64 c) ∧ W.cell? ⟨w.heap.size, 0, none⟩ = some (.int .i64 f) ∧ W.cell? ⟨w.heap.size, 1, none⟩ = some (.int .i64 b) ∧ Below wr.heap.size wr W) (by kernel_rfl) ?_ (fun hHeld => ?_)
      · exact ⟨HC.out.1, HC.out.2.1, HC.out.2.2.1, HC.out.2.2.2, (Below.refl _ _).drew⟩
      refine takeH (i := 0) (v := ?_) rfl rfl (by kernel_rfl) (by kernel_rfl) (by kernel_rfl) (fun _ _ _ h => h) (by rfl) ?_ (by assumption) ?_
      rotate_left 1
      · intro w hSw
        (try dsimp only at hSw)
        go_simp
        try with_reducible rfl
      try simp only [List.setIfInBounds_toArray, List.set_cons_zero, List.set_cons_succ]
      refine takeH (i := 1) (v := ?_) rfl rfl (by kernel_rfl) (by kernel_rfl) (by kernel_rfl) (fun _ _ _ h => h) (by rfl) ?_ (by assumption) ?_
      rotate_left 1
      · intro w hSw
        (try dsimp only at hSw)
        go_simp
        try with_reducible rfl
      try simp only [List.setIfInBounds_toArray, List.set_cons_zero, List.set_cons_succ]
      refine takeH (i := 2) (v := ?_) rfl rfl (by kernel_rfl) (by kernel_rfl) (by kernel_rfl) (fun _ _ _ h => h) (by rfl) ?_ (by assumption) ?_
      rotate_left 1
      · intro w hSw
        (try dsimp only at hSw)
        go_simp
        try with_reducible rfl
      try simp only [List.setIfInBounds_toArray, List.set_cons_zero, List.set_cons_succ]
      refine takeH (i := 3) (v := ?_) rfl rfl (by kernel_rfl) (by kernel_rfl) (by kernel_rfl) (fun _ _ _ h => h) (by rfl) ?_ (by assumption) ?_
      rotate_left 1
      · intro w hSw
        (try dsimp only at hSw)
        go_simp
        try with_reducible rfl
      try simp only [List.setIfInBounds_toArray, List.set_cons_zero, List.set_cons_succ]
      refine takeH (i := 4) (v := ?_) rfl rfl (by kernel_rfl) (by kernel_rfl) (by kernel_rfl) (fun _ _ _ h => h) (by rfl) ?_ (by assumption) ?_
      rotate_left 1
      · intro w hSw
        (try dsimp only at hSw)
        go_simp
        try with_reducible rfl
      try simp only [List.setIfInBounds_toArray, List.set_cons_zero, List.set_cons_succ]
      refine takeH (i := 5) (v := ?_) rfl rfl (by kernel_rfl) (by kernel_rfl) (by kernel_rfl) (fun _ _ _ h => h) (by rfl) ?_ (by assumption) ?_
      rotate_left 1
      · intro w hSw
        (try dsimp only at hSw)
        go_simp
        try with_reducible rfl
      try simp only [List.setIfInBounds_toArray, List.set_cons_zero, List.set_cons_succ]
      refine takeH (i := 6) (v := ?_) rfl rfl (by kernel_rfl) (by kernel_rfl) (by kernel_rfl) (fun _ _ _ h => h) (by rfl) ?_ (by assumption) ?_
      rotate_left 1
      · intro w hSw
        (try dsimp only at hSw)
        go_simp
        try with_reducible rfl
      try simp only [List.setIfInBounds_toArray, List.set_cons_zero, List.set_cons_succ]
      refine wpAnyH_ready (rs := [7]) (by kernel_rfl) (by simp) ?_
      refine AllReadyH.cons rfl (fun K hK => ?_) (AllReadyH.nil)
      go_simp
      refine (lcmp_is hcm _).mono ?_
      rintro e w1 ⟨rfl, hb1⟩
      go_wp2_with fail
      refine hK.out _ _ ?_ (fun hNew => ?_)
      · exact ⟨cell_later hb1 hHeld.1, cell_later hb1 hHeld.2.1, cell_later hb1 hHeld.2.2.1, cell_later hb1 hHeld.2.2.2.1, hHeld.2.2.2.2.trans hb1⟩
      clear hK K hHeld
      have hHeld := hNew
      clear hNew
      try simp only [Act.put, List.setIfInBounds_toArray, List.set_cons_zero, List.set_cons_succ]
      refine takeH (i := 8) (v := ?_) rfl rfl (by kernel_rfl) (by kernel_rfl) (by kernel_rfl) (fun _ _ _ h => h) (by rfl) ?_ (by assumption) ?_
      rotate_left 1
      · intro w hSw
        (try dsimp only at hSw)
        go_simp
        try with_reducible rfl
      try simp only [List.setIfInBounds_toArray, List.set_cons_zero, List.set_cons_succ]
      refine wpAnyH_done (by kernel_rfl) ?_ _
      have HO1 := Lib.hid (owns_later HOW.out.1 hHeld.2.2.2.2)
      have HB1 := Lib.hid (HOW.out.2.trans (hHeld.2.2.2.2.mono hsX))
      have hs1 := HB1.out.size
      have y0 := cell_later HB1.out c0.out
      have y1 := cell_later HB1.out c1.out
      have y2 := cell_later HB1.out c2.out
      have x0 := cell_later HB1.out HX.out.2.1.1
      have x1 := cell_later HB1.out HX.out.2.1.2.1
      have x2 := cell_later HB1.out HX.out.2.1.2.2
      clear hHeld HOW HC
      have hz3 : z < 0 ∨ z = 0 ∨ 0 < z := by omega
      have HCM := Lib.hid hcm
      clear hcm
      cases hs : (PS T (f, b, v) k).2 with
      | false =>
        rcases hz3 with hz | hz | hz
        · have hzn : (z != 0) = true := by simp; omega
          have hzg : decide (0 ≤ z) = false := by simp; omega
          have HSS := Lib.hid hs
          have HS := Lib.hid ((PS_succ hTk.out).trans (putStep_low (e := (f, b, v)) (a := (g, c, u)) (s := PS T (f, b, v) k) (show cmpI g c f b < 0 by rw [HCM.out]; exact hz)))
          go_wp2_with (first | (at_builtin; refine wpList_append_own _ rfl (.tmp 36) (.tmp 41) 23 rfl wX.heap.size 29 i0 (.agg #[.int .i64 0, .int .i64 0, .int .i64 0]) 3 24 Try.underlying23 hi hz0 hz1 hz2 rfl (by decide) _ ((PS T (f, b, v) k).1).length (cellsT ((PS T (f, b, v) k).1)) rfl (HO1.out.alloc _) ⟨w1.heap.size, 0, none⟩ 1 1 (cellsT [(g, c, u)]) rfl rfl (news1 w1 g c u _) (oneT _) (by (try simp only [List.length_append, List.length_cons, List.length_nil]); unfold maxLen; omega) (by (try simp only [List.length_append, List.length_cons, List.length_nil]); omega) (by simp only [World.size_alloc]; omega) ?_; intro v3 w3 own3 grow3 _; have HO3 := Lib.hid (owns_app own3); have HB3 := Lib.hid ((HB1.out.alloc (by omega) _).trans (app_below (L := (PS T (f, b, v) k).1) (HO1.out.alloc _) grow3 (by simp only [World.size_alloc]; omega))); have hs3 := HB3.out.size; clear own3 grow3))
          go_roundw
          case rel => exact ⟨k + 1, by omega, by go_num, by rw [HS.out]; rw [HSS.out], by rw [HS.out]; exact HO3.out, HB3.out⟩
          case measure => simp [intOf]; omega
        · have hzn : (z != 0) = false := by simp; omega
          have hzg : decide (0 ≤ z) = true := by simp; omega
          have HS := Lib.hid ((PS_succ hTk.out).trans (putStep_here (e := (f, b, v)) (a := (g, c, u)) (s := PS T (f, b, v) k) (show cmpI g c f b = 0 by rw [HCM.out]; exact hz) hs))
          go_wp2_with (first | (at_builtin; refine wpList_append_own _ rfl (.tmp 30) (.tmp 32) 23 rfl wX.heap.size 29 i0 (.agg #[.int .i64 0, .int .i64 0, .int .i64 0]) 3 24 Try.underlying23 hi hz0 hz1 hz2 rfl (by decide) _ ((PS T (f, b, v) k).1).length (cellsT ((PS T (f, b, v) k).1)) rfl (HO1.out.alloc _) ⟨w1.heap.size, 0, none⟩ 1 1 (cellsT [(f, b, v)]) rfl rfl (news1 w1 f b v _) (oneT _) (by (try simp only [List.length_append, List.length_cons, List.length_nil]); unfold maxLen; omega) (by (try simp only [List.length_append, List.length_cons, List.length_nil]); omega) (by simp only [World.size_alloc]; omega) ?_; intro v2 w2 own2 grow2 _; have HO2 := Lib.hid (owns_app own2); have HB2 := Lib.hid ((HB1.out.alloc (by omega) _).trans (app_below (L := (PS T (f, b, v) k).1) (HO1.out.alloc _) grow2 (by simp only [World.size_alloc]; omega))); have hs2 := HB2.out.size; clear own2 grow2))
          go_roundw
          case rel => exact ⟨k + 1, by omega, by go_num, by rw [HS.out], by rw [HS.out]; exact HO2.out, HB2.out⟩
          case measure => simp [intOf]; omega
        · have hzn : (z != 0) = true := by simp; omega
          have hzg : decide (0 ≤ z) = true := by simp; omega
          have HS := Lib.hid ((PS_succ hTk.out).trans (putStep_both (e := (f, b, v)) (a := (g, c, u)) (s := PS T (f, b, v) k) (show 0 < cmpI g c f b by rw [HCM.out]; exact hz) hs))
          go_wp2_with (first | (at_builtin; refine wpList_append_own _ rfl (.tmp 30) (.tmp 32) 23 rfl wX.heap.size 29 i0 (.agg #[.int .i64 0, .int .i64 0, .int .i64 0]) 3 24 Try.underlying23 hi hz0 hz1 hz2 rfl (by decide) _ ((PS T (f, b, v) k).1).length (cellsT ((PS T (f, b, v) k).1)) rfl (HO1.out.alloc _) ⟨w1.heap.size, 0, none⟩ 1 1 (cellsT [(f, b, v)]) rfl rfl (news1 w1 f b v _) (oneT _) (by (try simp only [List.length_append, List.length_cons, List.length_nil]); unfold maxLen; omega) (by (try simp only [List.length_append, List.length_cons, List.length_nil]); omega) (by simp only [World.size_alloc]; omega) ?_; intro v2 w2 own2 grow2 _; have HO2 := Lib.hid (owns_app own2); have HB2 := Lib.hid ((HB1.out.alloc (by omega) _).trans (app_below (L := (PS T (f, b, v) k).1) (HO1.out.alloc _) grow2 (by simp only [World.size_alloc]; omega))); have hs2 := HB2.out.size; clear own2 grow2; have y0 := cell_later HB2.out c0.out; have y1 := cell_later HB2.out c1.out; have y2 := cell_later HB2.out c2.out) | (at_builtin; refine wpList_append_own _ rfl (.tmp 36) (.tmp 41) 23 rfl wX.heap.size 29 i0 (.agg #[.int .i64 0, .int .i64 0, .int .i64 0]) 3 24 Try.underlying23 hi hz0 hz1 hz2 rfl (by decide) _ ((PS T (f, b, v) k).1 ++ [(f, b, v)]).length (cellsT ((PS T (f, b, v) k).1 ++ [(f, b, v)])) rfl (HO2.out.alloc _) ⟨w2.heap.size, 0, none⟩ 1 1 (cellsT [(g, c, u)]) rfl rfl (news1 w2 g c u _) (oneT _) (by (try simp only [List.length_append, List.length_cons, List.length_nil]); unfold maxLen; omega) (by (try simp only [List.length_append, List.length_cons, List.length_nil]); omega) (by simp only [World.size_alloc]; omega) ?_; intro v3 w3 own3 grow3 _; have HO3 := Lib.hid (owns_app own3); have HB3 := Lib.hid ((HB2.out.alloc (by omega) _).trans (app_below (L := (PS T (f, b, v) k).1 ++ [(f, b, v)]) (HO2.out.alloc _) grow3 (by simp only [World.size_alloc]; omega))); have hs3 := HB3.out.size; clear own3 grow3))
          go_roundw
          case rel => exact ⟨k + 1, by omega, by go_num, by rw [HS.out], by rw [HS.out]; exact HO3.out, HB3.out⟩
          case measure => simp [intOf]; omega
      | true =>
        rcases hz3 with hz | hz | hz
        · have hzn : (z != 0) = true := by simp; omega
          have HSS := Lib.hid hs
          have HS := Lib.hid ((PS_succ hTk.out).trans (putStep_low (e := (f, b, v)) (a := (g, c, u)) (s := PS T (f, b, v) k) (show cmpI g c f b < 0 by rw [HCM.out]; exact hz)))
          go_wp2_with (first | (at_builtin; refine wpList_append_own _ rfl (.tmp 36) (.tmp 41) 23 rfl wX.heap.size 29 i0 (.agg #[.int .i64 0, .int .i64 0, .int .i64 0]) 3 24 Try.underlying23 hi hz0 hz1 hz2 rfl (by decide) _ ((PS T (f, b, v) k).1).length (cellsT ((PS T (f, b, v) k).1)) rfl (HO1.out.alloc _) ⟨w1.heap.size, 0, none⟩ 1 1 (cellsT [(g, c, u)]) rfl rfl (news1 w1 g c u _) (oneT _) (by (try simp only [List.length_append, List.length_cons, List.length_nil]); unfold maxLen; omega) (by (try simp only [List.length_append, List.length_cons, List.length_nil]); omega) (by simp only [World.size_alloc]; omega) ?_; intro v3 w3 own3 grow3 _; have HO3 := Lib.hid (owns_app own3); have HB3 := Lib.hid ((HB1.out.alloc (by omega) _).trans (app_below (L := (PS T (f, b, v) k).1) (HO1.out.alloc _) grow3 (by simp only [World.size_alloc]; omega))); have hs3 := HB3.out.size; clear own3 grow3))
          go_roundw
          case rel => exact ⟨k + 1, by omega, by go_num, by rw [HS.out]; rw [HSS.out], by rw [HS.out]; exact HO3.out, HB3.out⟩
          case measure => simp [intOf]; omega
        · have hzn : (z != 0) = false := by simp; omega
          have HSS := Lib.hid hs
          have HS := Lib.hid ((PS_succ hTk.out).trans (putStep_same (e := (f, b, v)) (a := (g, c, u)) (s := PS T (f, b, v) k) (show cmpI g c f b = 0 by rw [HCM.out]; exact hz) hs))
          go_wp2_with fail
          go_roundw
          case rel => exact ⟨k + 1, by omega, by go_num, by rw [HS.out]; rw [HSS.out], by rw [HS.out]; exact HO1.out, HB1.out⟩
          case measure => simp [intOf]; omega
        · have hzn : (z != 0) = true := by simp; omega
          have HS := Lib.hid ((PS_succ hTk.out).trans (putStep_on (e := (f, b, v)) (a := (g, c, u)) (s := PS T (f, b, v) k) (show 0 < cmpI g c f b by rw [HCM.out]; exact hz) hs))
          go_wp2_with (first | (at_builtin; refine wpList_append_own _ rfl (.tmp 36) (.tmp 41) 23 rfl wX.heap.size 29 i0 (.agg #[.int .i64 0, .int .i64 0, .int .i64 0]) 3 24 Try.underlying23 hi hz0 hz1 hz2 rfl (by decide) _ ((PS T (f, b, v) k).1).length (cellsT ((PS T (f, b, v) k).1)) rfl (HO1.out.alloc _) ⟨w1.heap.size, 0, none⟩ 1 1 (cellsT [(g, c, u)]) rfl rfl (news1 w1 g c u _) (oneT _) (by (try simp only [List.length_append, List.length_cons, List.length_nil]); unfold maxLen; omega) (by (try simp only [List.length_append, List.length_cons, List.length_nil]); omega) (by simp only [World.size_alloc]; omega) ?_; intro v3 w3 own3 grow3 _; have HO3 := Lib.hid (owns_app own3); have HB3 := Lib.hid ((HB1.out.alloc (by omega) _).trans (app_below (L := (PS T (f, b, v) k).1) (HO1.out.alloc _) grow3 (by simp only [World.size_alloc]; omega))); have hs3 := HB3.out.size; clear own3 grow3))
          go_roundw
          case rel => exact ⟨k + 1, by omega, by go_num, by rw [HS.out], by rw [HS.out]; exact HO3.out, HB3.out⟩
          case measure => simp [intOf]; omega
    · obtain rfl : k = T.length := by omega
      have HO1 := Lib.hid ho
      have HB1 := Lib.hid hb
      have x0 := cell_later hb HX.out.2.1.1
      have x1 := cell_later hb HX.out.2.1.2.1
      have x2 := cell_later hb HX.out.2.1.2.2
      clear ho hb
      cases hs : (PS T (f, b, v) T.length).2 with
      | true =>
        have HE := Lib.hid (show U = (PS T (f, b, v) T.length).1 by rw [hPE.out]; simp [putEnd, hs])
        go_wp2_with fail
        go_ret
        exact ⟨_, rfl, by rw [HE.out]; exact owns_mono HO1.out (by omega), HX.out.2.2.trans (HB1.out.mono (by omega))⟩
      | false =>
        have HE := Lib.hid (show U = (PS T (f, b, v) T.length).1 ++ [(f, b, v)] by rw [hPE.out]; simp [putEnd, hs])
        go_wp2_with (first | (at_builtin; refine wpList_append_own _ rfl (.tmp 45) (.tmp 47) 23 rfl wX.heap.size 29 i0 (.agg #[.int .i64 0, .int .i64 0, .int .i64 0]) 3 24 Try.underlying23 hi hz0 hz1 hz2 rfl (by decide) _ ((PS T (f, b, v) T.length).1).length (cellsT ((PS T (f, b, v) T.length).1)) rfl (HO1.out.alloc _) ⟨wr.heap.size, 0, none⟩ 1 1 (cellsT [(f, b, v)]) rfl rfl (news1 wr f b v _) (oneT _) (by (try simp only [List.length_append, List.length_cons, List.length_nil]); unfold maxLen; omega) (by (try simp only [List.length_append, List.length_cons, List.length_nil]); omega) (by simp only [World.size_alloc]; omega) ?_; intro v2 w2 own2 grow2 _; have HO2 := Lib.hid (owns_app own2); have HB2 := Lib.hid ((HB1.out.alloc (by omega) _).trans (app_below (L := (PS T (f, b, v) T.length).1) (HO1.out.alloc _) grow2 (by simp only [World.size_alloc]; omega))); have hs2 := HB2.out.size; clear own2 grow2))
        go_ret
        exact ⟨_, rfl, by rw [HE.out]; exact owns_mono HO2.out (by omega), HX.out.2.2.trans (HB2.out.mono (by omega))⟩
  -- END
end Go.Proofs.Ytnabcffpficgcaa
