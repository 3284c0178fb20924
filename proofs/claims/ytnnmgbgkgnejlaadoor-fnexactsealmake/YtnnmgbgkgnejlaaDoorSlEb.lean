/-
  The exact laws' helpers on seals: sizes, copies, comparisons.
-/
import Derived.Test.YtnnmgbgkgnejlaaDoorSlEa
import Derived.Test.YtnnmgbgkgnejlaaDoorSlOp
import Derived.Test.YtnnmgbgkgnejlaaDoorRtTo
import Derived.Test.YtnnmgbgkgnejlaaDoorSlDn
namespace Go.Proofs.YtnnmgbgkgnejlaaDoor
open Go.RowKit
set_option linter.unusedSimpArgs false
set_option linter.unusedVariables false

set_option maxHeartbeats 400000 in
theorem szsl_is (v : SV) {left z : Int} (h : szI left v.P.length = z) (h0 : 0 ≤ left) (h1 : left ≤ 2000000) (hn : v.P.length ≤ 9223372036854775807) (w : World) :
    Calls Tryd.prog 44 #[slV v, .int .i64 left] w fun e w' => e = .returned (.int .i64 z) ∧ Below w.heap.size w w' := by
  have HB := Lib.hid ((Below.refl w.heap.size w).alloc (Nat.le_refl _) (.cells #[.int .i64 v.y, .int .i64 v.t, .int .i64 v.f, .int .i64 v.b, .slice v.a v.P.length v.c] 67))
  by_cases hz : z < 0
  · have hz1 : z = -1 := by rw [← h] at hz ⊢; unfold szI at hz ⊢; split at hz <;> simp_all <;> omega
    subst hz1
    go_enter Tryd.func44, Tryd.ntmps44
    go_wp2_with fail
    refine (szI_is h h0 h1 hn _ _ _).mono ?_
    rintro en wq ⟨rfl, rfl⟩
    go_wp2_with fail
    go_ret
    exact ⟨rfl, HB.out⟩
  · go_enter Tryd.func44, Tryd.ntmps44
    go_wp2_with fail
    refine (szI_is h h0 h1 hn _ _ _).mono ?_
    rintro en wq ⟨rfl, rfl⟩
    go_wp2_with fail
    go_ret
    exact ⟨rfl, HB.out⟩
theorem SlB.at {w : World} {a : Option Addr} {L : List SV} (h : SlB w a L) {k : Nat} {v : SV} (hk : L[k]? = some v) : ∃ b off, a = some ⟨b, off, none⟩ ∧ SlC w b (off + k * 5) v ∧ (IntA w v.a v.P ∧ v.P.length ≤ v.c) ∧ v.P.length ≤ 9223372036854775807 := by
  have hm := h.2 v (List.mem_of_getElem? hk)
  rcases h.1 with rfl | ⟨b, off, e, h1⟩
  · simp at hk
  · exact ⟨b, off, e, h1 k v hk, hm.1, hm.2.1⟩
set_option maxRecDepth 100000 in
set_option maxHeartbeats 2000000 in
theorem szsls_any (Z : Int) (hZ0 : 0 ≤ Z) (hZ1 : Z ≤ 1048576) (L : List SV) (a : Option Addr) (cap n : Nat) (w : World) (hn : n = L.length) (hA : SlB w a L) (hl : n ≤ 9223372036854775807) :
    Calls Tryd.prog 43 #[.slice a n cap, .int .i64 Z] w fun e w' => ∃ z, e = .returned (.int .i64 z) ∧ (0 ≤ z → z ≤ Z ∧ L.length ≤ 1048576 ∧ ∀ v ∈ L, v.P.length ≤ 1048576) ∧ Below w.heap.size w w' := by
  subst hn
  have HA := Lib.hid hA
  clear hA
  have s1 : IntKind.i64.wrap (Z - (L.length : Int)) = Z - (L.length : Int) := by rw [IntKind.wrap_i64]; omega
  by_cases hbig : Z < L.length
  · have d1 : Z - (L.length : Int) < 0 := by omega
    go_enter Tryd.func43, Tryd.ntmps43
    go_wp2_with fail
    go_ret
    exact ⟨-1, rfl, fun h => by omega, Below.refl _ _⟩
  · have d1 : ¬ Z - (L.length : Int) < 0 := by omega
    go_enter Tryd.func43, Tryd.ntmps43
    go_wp2_with fail
    go_loopw [1, 5] (fun q i wr => ∃ (k : Nat) (z : Int), i = .int .i64 (k : Int) ∧ q = .int .i64 z ∧ k ≤ L.length ∧ 0 ≤ z ∧ z ≤ Z ∧ Hid (∀ (j : Nat) v, j < k → L[j]? = some v → v.P.length ≤ 1048576) ∧ Hid (Below w.heap.size w wr)) (fun _ i _ => L.length - (intOf i).toNat)
    case atStart => exact ⟨0, _, rfl, rfl, Nat.zero_le _, by omega, by omega, Lib.hid (fun j v hj => by omega), Lib.hid (Below.refl _ _)⟩
    case round =>
      obtain ⟨k, z, rfl, rfl, hk, hz0, hz1, HS, HW⟩ := hrel
      by_cases hlt : k < L.length
      · obtain ⟨v, hv⟩ : ∃ v, L[k]? = some v := ⟨_, List.getElem?_eq_getElem hlt⟩
        have HV := Lib.hid hv
        obtain ⟨b, off, rfl, ⟨q0, q1, q2, q3, q4⟩, _, hp1⟩ := (HA.out.below HW.out).at hv
        have i0 : (0 : Int) ≤ (k : Int) := by omega
        have i1 : (k : Int) < (L.length : Int) := by omega
        clear hv
        by_cases hfit : (v.P.length : Int) ≤ z
        · have HZ := Lib.hid (show szI z v.P.length = z - (v.P.length : Int) by unfold szI; rw [if_neg (by omega)])
          have d2 : ¬ z - (v.P.length : Int) < 0 := by omega
          have HS2 : Hid (∀ (j : Nat) u, j < k + 1 → L[j]? = some u → u.P.length ≤ 1048576) := Lib.hid (fun j u hj hu => by
            by_cases e : j = k
            · subst e
              rw [HV.out] at hu
              cases hu
              omega
            · exact HS.out j u (by omega) hu)
          obtain ⟨y, hy⟩ : ∃ y, z - (v.P.length : Int) = y := ⟨_, rfl⟩
          rw [hy] at HZ d2
          have hy0 : 0 ≤ y ∧ y ≤ Z := by omega
          clear hy hfit
          go_wp2_with fail
          refine (szsl_is v HZ.out hz0 (by omega) hp1 _).mono ?_
          rintro en w3 ⟨rfl, b3⟩
          have HW3 := Lib.hid (next HW.out b3)
          clear b3 q0 q1 q2 q3 q4
          go_wp2_with fail
          go_roundw
          case rel => exact ⟨k + 1, y, by go_num, rfl, by omega, hy0.1, hy0.2, HS2, HW3⟩
          case measure => simp [intOf]; omega
        · have HZ := Lib.hid (show szI z v.P.length = -1 by unfold szI; rw [if_pos (by omega)])
          go_wp2_with fail
          refine (szsl_is v HZ.out hz0 (by omega) hp1 _).mono ?_
          rintro en w3 ⟨rfl, b3⟩
          have HW3 := Lib.hid (next HW.out b3)
          clear b3 q0 q1 q2 q3 q4
          go_wp2_with fail
          go_ret
          exact ⟨-1, rfl, fun h => by omega, HW3.out⟩
      · obtain rfl : k = L.length := by omega
        go_wp2_with fail
        go_ret
        exact ⟨z, rfl, fun _ => ⟨by omega, by omega, fun v hv => by
          obtain ⟨i, hi⟩ := List.mem_iff_getElem?.1 hv
          exact HS.out i v (List.getElem?_eq_some_iff.1 hi).1 hi⟩, HW.out⟩
set_option maxRecDepth 100000 in
set_option maxHeartbeats 2000000 in
theorem tsl_at (y t f b : Int) (a : Option Addr) (c : Nat) (P : List Int) (w : World) (hI : IntA w a P) (hl : P.length ≤ 1048576) :
    Calls Tryd.prog 46 #[.agg #[.int .i64 y, .int .i64 t, .int .i64 f, .int .i64 b, .slice a P.length c]] w fun e w' => ∃ (a' : Option Addr) (c' : Nat), e = .returned (.agg #[.int .i64 y, .int .i64 t, .int .i64 f, .int .i64 b, .slice a' P.length c']) ∧ OwnI w' w.heap.size (.slice a' P.length c') P ∧ Below w.heap.size w w' := by
  obtain ⟨w1, hw1⟩ : ∃ W, ((w.alloc (.cells #[.int .i64 y, .int .i64 t, .int .i64 f, .int .i64 b, .slice a P.length c] 67)).alloc (.cells #[.int .i64 0, .int .i64 0, .int .i64 0, .int .i64 0, .slice none 0 0] 34)).alloc (.cells #[.int .i64 0, .int .i64 0, .int .i64 0, .int .i64 0, .slice none 0 0] 34) = W := ⟨_, rfl⟩
  have hb : Below w.heap.size w w1 := by rw [← hw1]; exact (((Below.refl _ _).alloc (Nat.le_refl _) _).alloc (by simp) _).alloc (by simp; omega) _
  have P1 := Lib.hid (show AtY w1 w.heap.size [.int .i64 y, .int .i64 t, .int .i64 f, .int .i64 b, .slice a P.length c] by rw [← hw1]; exact ((AtY.new5 w _ _ _ _ _ _).below ((Below.refl _ _).alloc (Nat.le_refl _) _)).below ((Below.refl _ _).alloc (Nat.le_refl _) _))
  have R1 := Lib.hid (show AtY w1 (w.heap.size + 1) [.int .i64 0, .int .i64 0, .int .i64 0, .int .i64 0, .slice none 0 0] by
    rw [← hw1]
    have h1 := AtY.new5 (w.alloc (.cells #[.int .i64 y, .int .i64 t, .int .i64 f, .int .i64 b, .slice a P.length c] 67)) (.int .i64 0) (.int .i64 0) (.int .i64 0) (.int .i64 0) (.slice none 0 0) 34
    simp only [World.size_alloc] at h1
    exact h1.below ((Below.refl _ _).alloc (Nat.le_refl _) _))
  have O1 := Lib.hid (show AtY w1 (w.heap.size + 2) [.int .i64 0, .int .i64 0, .int .i64 0, .int .i64 0, .slice none 0 0] by
    rw [← hw1]
    have h1 := AtY.new5 ((w.alloc (.cells #[.int .i64 y, .int .i64 t, .int .i64 f, .int .i64 b, .slice a P.length c] 67)).alloc (.cells #[.int .i64 0, .int .i64 0, .int .i64 0, .int .i64 0, .slice none 0 0] 34)) (.int .i64 0) (.int .i64 0) (.int .i64 0) (.int .i64 0) (.slice none 0 0) 34
    simp only [World.size_alloc] at h1
    exact h1)
  have HB := Lib.hid hb
  have HI := Lib.hid hI
  have hs1 : w1.heap.size = w.heap.size + 3 := by rw [← hw1]; simp
  have HS1 := Lib.hid hs1
  clear hb hs1 hI
  obtain ⟨q0, q1, q2, q3, q4⟩ := P1.out.five
  go_enter Tryd.func46, Tryd.ntmps46
  go_wp2_with (refine wpList_st1Y rfl 3 _ _ rfl (w.heap.size + 2) 0 (.int .i64 y) ?x1 ?y1 rfl rfl infoI1s _ O1.out (by simp) ?g1)
  try case x1 => simp [Act.eval]
  try case y1 => simp [Act.eval]
  intro w2 a2 g2
  have O2 := Lib.hid (show AtY w2 (w.heap.size + 2) [.int .i64 y, .int .i64 0, .int .i64 0, .int .i64 0, .slice none 0 0] from a2)
  have P2 := Lib.hid (P1.out.only g2 (by simp))
  have R2 := Lib.hid (R1.out.only g2 (by simp))
  have B2 := Lib.hid (HB.out.grown g2 HB.out.size (fun k hk => by cases hk; omega))
  clear a2 g2 q0 q1 q2 q3 q4 hw1
  obtain ⟨q0, q1, q2, q3, q4⟩ := P2.out.five
  go_wp2_with (refine wpList_st1Y rfl 3 _ _ rfl (w.heap.size + 2) 1 (.int .i64 t) ?x2 ?y2 rfl rfl infoI1s _ O2.out (by simp) ?g2)
  try case x2 => simp [Act.eval]
  try case y2 => simp [Act.eval]
  intro w3 a3 g3
  have O3 := Lib.hid (show AtY w3 (w.heap.size + 2) [.int .i64 y, .int .i64 t, .int .i64 0, .int .i64 0, .slice none 0 0] from a3)
  have P3 := Lib.hid (P2.out.only g3 (by simp))
  have R3 := Lib.hid (R2.out.only g3 (by simp))
  have B3 := Lib.hid (B2.out.grown g3 B2.out.size (fun k hk => by cases hk; omega))
  clear a3 g3 q0 q1 q2 q3 q4
  obtain ⟨q0, q1, q2, q3, q4⟩ := P3.out.five
  go_wp2_with fail
  refine (to_any f b _).mono ?_
  rintro en w4 ⟨rfl, b4⟩
  have O4 := Lib.hid (O3.out.below b4)
  have R4 := Lib.hid (R3.out.below b4)
  have P4 := Lib.hid (P3.out.below b4)
  have B4 := Lib.hid (next B3.out b4)
  clear b4 q0 q1 q2 q3 q4
  go_wp2_with (refine wpList_stNY rfl 24 _ _ rfl (w.heap.size + 2) 2 #[.int .i64 f, .int .i64 b] ?x3 ?y3 ?o3 ?i3 _ O4.out (by simp) ?g3)
  try case x3 => simp [Act.eval]
  try case y3 => simp [Act.eval]
  try case o3 => simp [Value.oneCell']
  try case i3 => rfl
  intro w5 a5 g5
  have O5 := Lib.hid (show AtY w5 (w.heap.size + 2) [.int .i64 y, .int .i64 t, .int .i64 f, .int .i64 b, .slice none 0 0] from a5)
  have R5 := Lib.hid (R4.out.only g5 (by simp))
  have P5 := Lib.hid (P4.out.only g5 (by simp))
  have B5 := Lib.hid (B4.out.grown g5 B4.out.size (fun k hk => by cases hk; omega))
  clear a5 g5
  obtain ⟨q0, q1, q2, q3, q4⟩ := P5.out.five
  go_wp2_with fail
  refine (toI_any a c P _ (HI.out.below B5.out) hl).mono ?_
  rintro en w6 ⟨v6, rfl, o6, b6⟩
  obtain ⟨pa, pc, rfl, _, _⟩ := OwnI.tab o6
  have O6 := Lib.hid (O5.out.below b6)
  have R6 := Lib.hid (R5.out.below b6)
  have B6 := Lib.hid (next B5.out b6)
  have hs5 := Lib.hid B5.out.size
  have D6 := Lib.hid (show OwnI w6 w5.heap.size (.slice pa P.length pc) P from o6)
  have L5 := Lib.hid (O5.out.lt (by simp))
  clear b6 o6 q0 q1 q2 q3 q4
  go_wp2_with (refine wpList_st1Y rfl 25 _ _ rfl (w.heap.size + 2) 4 (.slice pa P.length pc) ?x4 ?y4 rfl rfl ?i4 _ O6.out (by simp) ?g4)
  try case x4 => simp [Act.eval]
  try case y4 => simp [Act.eval]
  try case i4 => rfl
  intro w7 a7 g7
  have O7 := Lib.hid (show AtY w7 (w.heap.size + 2) [.int .i64 y, .int .i64 t, .int .i64 f, .int .i64 b, .slice pa P.length pc] from a7)
  have R7 := Lib.hid (R6.out.only g7 (by simp))
  have B7 := Lib.hid (B6.out.grown g7 B6.out.size (fun k hk => by cases hk; omega))
  have D7 := Lib.hid (owni_pick D6.out g7 (by have := L5.out; omega))
  clear a7 g7
  obtain ⟨q0, q1, q2, q3, q4⟩ := O7.out.five
  go_wp2_with (refine wpList_stY rfl 34 _ _ rfl (w.heap.size + 1) #[.int .i64 y, .int .i64 t, .int .i64 f, .int .i64 b, .slice pa P.length pc] ?x5 ?y5 ?o5 ?i5 _ R7.out rfl ?g5)
  try case x5 => simp [Act.eval]
  try case y5 => simp [Act.eval]
  try case o5 => simp [Value.oneCell']
  try case i5 => rfl
  intro w8 a8 g8
  obtain ⟨r0, r1, r2, r3, r4⟩ := a8.five
  have B8 := Lib.hid (B7.out.grown g8 B7.out.size (fun k hk => by cases hk; omega))
  have D8 := Lib.hid (owni_mono (owni_pick D7.out g8 (by have := L5.out; omega)) hs5.out)
  clear a8 g8 q0 q1 q2 q3 q4
  go_wp2_with fail
  exact bodyPost_ret (v := .agg #[.int .i64 y, .int .i64 t, .int .i64 f, .int .i64 b, .slice pa P.length pc]) (by simp [results, Tryd.results46, go_sem, r0, r1, r2, r3, r4]) rfl ⟨pa, pc, rfl, D8.out, B8.out⟩
/-! slices of seals -/
abbrev zSV : SV := ⟨0, 0, 0, 0, none, 0, []⟩
theorem sl_rep (n : Nat) : ∀ i, i < n * 5 → (cellsSl (List.replicate n zSV))[i]? = zSV.cells[i % 5]? := fun i hi => by
  have h := cellsSl_at (L := List.replicate n zSV) (k := i / 5) (v := zSV) (j := i % 5) (by rw [List.getElem?_replicate, if_pos (by omega)]) (by omega)
  rw [show i / 5 * 5 + i % 5 = i by omega] at h
  exact h
theorem madeSl (n : Nat) : (madeCells #[.int .i64 0, .int .i64 0, .int .i64 0, .int .i64 0, .slice none 0 0] (n * 5)).toList = cellsSl (List.replicate n zSV) := by
  apply List.ext_getElem?
  intro i
  by_cases hi : i < n * 5
  · rw [sl_rep n i hi, List.getElem?_eq_getElem (by simpa [size_madeCells] using hi)]
    simp only [madeCells, Array.toList_map, List.getElem_map]
    have h5 : i % 5 < 5 := by omega
    simp
    match i % 5, h5 with
    | 0, _ => rfl
    | 1, _ => rfl
    | 2, _ => rfl
    | 3, _ => rfl
    | 4, _ => rfl
  · rw [List.getElem?_eq_none (by simp [size_madeCells]; omega), List.getElem?_eq_none (by rw [cellsSl_len]; simp; omega)]
/-- how far the copy has come -/
structure TsI (w : World) (L : List SV) (k : Nat) (LB : List SV) (W : World) : Prop where
  len : LB.length = L.length
  own : OwnSl W w.heap.size (.slice (some ⟨w.heap.size, 0, none⟩) LB.length L.length) LB
  eq : ∀ j x u, j < k → LB[j]? = some x → L[j]? = some u → OwnI W w.heap.size x.s x.P ∧ x.p = u.p
  bel : Below w.heap.size w W
theorem TsI.all {w W : World} {L LB : List SV} (h : TsI w L L.length LB W) (hs : ∀ v ∈ L, v.P.length ≤ 1048576) : SlO W w.heap.size (.slice (some ⟨w.heap.size, 0, none⟩) LB.length L.length) LB ∧ sealsP LB = sealsP L ∧ SlA W (some ⟨w.heap.size, 0, none⟩) LB := by
  have each : ∀ x ∈ LB, OwnI W w.heap.size x.s x.P ∧ ∃ u ∈ L, x.p = u.p := fun x hx => by
    obtain ⟨j, hj⟩ := List.mem_iff_getElem?.1 hx
    have hjl := (List.getElem?_eq_some_iff.1 hj).1
    have hjL : j < L.length := by have := h.len; omega
    obtain ⟨h1, h2⟩ := h.eq j x _ hjL hj (List.getElem?_eq_getElem hjL)
    exact ⟨h1, _, List.getElem_mem hjL, h2⟩
  have hO : SlO W w.heap.size (.slice (some ⟨w.heap.size, 0, none⟩) LB.length L.length) LB := ⟨h.own, fun x hx => (each x hx).1⟩
  refine ⟨hO, ?_, SlO.sla hO (fun x hx => ?_)⟩
  · refine List.ext_getElem? fun j => ?_
    unfold sealsP
    rw [List.getElem?_map, List.getElem?_map]
    by_cases hj : j < L.length
    · have hjB : j < LB.length := by have := h.len; omega
      have := (h.eq j _ _ hj (List.getElem?_eq_getElem hjB) (List.getElem?_eq_getElem hj)).2
      rw [List.getElem?_eq_getElem hjB, List.getElem?_eq_getElem hj]
      exact congrArg some this
    · rw [List.getElem?_eq_none (by have := h.len; omega), List.getElem?_eq_none (by omega)]
  · obtain ⟨_, u, hu, e⟩ := each x hx
    have e1 : x.P = u.P := congrArg SP.P e
    rw [e1]
    have := hs u hu
    omega
set_option maxRecDepth 100000 in
set_option maxHeartbeats 2000000 in
theorem tsls_own (L : List SV) (a : Option Addr) (cap n : Nat) (w : World) (hn : n = L.length) (hA : SlB w a L) (hl : L.length ≤ 1048576) (hs : ∀ v ∈ L, v.P.length ≤ 1048576) :
    Calls Tryd.prog 45 #[.slice a n cap] w fun e w' => ∃ LB : List SV, e = .returned (.slice (some ⟨w.heap.size, 0, none⟩) LB.length L.length) ∧ LB.length = L.length ∧ SlO w' w.heap.size (.slice (some ⟨w.heap.size, 0, none⟩) LB.length L.length) LB ∧ sealsP LB = sealsP L ∧ SlA w' (some ⟨w.heap.size, 0, none⟩) LB ∧ Below w.heap.size w w' := by
  subst hn
  have HA := Lib.hid hA
  have HS := Lib.hid hs
  obtain ⟨i0, hi, hz0, hz1, hz2⟩ := info_parts infoSl
  clear hA hs
  go_enter Tryd.func45, Tryd.ntmps45
  go_wp2_with (first | (refine wpList_make_full _ rfl (.tmp 6) (.tmp 6) 30 rfl w.heap.size 34 i0 (.agg #[.int .i64 0, .int .i64 0, .int .i64 0, .int .i64 0, .slice none 0 0]) 5 Tryd.underlying30 hi hz0 hz1 .i64 .i64 _ _ L.length rfl rfl rfl rfl (by rw [hz2]; omega) (by unfold maxLen; omega) (by simp) ?_; intro w1 own1 grow1; have HBm := Lib.hid (And.intro own1 grow1); clear own1 grow1))
  have own1 := HBm.out.1
  rw [show (Value.agg #[Value.int IntKind.i64 0, .int .i64 0, .int .i64 0, .int .i64 0, .slice none 0 0]).cells = #[.int .i64 0, .int .i64 0, .int .i64 0, .int .i64 0, .slice none 0 0] from rfl, madeSl] at own1
  have hb1 : Below w.heap.size w w1 := (Below.refl _ w).grown HBm.out.2 (Nat.le_refl _) (fun _ h => by cases h)
  have I0 : Hid (TsI w L 0 (List.replicate L.length zSV) w1) := Lib.hid ⟨by simp, by rw [OwnSl, List.length_replicate]; simpa using own1, fun j x u hj => by omega, hb1⟩
  clear own1 hb1 HBm
  go_loopw [4] (fun i wr => ∃ (k : Nat) (LB : List SV), i = .int .i64 (k : Int) ∧ k ≤ L.length ∧ Hid (TsI w L k LB wr)) (fun i _ => L.length - (intOf i).toNat)
  case atStart => exact ⟨0, _, rfl, Nat.zero_le _, I0⟩
  case round =>
    clear I0
    obtain ⟨k, LB, rfl, hk, HI⟩ := hrel
    by_cases hlt : k < L.length
    · obtain ⟨v, hv⟩ : ∃ v, L[k]? = some v := ⟨_, List.getElem?_eq_getElem hlt⟩
      obtain ⟨b, off, rfl, ⟨q0, q1, q2, q3, q4⟩, hm, _⟩ := (HA.out.below HI.out.bel).at hv
      have HVk := Lib.hid hv
      have HM := Lib.hid hm.1
      have hsv := HS.out v (List.mem_of_getElem? hv)
      have i0' : (0 : Int) ≤ (k : Int) := by omega
      have i1 : (k : Int) < (L.length : Int) := by omega
      have hsz := HI.out.bel.size
      obtain ⟨vy, vt, vf, vb, va, vc, vP⟩ := v
      dsimp only at q0 q1 q2 q3 q4 hsv HM
      clear hv hm
      go_wp2_with fail
      refine (tsl_at vy vt vf vb va vc vP _ HM.out hsv).mono ?_
      rintro en w2 ⟨a2, c2, rfl, o2, b2⟩
      have HO2 := Lib.hid (ownsl_later HI.out.own b2)
      have HB2 := Lib.hid (next HI.out.bel b2)
      have HD2 := Lib.hid (owni_mono o2 hsz)
      have HE2 := Lib.hid (show ∀ j x u, j < k → LB[j]? = some x → L[j]? = some u → OwnI w2 w.heap.size x.s x.P ∧ x.p = u.p from fun j x u hj hx hu => ⟨owni_later (HI.out.eq j x u hj hx hu).1 b2, (HI.out.eq j x u hj hx hu).2⟩)
      have hkB : k < LB.length := by rw [HI.out.len]; exact hlt
      have HLB := Lib.hid HI.out.len
      have hcl := Lib.hid (cellsSl_len LB)
      obtain ⟨y, hy⟩ : ∃ y : SV, y = ⟨vy, vt, vf, vb, a2, c2, vP⟩ := ⟨_, rfl⟩
      have HY := Lib.hid hy
      clear o2 b2 q0 q1 q2 q3 q4 HI hy
      go_wp2_with (refine wpList_stRw rfl 34 _ _ rfl w.heap.size w.heap.size L.length LB.length 5 34 (cellsSl LB) HO2.out (k * 5) #[.int .i64 vy, .int .i64 vt, .int .i64 vf, .int .i64 vb, .slice a2 vP.length c2] ?x1 ?y1 ?o1 ?i1 (by rw [hcl.out]; simp; omega) ?g1)
      try case x1 => simp [Act.eval]
      try case y1 => simp [Act.eval]
      try case o1 => simp [Value.oneCell']
      try case i1 => rfl
      intro w3 o3 g3
      have ap : ∀ x : SV, OwnI w2 w.heap.size x.s x.P → OwnI w3 w.heap.size x.s x.P := fun x hx => World.ownsRow.kept hx g3 (slrows_apart hx HO2.out (by decide))
      have HI3 : Hid (TsI w L (k + 1) (LB.set k y) w3) := Lib.hid ⟨by rw [List.length_set]; exact HLB.out, by
        rw [OwnSl, List.length_set, show cellsSl (LB.set k y) = (cellsSl LB).take (k * 5) ++ y.cells ++ (cellsSl LB).drop (k * 5 + 5) from flat_set SV.cells 5 sl_five y hkB, List.append_assoc, HY.out]
        exact o3, fun j x u hj hx hu => by
          by_cases e : j = k
          · subst e
            rw [List.getElem?_set_self hkB] at hx
            rw [HVk.out] at hu
            cases hx
            cases hu
            rw [HY.out]
            exact ⟨ap ⟨vy, vt, vf, vb, a2, c2, vP⟩ HD2.out, rfl⟩
          · rw [List.getElem?_set_ne (fun h => e h.symm)] at hx
            obtain ⟨h1, h2⟩ := HE2.out j x u (by omega) hx hu
            exact ⟨ap x h1, h2⟩, HB2.out.grown g3 HB2.out.size (fun kk hk => by cases hk; exact Nat.le_refl _)⟩
      clear o3 g3 ap
      go_wp2_with fail
      go_roundw
      case rel => exact ⟨k + 1, _, by go_num, by omega, HI3⟩
      case measure => simp [intOf]; omega
    · obtain rfl : k = L.length := by omega
      have HF := Lib.hid (HI.out.all HS.out)
      have HLB := HI.out.len
      have HLB2 := Lib.hid HLB
      clear HLB
      go_wp2_with fail
      go_ret
      exact ⟨LB, (by show Ending.returned (Value.slice (some ⟨w.heap.size, 0, none⟩) L.length L.length) = _; rw [HLB2.out]), HLB2.out, HF.out.1, HF.out.2.1, HF.out.2.2, HI.out.bel⟩
set_option maxRecDepth 100000 in
set_option maxHeartbeats 1000000 in
theorem eqsl_at (y t f b : Int) (a a' : Option Addr) (c c' : Nat) (P : List Int) (w : World) (hI : IntA w a P) (hI' : IntA w a' P) (hl : P.length ≤ 2000000) :
    Calls Tryd.prog 47 #[.agg #[.int .i64 y, .int .i64 t, .int .i64 f, .int .i64 b, .slice a P.length c], .agg #[.int .i64 y, .int .i64 t, .int .i64 f, .int .i64 b, .slice a' P.length c']] w fun e w' => e = .returned (.bool true) ∧ Below w.heap.size w w' := by
  obtain ⟨w1, hw1⟩ : ∃ W, (w.alloc (.cells #[.int .i64 y, .int .i64 t, .int .i64 f, .int .i64 b, .slice a P.length c] 34)).alloc (.cells #[.int .i64 y, .int .i64 t, .int .i64 f, .int .i64 b, .slice a' P.length c'] 34) = W := ⟨_, rfl⟩
  have hb : Below w.heap.size w w1 := by rw [← hw1]; exact ((Below.refl _ _).alloc (Nat.le_refl _) _).alloc (by simp) _
  have P1 := Lib.hid (show AtY w1 w.heap.size [.int .i64 y, .int .i64 t, .int .i64 f, .int .i64 b, .slice a P.length c] by rw [← hw1]; exact (AtY.new5 w _ _ _ _ _ _).below ((Below.refl _ _).alloc (Nat.le_refl _) _))
  have R1 := Lib.hid (show AtY w1 (w.heap.size + 1) [.int .i64 y, .int .i64 t, .int .i64 f, .int .i64 b, .slice a' P.length c'] by
    rw [← hw1]
    have h1 := AtY.new5 (w.alloc (.cells #[.int .i64 y, .int .i64 t, .int .i64 f, .int .i64 b, .slice a P.length c] 34)) (.int .i64 y) (.int .i64 t) (.int .i64 f) (.int .i64 b) (.slice a' P.length c') 34
    simp only [World.size_alloc] at h1
    exact h1)
  have HB := Lib.hid hb
  have HI := Lib.hid (And.intro (hI.below hb) (hI'.below hb))
  clear hb hI hI'
  have n1 : (y != y) = false := by simp
  have n2 : (t != t) = false := by simp
  obtain ⟨q0, q1, q2, q3, q4⟩ := P1.out.five
  obtain ⟨r0, r1, r2, r3, r4⟩ := R1.out.five
  go_enter Tryd.func47, Tryd.ntmps47
  go_wp2_with fail
  refine (eqRgY_is f b _).mono ?_
  rintro en w2 ⟨rfl, b2⟩
  have HB2 := Lib.hid (next HB.out b2)
  have HI2 := Lib.hid (And.intro (HI.out.1.below b2) (HI.out.2.below b2))
  have P2 := Lib.hid (P1.out.below b2)
  have R2 := Lib.hid (R1.out.below b2)
  clear b2 q0 q1 q2 q3 q4 r0 r1 r2 r3 r4
  obtain ⟨q0, q1, q2, q3, q4⟩ := P2.out.five
  obtain ⟨r0, r1, r2, r3, r4⟩ := R2.out.five
  go_wp2_with fail
  refine (eqI_any a a' c c' P P _ HI2.out.1 HI2.out.2 (by omega) (by omega)).mono ?_
  rw [show decide (P = P) = true by simp]
  rintro en w3 ⟨rfl, b3⟩
  have HB3 := Lib.hid (next HB2.out b3)
  clear b3
  go_wp2_with fail
  go_ret
  exact ⟨rfl, HB3.out⟩
set_option maxRecDepth 100000 in
set_option maxHeartbeats 2000000 in
theorem eqsls_is (L M : List SV) (a a' : Option Addr) (cap cap' n m : Nat) (w : World) (hn : n = L.length) (hm : m = M.length) (hA : SlA w a L) (hB : SlA w a' M) (he : sealsP L = sealsP M) (hl : L.length ≤ 2000000) :
    Calls Tryd.prog 38 #[.slice a n cap, .slice a' m cap'] w fun e w' => e = .returned (.bool true) ∧ Below w.heap.size w w' := by
  subst hn hm
  have hlen : L.length = M.length := by have := congrArg List.length he; simpa [sealsP] using this
  have HA := Lib.hid hA
  have HB := Lib.hid hB
  have HQ := Lib.hid he
  have HL := Lib.hid hlen
  have e1 : ((L.length : Int) != (M.length : Int)) = false := by rw [hlen]; simp
  clear hA hB he hlen
  go_enter Tryd.func38, Tryd.ntmps38
  go_wp2_with fail
  go_loopw [5] (fun i wr => ∃ (k : Nat), i = .int .i64 (k : Int) ∧ k ≤ L.length ∧ Hid (Below w.heap.size w wr)) (fun i _ => L.length - (intOf i).toNat)
  case atStart => exact ⟨0, rfl, Nat.zero_le _, Lib.hid (Below.refl _ _)⟩
  case round =>
    obtain ⟨k, rfl, hk, HW⟩ := hrel
    by_cases hlt : k < L.length
    · obtain ⟨v, hv⟩ : ∃ v, L[k]? = some v := ⟨_, List.getElem?_eq_getElem hlt⟩
      obtain ⟨u, hu⟩ : ∃ u, M[k]? = some u := ⟨_, List.getElem?_eq_getElem (by have := HL.out; omega)⟩
      have hp : v.p = u.p := by
        have h1 : (sealsP L)[k]? = some v.p := by simp [sealsP, hv]
        have h2 : (sealsP M)[k]? = some u.p := by simp [sealsP, hu]
        rw [HQ.out, h2] at h1
        exact (Option.some.inj h1).symm
      obtain ⟨b, off, rfl, hq, hm1⟩ := (HA.out.below HW.out).at hv
      obtain ⟨b', off', rfl, hr, hm2⟩ := (HB.out.below HW.out).at hu
      obtain ⟨vy, vt, vf, vb, va, vc, vP⟩ := v
      obtain ⟨uy, ut, uf, ub, ua, uc, uP⟩ := u
      simp only [SV.p, SP.mk.injEq] at hp
      obtain ⟨rfl, rfl, rfl, rfl, rfl⟩ := hp
      unfold SlC at hq hr
      dsimp only at hq hr
      have HC := Lib.hid (And.intro hq hr)
      have HM1 := Lib.hid hm1
      have HM2 := Lib.hid hm2
      have i0 : (0 : Int) ≤ (k : Int) := by omega
      have i1 : (k : Int) < (L.length : Int) := by omega
      have i2 : (k : Int) < (M.length : Int) := by have := HL.out; omega
      clear hv hu hq hr hm1 hm2
      go_wp2_with fail
      refine wp_region_held_drew (S := fun W => ((W.cell? ⟨b, off + k * 5, none⟩ = some (.int .i64 vy) ∧ W.cell? ⟨b, off + k * 5 + 1, none⟩ = some (.int .i64 vt) ∧ W.cell? ⟨b, off + k * 5 + 2, none⟩ = some (.int .i64 vf) ∧ W.cell? ⟨b, off + k * 5 + 3, none⟩ = some (.int .i64 vb) ∧ W.cell? ⟨b, off + k * 5 + 4, none⟩ = some (.slice va vP.length vc)) ∧ W.cell? ⟨b', off' + k * 5, none⟩ = some (.int .i64 vy) ∧ W.cell? ⟨b', off' + k * 5 + 1, none⟩ = some (.int .i64 vt) ∧ W.cell? ⟨b', off' + k * 5 + 2, none⟩ = some (.int .i64 vf) ∧ W.cell? ⟨b', off' + k * 5 + 3, none⟩ = some (.int .i64 vb) ∧ W.cell? ⟨b', off' + k * 5 + 4, none⟩ = some (.slice ua vP.length uc)) ∧ Hid (Below w.heap.size w W ∧ Below wr.heap.size wr W)) (by kernel_rfl) ?_ (fun hHeld => ?_)
      · exact ⟨HC.out, Lib.hid ⟨HW.out.drew, (Below.refl _ wr).drew⟩⟩
      refine takeH (i := 0) (v := ?_) rfl rfl (by kernel_rfl) (by kernel_rfl) (by kernel_rfl) (fun _ _ _ h => h) (by rfl) ?_ (by assumption) ?_
      rotate_left 1
      · intro w hSw
        (try dsimp only at hSw)
        go_simp
        try with_reducible rfl
      try simp only [List.setIfInBounds_toArray, List.set_cons_zero, List.set_cons_succ]
      refine takeH (i := 1) (v := ?_) rfl rfl (by kernel_rfl) (by kernel_rfl) (by kernel_rfl) (fun _ _ _ h => h) (by rfl) ?_ (by assumption) ?_
      rotate_left 1
      · intro w hSw
        (try dsimp only at hSw)
        go_simp
        try with_reducible rfl
      try simp only [List.setIfInBounds_toArray, List.set_cons_zero, List.set_cons_succ]
      refine takeH (i := 2) (v := ?_) rfl rfl (by kernel_rfl) (by kernel_rfl) (by kernel_rfl) (fun _ _ _ h => h) (by rfl) ?_ (by assumption) ?_
      rotate_left 1
      · intro w hSw
        (try dsimp only at hSw)
        go_simp
        try with_reducible rfl
      try simp only [List.setIfInBounds_toArray, List.set_cons_zero, List.set_cons_succ]
      refine takeH (i := 3) (v := ?_) rfl rfl (by kernel_rfl) (by kernel_rfl) (by kernel_rfl) (fun _ _ _ h => h) (by rfl) ?_ (by assumption) ?_
      rotate_left 1
      · intro w hSw
        (try dsimp only at hSw)
        go_simp
        try with_reducible rfl
      try simp only [List.setIfInBounds_toArray, List.set_cons_zero, List.set_cons_succ]
      refine takeH (i := 4) (v := ?_) rfl rfl (by kernel_rfl) (by kernel_rfl) (by kernel_rfl) (fun _ _ _ h => h) (by rfl) ?_ (by assumption) ?_
      rotate_left 1
      · intro w hSw
        (try dsimp only at hSw)
        go_simp
        try with_reducible rfl
      try simp only [List.setIfInBounds_toArray, List.set_cons_zero, List.set_cons_succ]
      refine takeH (i := 5) (v := ?_) rfl rfl (by kernel_rfl) (by kernel_rfl) (by kernel_rfl) (fun _ _ _ h => h) (by rfl) ?_ (by assumption) ?_
      rotate_left 1
      · intro w hSw
        (try dsimp only at hSw)
        go_simp
        try with_reducible rfl
      try simp only [List.setIfInBounds_toArray, List.set_cons_zero, List.set_cons_succ]
      refine takeH (i := 6) (v := ?_) rfl rfl (by kernel_rfl) (by kernel_rfl) (by kernel_rfl) (fun _ _ _ h => h) (by rfl) ?_ (by assumption) ?_
      rotate_left 1
      · intro w hSw
        (try dsimp only at hSw)
        go_simp
        try with_reducible rfl
      try simp only [List.setIfInBounds_toArray, List.set_cons_zero, List.set_cons_succ]
      refine takeH (i := 7) (v := ?_) rfl rfl (by kernel_rfl) (by kernel_rfl) (by kernel_rfl) (fun _ _ _ h => h) (by rfl) ?_ (by assumption) ?_
      rotate_left 1
      · intro w hSw
        (try dsimp only at hSw)
        go_simp
        try with_reducible rfl
      try simp only [List.setIfInBounds_toArray, List.set_cons_zero, List.set_cons_succ]
      refine wpAnyH_ready (rs := [8]) (by kernel_rfl) (by simp) ?_
      refine AllReadyH.cons rfl (fun K hK => ?_) (AllReadyH.nil)
      go_simp
      refine (eqsl_at vy vt vf vb va ua vc uc vP _ (HM1.out.1.below hHeld.2.out.2) (HM2.out.1.below hHeld.2.out.2) (by have := HM1.out.2.2; dsimp only at this; omega)).mono ?_
      rintro en wc ⟨rfl, bc⟩
      go_wp2_with fail
      refine hK.out _ _ ?_ (fun hNew => ?_)
      · exact ⟨⟨⟨cell_later bc hHeld.1.1.1, cell_later bc hHeld.1.1.2.1, cell_later bc hHeld.1.1.2.2.1, cell_later bc hHeld.1.1.2.2.2.1, cell_later bc hHeld.1.1.2.2.2.2⟩, cell_later bc hHeld.1.2.1, cell_later bc hHeld.1.2.2.1, cell_later bc hHeld.1.2.2.2.1, cell_later bc hHeld.1.2.2.2.2.1, cell_later bc hHeld.1.2.2.2.2.2⟩, Lib.hid ⟨next hHeld.2.out.1 bc, next hHeld.2.out.2 bc⟩⟩
      clear hK K hHeld
      have hHeld := hNew
      clear hNew
      try simp only [Act.put, List.setIfInBounds_toArray, List.set_cons_zero, List.set_cons_succ]
      refine takeH (i := 9) (v := ?_) rfl rfl (by kernel_rfl) (by kernel_rfl) (by kernel_rfl) (fun _ _ _ h => h) (by rfl) ?_ (by assumption) ?_
      rotate_left 1
      · intro w hSw
        (try dsimp only at hSw)
        go_simp
        try with_reducible rfl
      try simp only [List.setIfInBounds_toArray, List.set_cons_zero, List.set_cons_succ]
      refine wpAnyH_done (by kernel_rfl) ?_ _
      have HW2 := Lib.hid hHeld.2.out.1
      clear hHeld HC HW
      go_wp2_with fail
      go_roundw
      case rel => exact ⟨k + 1, by go_num, by omega, HW2⟩
      case measure => simp [intOf]; omega
    · obtain rfl : k = L.length := by omega
      go_wp2_with fail
      go_ret
      exact ⟨rfl, HW.out⟩
end Go.Proofs.YtnnmgbgkgnejlaaDoor
