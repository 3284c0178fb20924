/-
  The exact laws' helpers on holdings: sizes, copies, comparisons.
-/
import Derived.Test.YtnnmgbgkgnejlaaDoorSlRw
import Derived.Test.YtnnmgbgkgnejlaaDoorSlMem
import Derived.Test.YtnnmgbgkgnejlaaDoorJ1
namespace Go.Proofs.YtnnmgbgkgnejlaaDoor
open Go.RowKit
set_option linter.unusedSimpArgs false
set_option linter.unusedVariables false

def szN (left : Int) (n : Nat) : Int := if left < n then -1 else left - n
set_option maxHeartbeats 400000 in
theorem szhv_is {left z : Int} {n : Nat} (h : szN left n = z) (h0 : 0 ≤ left) (h1 : left ≤ 2000000) (hn : n ≤ 9223372036854775807) (a : Option Addr) (cap : Nat) (w : World) :
    Calls Tryd.prog 48 #[.slice a n cap, .int .i64 left] w fun e w' => e = .returned (.int .i64 z) ∧ w = w' := by
  have s1 : IntKind.i64.wrap (left - (n : Int)) = left - (n : Int) := by rw [IntKind.wrap_i64]; omega
  by_cases hl : left < n
  · have HX := Lib.hid (show -1 = z by rw [← h, szN, if_pos hl])
    have d1 : left - (n : Int) < 0 := by omega
    clear h hl
    go_enter Tryd.func48, Tryd.ntmps48
    go_wp2_with fail
    go_ret
    exact ⟨ret_int HX.out, rfl⟩
  · have HX := Lib.hid (show left - n = z by rw [← h, szN, if_neg hl])
    have d1 : ¬ left - (n : Int) < 0 := by omega
    clear h hl
    go_enter Tryd.func48, Tryd.ntmps48
    go_wp2_with fail
    go_ret
    exact ⟨ret_int HX.out, rfl⟩
abbrev hvV (v : HV) : Value := .agg #[.int .i64 v.h, .int .i64 v.f, .int .i64 v.b]
theorem AtY.three {w : World} {R : Nat} {a b c : Value} (h : AtY w R [a, b, c]) : w.cell? ⟨R, 0, none⟩ = some a ∧ w.cell? ⟨R, 1, none⟩ = some b ∧ w.cell? ⟨R, 2, none⟩ = some c := ⟨(h 0 a rfl).1, (h 1 b rfl).1, (h 2 c rfl).1⟩
theorem AtY.new3 (w : World) (a b c : Value) (t : TypeId) : AtY (w.alloc (.cells #[a, b, c] t)) w.heap.size [a, b, c] := fun j v hj => by
  match j, hj with
  | 0, h | 1, h | 2, h => simp at h; subst h; exact ⟨by simp, by simp⟩
  | n + 3, h => simp at h
/-- fields from o on are stored -/
theorem wpList_stNY {P : Program} {ops : Array Oper} {rest : List Oper} {op : Oper} {a : Act} {w : World} {Q : Exit → Act → World → Prop} (hgd : op.guard = none) (ty : TypeId) (x y : Operand) (ho : op.op = .store ty x y)
    (R o : Nat) (cells : Array Value) (hx : a.eval x = .pointer (some ⟨R, o, none⟩)) (hy : a.eval y = .agg cells) (h1 : cells.all (·.oneCell') = true) (hi : (P.info? ty).map (·.size) = some cells.size)
    (L : List Value) (hA : AtY w R L) (hl : o + cells.size ≤ L.length)
    (h : ∀ w', AtY w' R (L.take o ++ cells.toList ++ L.drop (o + cells.size)) → w.grownBy w' (some R) → wpList P ops Q rest (a.put op.dst undef) w') : wpList P ops Q (op :: rest) a w := by
  refine wpList_plain hgd fun K hK => ?_
  have ht : w.there R o cells.size := fun j hj => by
    obtain ⟨c, f⟩ := hA (o + j) _ (List.getElem?_eq_getElem (by omega))
    exact ⟨by rw [c]; rfl, f⟩
  refine Go.wp_store_mid ty x y ho R o cells hx hy ht hi h1 (hK _ _ (h _ (fun j v hj => ?_) (onlyY_sets _ _ _)))
  have hto : (L.take o).length = o := by rw [List.length_take]; omega
  by_cases h2 : j < o
  · rw [List.append_assoc, List.getElem?_append_left (by omega), List.getElem?_take, if_pos h2] at hj
    obtain ⟨p1, p2⟩ := hA j v hj
    exact ⟨by rw [World.cell?_setCells_out _ _ _ _ _ (fun _ _ => .inl h2)]; exact p1, by rw [World.frozen?_setCells]; exact p2⟩
  · by_cases h3 : j < o + cells.size
    · rw [List.append_assoc, List.getElem?_append_right (by omega), hto, List.getElem?_append_left (by simp; omega)] at hj
      have hr := World.rangeAt_setCells_same w R o cells.toList (by simpa using ht) (j - o) v hj
      rw [show o + (j - o) = j by omega] at hr
      exact ⟨hr, by rw [World.frozen?_setCells]; have := (ht (j - o) (by omega)).2; rwa [show o + (j - o) = j by omega] at this⟩
    · rw [List.getElem?_append_right (by rw [List.length_append, hto]; simp; omega), List.getElem?_drop] at hj
      have e : o + cells.size + (j - (L.take o ++ cells.toList).length) = j := by rw [List.length_append, hto]; simp; omega
      rw [e] at hj
      obtain ⟨p1, p2⟩ := hA j v hj
      exact ⟨by rw [World.cell?_setCells_out _ _ _ _ _ (fun _ _ => .inr (by simp; omega))]; exact p1, by rw [World.frozen?_setCells]; exact p2⟩
set_option maxRecDepth 100000 in
set_option maxHeartbeats 2000000 in
theorem thv_is (h f b : Int) (w : World) :
    Calls Tryd.prog 85 #[.agg #[.int .i64 h, .int .i64 f, .int .i64 b]] w fun e w' => e = .returned (.agg #[.int .i64 h, .int .i64 f, .int .i64 b]) ∧ Below w.heap.size w w' := by
  obtain ⟨w1, hw1⟩ : ∃ W, ((w.alloc (.cells #[.int .i64 h, .int .i64 f, .int .i64 b] 117)).alloc (.cells #[.int .i64 0, .int .i64 0, .int .i64 0] 48)).alloc (.cells #[.int .i64 0, .int .i64 0, .int .i64 0] 48) = W := ⟨_, rfl⟩
  have hb : Below w.heap.size w w1 := by rw [← hw1]; exact (((Below.refl _ _).alloc (Nat.le_refl _) _).alloc (by simp) _).alloc (by simp; omega) _
  have P1 := Lib.hid (show AtY w1 w.heap.size [.int .i64 h, .int .i64 f, .int .i64 b] by rw [← hw1]; exact ((AtY.new3 w _ _ _ _).below ((Below.refl _ _).alloc (Nat.le_refl _) _)).below ((Below.refl _ _).alloc (Nat.le_refl _) _))
  have R1 := Lib.hid (show AtY w1 (w.heap.size + 1) [.int .i64 0, .int .i64 0, .int .i64 0] by
    rw [← hw1]
    have h1 := AtY.new3 (w.alloc (.cells #[.int .i64 h, .int .i64 f, .int .i64 b] 117)) (.int .i64 0) (.int .i64 0) (.int .i64 0) 48
    simp only [World.size_alloc] at h1
    exact h1.below ((Below.refl _ _).alloc (Nat.le_refl _) _))
  have O1 := Lib.hid (show AtY w1 (w.heap.size + 2) [.int .i64 0, .int .i64 0, .int .i64 0] by
    rw [← hw1]
    have h1 := AtY.new3 ((w.alloc (.cells #[.int .i64 h, .int .i64 f, .int .i64 b] 117)).alloc (.cells #[.int .i64 0, .int .i64 0, .int .i64 0] 48)) (.int .i64 0) (.int .i64 0) (.int .i64 0) 48
    simp only [World.size_alloc] at h1
    exact h1)
  have HB := Lib.hid hb
  have hs1 : w1.heap.size = w.heap.size + 3 := by rw [← hw1]; simp
  have HS1 := Lib.hid hs1
  clear hb hs1
  obtain ⟨q0, q1, q2⟩ := P1.out.three
  go_enter Tryd.func85, Tryd.ntmps85
  go_wp2_with (refine wpList_st1Y rfl 3 _ _ rfl (w.heap.size + 2) 0 (.int .i64 h) ?x1 ?y1 rfl rfl infoI1s _ O1.out (by simp) ?g1)
  try case x1 => simp [Act.eval]
  try case y1 => simp [Act.eval]
  intro w2 a2 g2
  have O2 := Lib.hid (show AtY w2 (w.heap.size + 2) [.int .i64 h, .int .i64 0, .int .i64 0] from a2)
  have P2 := Lib.hid (P1.out.only g2 (by simp))
  have R2 := Lib.hid (R1.out.only g2 (by simp))
  have B2 := Lib.hid (HB.out.grown g2 HB.out.size (fun k hk => by cases hk; omega))
  clear a2 g2 q0 q1 q2 hw1
  obtain ⟨q0, q1, q2⟩ := P2.out.three
  go_wp2_with fail
  refine (to_any f b _).mono ?_
  rintro en w3 ⟨rfl, b3⟩
  have O3 := Lib.hid (O2.out.below b3)
  have R3 := Lib.hid (R2.out.below b3)
  have B3 := Lib.hid (next B2.out b3)
  clear b3 q0 q1 q2
  go_wp2_with (refine wpList_stNY rfl 24 _ _ rfl (w.heap.size + 2) 1 #[.int .i64 f, .int .i64 b] ?x2 ?y2 ?o2 ?i2 _ O3.out (by simp) ?g2)
  try case x2 => simp [Act.eval]
  try case y2 => simp [Act.eval]
  try case o2 => simp [Value.oneCell']
  try case i2 => rfl
  intro w4 a4 g4
  have O4 := Lib.hid (show AtY w4 (w.heap.size + 2) [.int .i64 h, .int .i64 f, .int .i64 b] from a4)
  have R4 := Lib.hid (R3.out.only g4 (by simp))
  have B4 := Lib.hid (B3.out.grown g4 B3.out.size (fun k hk => by cases hk; omega))
  clear a4 g4
  obtain ⟨q0, q1, q2⟩ := O4.out.three
  go_wp2_with (refine wpList_stY rfl 48 _ _ rfl (w.heap.size + 1) #[.int .i64 h, .int .i64 f, .int .i64 b] ?x3 ?y3 ?o3 ?i3 _ R4.out rfl ?g3)
  try case x3 => simp [Act.eval]
  try case y3 => simp [Act.eval]
  try case o3 => simp [Value.oneCell']
  try case i3 => rfl
  intro w5 a5 g5
  obtain ⟨r0, r1, r2⟩ := a5.three
  have B5 := Lib.hid (B4.out.grown g5 B4.out.size (fun k hk => by cases hk; omega))
  clear a5 g5 q0 q1 q2
  go_wp2_with fail
  exact bodyPost_ret (v := .agg #[.int .i64 h, .int .i64 f, .int .i64 b]) (by simp [results, Tryd.results85, go_sem, r0, r1, r2]) rfl ⟨rfl, B5.out⟩
/-! slices of holdings -/
theorem hv_rep (n : Nat) : ∀ i, i < n * 3 → (cellsHv (List.replicate n (⟨0, 0, 0⟩ : HV)))[i]? = some (.int .i64 0) := fun i hi => by
  have h := cellsHv_at (L := List.replicate n (⟨0, 0, 0⟩ : HV)) (k := i / 3) (v := ⟨0, 0, 0⟩) (j := i % 3) (by rw [List.getElem?_replicate, if_pos (by omega)]) (by omega)
  rw [show i / 3 * 3 + i % 3 = i by omega] at h
  rw [h]
  have h3 : i % 3 < 3 := by omega
  match i % 3, h3 with
  | 0, _ => rfl
  | 1, _ => rfl
  | 2, _ => rfl
theorem madeHv (n : Nat) : (madeCells #[.int .i64 0, .int .i64 0, .int .i64 0] (n * 3)).toList = cellsHv (List.replicate n (⟨0, 0, 0⟩ : HV)) := by
  apply List.ext_getElem?
  intro i
  by_cases hi : i < n * 3
  · rw [hv_rep n i hi, List.getElem?_eq_getElem (by simpa [size_madeCells] using hi)]
    simp only [madeCells, Array.toList_map, List.getElem_map]
    have h3 : i % 3 < 3 := by omega
    simp
    match i % 3, h3 with
    | 0, _ => rfl
    | 1, _ => rfl
    | 2, _ => rfl
  · rw [List.getElem?_eq_none (by simp [size_madeCells]; omega), List.getElem?_eq_none (by rw [cellsHv_len]; simp; omega)]
/-- how far the copy has come -/
structure ThI (w : World) (L : List HV) (k : Nat) (LB : List HV) (W : World) : Prop where
  len : LB.length = L.length
  own : OwnHv W w.heap.size (.slice (some ⟨w.heap.size, 0, none⟩) LB.length L.length) LB
  eq : ∀ j, j < k → LB[j]? = L[j]?
  bel : Below w.heap.size w W
theorem ThI.all {w W : World} {L LB : List HV} (h : ThI w L L.length LB W) : LB = L := List.ext_getElem? fun j => by
  by_cases hj : j < L.length
  · exact h.eq j hj
  · rw [List.getElem?_eq_none (by have := h.len; omega), List.getElem?_eq_none (by omega)]
set_option maxRecDepth 100000 in
set_option maxHeartbeats 2000000 in
theorem thvs_own (L : List HV) (a : Option Addr) (cap n : Nat) (w : World) (hn : n = L.length) (hA : HvA w a L) (hl : L.length ≤ 1048576) :
    Calls Tryd.prog 49 #[.slice a n cap] w fun e w' => e = .returned (.slice (some ⟨w.heap.size, 0, none⟩) L.length L.length) ∧ OwnHv w' w.heap.size (.slice (some ⟨w.heap.size, 0, none⟩) L.length L.length) L ∧ Below w.heap.size w w' := by
  subst hn
  have HA := Lib.hid hA
  obtain ⟨i0, hi, hz0, hz1, hz2⟩ := info_parts infoHv
  clear hA
  go_enter Tryd.func49, Tryd.ntmps49
  go_wp2_with (first | (refine wpList_make_full _ rfl (.tmp 6) (.tmp 6) 40 rfl w.heap.size 48 i0 (.agg #[.int .i64 0, .int .i64 0, .int .i64 0]) 3 Tryd.underlying40 hi hz0 hz1 .i64 .i64 _ _ L.length rfl rfl rfl rfl (by rw [hz2]; omega) (by unfold maxLen; omega) (by simp) ?_; intro w1 own1 grow1; have HBm := Lib.hid (And.intro own1 grow1); clear own1 grow1))
  have own1 := HBm.out.1
  rw [show (Value.agg #[Value.int IntKind.i64 0, .int .i64 0, .int .i64 0]).cells = #[.int .i64 0, .int .i64 0, .int .i64 0] from rfl, madeHv] at own1
  have hb1 : Below w.heap.size w w1 := (Below.refl _ w).grown HBm.out.2 (Nat.le_refl _) (fun _ h => by cases h)
  have I0 : Hid (ThI w L 0 (List.replicate L.length ⟨0, 0, 0⟩) w1) := Lib.hid ⟨by simp, by rw [OwnHv, List.length_replicate]; simpa using own1, fun j hj => by omega, hb1⟩
  clear own1 hb1 HBm
  go_loopw [4] (fun i wr => ∃ (k : Nat) (LB : List HV), i = .int .i64 (k : Int) ∧ k ≤ L.length ∧ Hid (ThI w L k LB wr)) (fun i _ => L.length - (intOf i).toNat)
  case atStart => exact ⟨0, _, rfl, Nat.zero_le _, I0⟩
  case round =>
    clear I0
    obtain ⟨k, LB, rfl, hk, HI⟩ := hrel
    by_cases hlt : k < L.length
    · obtain ⟨v, hv⟩ : ∃ v, L[k]? = some v := ⟨_, List.getElem?_eq_getElem hlt⟩
      obtain ⟨b, off, rfl, q0, q1, q2⟩ := (HA.out.below HI.out.bel).at hv
      have HVk := Lib.hid hv
      have i0' : (0 : Int) ≤ (k : Int) := by omega
      have i1 : (k : Int) < (L.length : Int) := by omega
      have hsz := HI.out.bel.size
      clear hv
      go_wp2_with fail
      refine (thv_is v.h v.f v.b _).mono ?_
      rintro en w2 ⟨rfl, b2⟩
      have HO2 := Lib.hid (ownhv_later HI.out.own b2)
      have HB2 := Lib.hid (next HI.out.bel b2)
      have hkB : k < LB.length := by rw [HI.out.len]; exact hlt
      have HLB := Lib.hid HI.out.len
      have hcl := Lib.hid (cellsHv_len LB)
      clear b2 q0 q1 q2
      go_wp2_with (refine wpList_stRw rfl 48 _ _ rfl w.heap.size w.heap.size L.length LB.length 3 48 (cellsHv LB) HO2.out (k * 3) #[.int .i64 v.h, .int .i64 v.f, .int .i64 v.b] ?x1 ?y1 ?o1 ?i1 (by rw [hcl.out]; simp; omega) ?g1)
      try case x1 => simp [Act.eval]
      try case y1 => simp [Act.eval]
      try case o1 => simp [Value.oneCell']
      try case i1 => rfl
      intro w3 o3 g3
      have HI3 : Hid (ThI w L (k + 1) (LB.set k v) w3) := Lib.hid ⟨by rw [List.length_set]; exact HLB.out, by
        rw [OwnHv, List.length_set, show cellsHv (LB.set k v) = (cellsHv LB).take (k * 3) ++ v.cells ++ (cellsHv LB).drop (k * 3 + 3) from flat_set HV.cells 3 hv_three v hkB, List.append_assoc]
        exact o3, fun j hj => by
          by_cases e : j = k
          · subst e; rw [List.getElem?_set_self hkB]; exact HVk.out.symm
          · rw [List.getElem?_set_ne (fun h => e h.symm)]; exact HI.out.eq j (by omega), HB2.out.grown g3 HB2.out.size (fun kk hk => by cases hk; exact Nat.le_refl _)⟩
      clear o3 g3
      go_wp2_with fail
      go_roundw
      case rel => exact ⟨k + 1, _, by go_num, by omega, HI3⟩
      case measure => simp [intOf]; omega
    · obtain rfl : k = L.length := by omega
      obtain rfl := HI.out.all
      go_wp2_with fail
      go_ret
      exact ⟨rfl, HI.out.own, HI.out.bel⟩
theorem eqRgY_is (f b : Int) (w : World) :
    Calls Tryd.prog 81 #[.agg #[.int .i64 f, .int .i64 b], .agg #[.int .i64 f, .int .i64 b]] w fun e w' => e = .returned (.bool true) ∧ Below w.heap.size w w' := by
  have HB := Lib.hid (((Below.refl w.heap.size w).alloc (Nat.le_refl _) (.cells #[.int .i64 f, .int .i64 b] 24)).alloc (by simp) (.cells #[.int .i64 f, .int .i64 b] 24))
  have n1 : (f != f) = false := by simp
  have n2 : (b != b) = false := by simp
  go_enter Tryd.func81, Tryd.ntmps81
  go_wp2_with fail
  go_ret
  exact ⟨rfl, HB.out⟩
set_option maxHeartbeats 1000000 in
theorem eqhv_is (h f b : Int) (w : World) :
    Calls Tryd.prog 86 #[.agg #[.int .i64 h, .int .i64 f, .int .i64 b], .agg #[.int .i64 h, .int .i64 f, .int .i64 b]] w fun e w' => e = .returned (.bool true) ∧ Below w.heap.size w w' := by
  obtain ⟨w1, hw1⟩ : ∃ W, (w.alloc (.cells #[.int .i64 h, .int .i64 f, .int .i64 b] 48)).alloc (.cells #[.int .i64 h, .int .i64 f, .int .i64 b] 48) = W := ⟨_, rfl⟩
  have hb : Below w.heap.size w w1 := by rw [← hw1]; exact ((Below.refl _ _).alloc (Nat.le_refl _) _).alloc (by simp) _
  have P1 := Lib.hid (show AtY w1 w.heap.size [.int .i64 h, .int .i64 f, .int .i64 b] by rw [← hw1]; exact (AtY.new3 w _ _ _ _).below ((Below.refl _ _).alloc (Nat.le_refl _) _))
  have R1 := Lib.hid (show AtY w1 (w.heap.size + 1) [.int .i64 h, .int .i64 f, .int .i64 b] by
    rw [← hw1]
    have h1 := AtY.new3 (w.alloc (.cells #[.int .i64 h, .int .i64 f, .int .i64 b] 48)) (.int .i64 h) (.int .i64 f) (.int .i64 b) 48
    simp only [World.size_alloc] at h1
    exact h1)
  have HB := Lib.hid hb
  clear hb
  have n1 : (h != h) = false := by simp
  obtain ⟨q0, q1, q2⟩ := P1.out.three
  obtain ⟨r0, r1, r2⟩ := R1.out.three
  go_enter Tryd.func86, Tryd.ntmps86
  go_wp2_with fail
  refine (eqRgY_is f b _).mono ?_
  rintro en w2 ⟨rfl, b2⟩
  have HB2 := Lib.hid (next HB.out b2)
  clear b2
  go_wp2_with fail
  go_ret
  exact ⟨rfl, HB2.out⟩
set_option maxRecDepth 100000 in
set_option maxHeartbeats 2000000 in
theorem eqhvs_is (L : List HV) (a a' : Option Addr) (cap cap' n m : Nat) (w : World) (hn : n = L.length) (hm : m = L.length) (hA : HvA w a L) (hB : HvA w a' L) (hl : L.length ≤ 2000000) :
    Calls Tryd.prog 50 #[.slice a n cap, .slice a' m cap'] w fun e w' => e = .returned (.bool true) ∧ Below w.heap.size w w' := by
  subst hn
  subst hm
  have HA := Lib.hid hA
  have HB := Lib.hid hB
  have e1 : ((L.length : Int) != (L.length : Int)) = false := by simp
  clear hA hB
  go_enter Tryd.func50, Tryd.ntmps50
  go_wp2_with fail
  go_loopw [5] (fun i wr => ∃ (k : Nat), i = .int .i64 (k : Int) ∧ k ≤ L.length ∧ Hid (Below w.heap.size w wr)) (fun i _ => L.length - (intOf i).toNat)
  case atStart => exact ⟨0, rfl, Nat.zero_le _, Lib.hid (Below.refl _ _)⟩
  case round =>
    obtain ⟨k, rfl, hk, HW⟩ := hrel
    by_cases hlt : k < L.length
    · obtain ⟨v, hv⟩ : ∃ v, L[k]? = some v := ⟨_, List.getElem?_eq_getElem hlt⟩
      obtain ⟨b, off, rfl, hq⟩ := (HA.out.below HW.out).at hv
      obtain ⟨b', off', rfl, hr⟩ := (HB.out.below HW.out).at hv
      unfold HvC at hq hr
      have HC := Lib.hid (And.intro hq hr)
      have i0 : (0 : Int) ≤ (k : Int) := by omega
      have i1 : (k : Int) < (L.length : Int) := by omega
      clear hv hq hr
      go_wp2_with fail
      refine wp_region_held_drew (S := fun W => ((W.cell? ⟨b, off + k * 3, none⟩ = some (.int .i64 v.h) ∧ W.cell? ⟨b, off + k * 3 + 1, none⟩ = some (.int .i64 v.f) ∧ W.cell? ⟨b, off + k * 3 + 2, none⟩ = some (.int .i64 v.b)) ∧ W.cell? ⟨b', off' + k * 3, none⟩ = some (.int .i64 v.h) ∧ W.cell? ⟨b', off' + k * 3 + 1, none⟩ = some (.int .i64 v.f) ∧ W.cell? ⟨b', off' + k * 3 + 2, none⟩ = some (.int .i64 v.b)) ∧ Hid (Below w.heap.size w W)) (by kernel_rfl) ?_ (fun hHeld => ?_)
      · exact ⟨HC.out, Lib.hid HW.out.drew⟩
      refine takeH (i := 0) (v := ?_) rfl rfl (by kernel_rfl) (by kernel_rfl) (by kernel_rfl) (fun _ _ _ h => h) (by rfl) ?_ (by assumption) ?_
      rotate_left 1
      · intro w hSw
        (try dsimp only at hSw)
        go_simp
        try with_reducible rfl
      try simp only [List.setIfInBounds_toArray, List.set_cons_zero, List.set_cons_succ]
      refine takeH (i := 1) (v := ?_) rfl rfl (by kernel_rfl) (by kernel_rfl) (by kernel_rfl) (fun _ _ _ h => h) (by rfl) ?_ (by assumption) ?_
      rotate_left 1
      · intro w hSw
        (try dsimp only at hSw)
        go_simp
        try with_reducible rfl
      try simp only [List.setIfInBounds_toArray, List.set_cons_zero, List.set_cons_succ]
      refine takeH (i := 2) (v := ?_) rfl rfl (by kernel_rfl) (by kernel_rfl) (by kernel_rfl) (fun _ _ _ h => h) (by rfl) ?_ (by assumption) ?_
      rotate_left 1
      · intro w hSw
        (try dsimp only at hSw)
        go_simp
        try with_reducible rfl
      try simp only [List.setIfInBounds_toArray, List.set_cons_zero, List.set_cons_succ]
      refine takeH (i := 3) (v := ?_) rfl rfl (by kernel_rfl) (by kernel_rfl) (by kernel_rfl) (fun _ _ _ h => h) (by rfl) ?_ (by assumption) ?_
      rotate_left 1
      · intro w hSw
        (try dsimp only at hSw)
        go_simp
        try with_reducible rfl
      try simp only [List.setIfInBounds_toArray, List.set_cons_zero, List.set_cons_succ]
      refine takeH (i := 4) (v := ?_) rfl rfl (by kernel_rfl) (by kernel_rfl) (by kernel_rfl) (fun _ _ _ h => h) (by rfl) ?_ (by assumption) ?_
      rotate_left 1
      · intro w hSw
        (try dsimp only at hSw)
        go_simp
        try with_reducible rfl
      try simp only [List.setIfInBounds_toArray, List.set_cons_zero, List.set_cons_succ]
      refine takeH (i := 5) (v := ?_) rfl rfl (by kernel_rfl) (by kernel_rfl) (by kernel_rfl) (fun _ _ _ h => h) (by rfl) ?_ (by assumption) ?_
      rotate_left 1
      · intro w hSw
        (try dsimp only at hSw)
        go_simp
        try with_reducible rfl
      try simp only [List.setIfInBounds_toArray, List.set_cons_zero, List.set_cons_succ]
      refine takeH (i := 6) (v := ?_) rfl rfl (by kernel_rfl) (by kernel_rfl) (by kernel_rfl) (fun _ _ _ h => h) (by rfl) ?_ (by assumption) ?_
      rotate_left 1
      · intro w hSw
        (try dsimp only at hSw)
        go_simp
        try with_reducible rfl
      try simp only [List.setIfInBounds_toArray, List.set_cons_zero, List.set_cons_succ]
      refine takeH (i := 7) (v := ?_) rfl rfl (by kernel_rfl) (by kernel_rfl) (by kernel_rfl) (fun _ _ _ h => h) (by rfl) ?_ (by assumption) ?_
      rotate_left 1
      · intro w hSw
        (try dsimp only at hSw)
        go_simp
        try with_reducible rfl
      try simp only [List.setIfInBounds_toArray, List.set_cons_zero, List.set_cons_succ]
      refine wpAnyH_ready (rs := [8]) (by kernel_rfl) (by simp) ?_
      refine AllReadyH.cons rfl (fun K hK => ?_) (AllReadyH.nil)
      go_simp
      refine (eqhv_is v.h v.f v.b _).mono ?_
      rintro en wc ⟨rfl, bc⟩
      go_wp2_with fail
      refine hK.out _ _ ?_ (fun hNew => ?_)
      · exact ⟨⟨⟨cell_later bc hHeld.1.1.1, cell_later bc hHeld.1.1.2.1, cell_later bc hHeld.1.1.2.2⟩, cell_later bc hHeld.1.2.1, cell_later bc hHeld.1.2.2.1, cell_later bc hHeld.1.2.2.2⟩, Lib.hid (next hHeld.2.out bc)⟩
      clear hK K hHeld
      have hHeld := hNew
      clear hNew
      try simp only [Act.put, List.setIfInBounds_toArray, List.set_cons_zero, List.set_cons_succ]
      refine takeH (i := 9) (v := ?_) rfl rfl (by kernel_rfl) (by kernel_rfl) (by kernel_rfl) (fun _ _ _ h => h) (by rfl) ?_ (by assumption) ?_
      rotate_left 1
      · intro w hSw
        (try dsimp only at hSw)
        go_simp
        try with_reducible rfl
      try simp only [List.setIfInBounds_toArray, List.set_cons_zero, List.set_cons_succ]
      refine wpAnyH_done (by kernel_rfl) ?_ _
      have HW2 := Lib.hid hHeld.2.out
      clear hHeld HC HW
      go_wp2_with fail
      go_roundw
      case rel => exact ⟨k + 1, by go_num, by omega, HW2⟩
      case measure => simp [intOf]; omega
    · obtain rfl : k = L.length := by omega
      go_wp2_with fail
      go_ret
      exact ⟨rfl, HW.out⟩
end Go.Proofs.YtnnmgbgkgnejlaaDoor
