/-
  What the exact laws call on slices of clauses: sz, to, eq.
-/
import Derived.Test.YtioppkalehnoaaaGreatDoorClTo
import Derived.Test.YtioppkalehnoaaaGreatDoorJ1
namespace Go.Proofs.YtioppkalehnoaaaGreatDoor
open Go.RowKit
set_option linter.unusedSimpArgs false
set_option linter.unusedVariables false

/-! rows of clauses, written into -/
theorem cown_full {w : World} {R g n cap : Nat} {e : TypeId} {z : Nat} {xs : List Value} (h : w.ownsRow R e z (.slice (some ⟨g, 0, none⟩) n cap) n xs) :
    ∃ zs, zs.length = cap * z ∧ zs.take (n * z) = xs ∧ n ≤ cap ∧ cap ≤ maxLen ∧ w.ownsRow R e z (.slice (some ⟨g, 0, none⟩) cap cap) cap zs := by
  rcases h.2 with ⟨e0, _⟩ | ⟨g', cap', cur, e0, hb, hg, hn, hm, hs, ht⟩
  · cases e0
  · injection e0 with e1 _ e3
    injection e1 with e1
    injection e1 with e1
    subst e1; subst e3
    exact ⟨cur.toList, by simpa using hs, ht, hn, hm, by simpa using hs, .inr ⟨g, cap, cur, rfl, hb, hg, Nat.le_refl _, hm, hs, List.take_of_length_le (by simp [hs])⟩⟩
theorem cown_cut {w : World} {R g k cap : Nat} {e : TypeId} {z : Nat} {zs : List Value} (h : w.ownsRow R e z (.slice (some ⟨g, 0, none⟩) cap cap) cap zs) (hk : k ≤ cap) :
    w.ownsRow R e z (.slice (some ⟨g, 0, none⟩) k cap) k (zs.take (k * z)) := by
  have hl := h.1
  rcases h.2 with ⟨e0, _⟩ | ⟨g', cap', cur, e0, hb, hg, hn, hm, hs, ht⟩
  · cases e0
  · injection e0 with e1 _ e3
    injection e1 with e1
    injection e1 with e1
    subst e1; subst e3
    have hkz : k * z ≤ cap * z := Nat.mul_le_mul_right z hk
    refine ⟨by rw [List.length_take]; omega, .inr ⟨g, cap, cur, rfl, hb, hg, hk, hm, hs, ?_⟩⟩
    rw [← ht, List.take_take, Nat.min_eq_left hkz]
theorem cset_mid {α : Type} (x : α) : ∀ (zs : List α) (j : Nat), j < zs.length → zs.set j x = zs.take j ++ x :: zs.drop (j + 1)
  | [], j, h => by simp at h
  | a :: l, 0, _ => rfl
  | a :: l, j + 1, h => by simp only [List.set_cons_succ, List.take_succ_cons, List.drop_succ_cons, List.cons_append]; rw [cset_mid x l j (by simpa using h)]
theorem cown_cells {R g cap : Nat} {e : TypeId} {z : Nat} : ∀ (vs : List Value) (w : World) (zs : List Value) (j : Nat), w.ownsRow R e z (.slice (some ⟨g, 0, none⟩) cap cap) cap zs → j + vs.length ≤ zs.length →
    (w.setCells g j vs).ownsRow R e z (.slice (some ⟨g, 0, none⟩) cap cap) cap (zs.take j ++ vs ++ zs.drop (j + vs.length)) ∧ w.grownBy (w.setCells g j vs) (some g)
  | [], w, zs, j, h, _ => by simp only [World.setCells, List.append_nil, List.length_nil, Nat.add_zero, List.take_append_drop]; exact ⟨h, World.grownBy.refl _ _⟩
  | v :: r, w, zs, j, h, hl => by
    simp only [List.length_cons] at hl
    have h1 := World.ownsRow.stored h j v
    have hj : j < zs.length := by omega
    obtain ⟨h2, h3⟩ := cown_cells r _ _ (j + 1) h1.1 (by rw [List.length_set]; omega)
    refine ⟨?_, only_on h1.2 h3⟩
    rw [World.setCells]
    have e1 : (zs.set j v).take (j + 1) = zs.take j ++ [v] := by
      rw [cset_mid v zs j hj, List.take_append, List.length_take, Nat.min_eq_left (by omega), List.take_of_length_le (by rw [List.length_take]; omega), show j + 1 - j = 1 by omega]; rfl
    have e2 : (zs.set j v).drop (j + 1 + r.length) = zs.drop (j + 1 + r.length) := by
      rw [cset_mid v zs j hj, List.drop_append, List.length_take, Nat.min_eq_left (by omega), List.drop_eq_nil_of_le (by rw [List.length_take]; omega), show j + 1 + r.length - j = r.length + 1 by omega, List.drop_succ_cons, List.drop_drop, List.nil_append]
    have e : (zs.set j v).take (j + 1) ++ r ++ (zs.set j v).drop (j + 1 + r.length) = zs.take j ++ v :: r ++ zs.drop (j + (v :: r).length) := by
      rw [e1, e2, List.length_cons, show j + (r.length + 1) = j + 1 + r.length by omega]
      simp
    rw [← e]; exact h2
theorem cmid_take {α : Type} (zs vs : List α) (j m : Nat) (h1 : j + vs.length ≤ m) (h2 : m ≤ zs.length) :
    (zs.take j ++ vs ++ zs.drop (j + vs.length)).take m = (zs.take m).take j ++ vs ++ (zs.take m).drop (j + vs.length) := by
  have hj : (zs.take j).length = j := by rw [List.length_take]; omega
  rw [List.take_append, List.length_append, hj, List.take_of_length_le (by rw [List.length_append, hj]; omega), List.take_take, Nat.min_eq_left (by omega), List.drop_take]
theorem cells8_set (q : CL) : ∀ {L : List CL} {i : Nat}, i < L.length → cells8 (L.set i q) = (cells8 L).take (i * 8) ++ q.cells ++ (cells8 L).drop (i * 8 + 8)
  | [], i, h => by simp at h
  | p :: K, 0, _ => by
    rw [List.set_cons_zero, cells8_cons, cells8_cons, Nat.zero_mul, List.take_zero, List.nil_append, Nat.zero_add, List.drop_left' (eight_len _)]
  | p :: K, i + 1, h => by
    rw [List.set_cons_succ, cells8_cons, cells8_cons, cells8_set q (by simpa using h)]
    have e1 : (p.cells ++ cells8 K).take ((i + 1) * 8) = p.cells ++ (cells8 K).take (i * 8) := by
      rw [show (i + 1) * 8 = p.cells.length + i * 8 by rw [eight_len]; omega]; exact List.take_length_add_append _
    have e2 : (p.cells ++ cells8 K).drop ((i + 1) * 8 + 8) = (cells8 K).drop (i * 8 + 8) := by
      rw [show (i + 1) * 8 + 8 = p.cells.length + (i * 8 + 8) by rw [eight_len]; omega]; exact List.drop_length_add_append _
    rw [e1, e2]
    simp
theorem OwnC.puts {w : World} {R g cap : Nat} {L : List CL} (h : OwnC w R (.slice (some ⟨g, 0, none⟩) L.length cap) L) {i : Nat} (hi : i < L.length) (q : CL) :
    OwnC (w.setCells g (i * 8) q.cells) R (.slice (some ⟨g, 0, none⟩) L.length cap) (L.set i q) ∧ w.grownBy (w.setCells g (i * 8) q.cells) (some g) := by
  obtain ⟨zs, hl, ht, hn, hm, ho⟩ := cown_full h
  have hz : i * 8 + q.cells.length ≤ zs.length := by rw [eight_len, hl]; omega
  obtain ⟨h1, h2⟩ := cown_cells q.cells w zs (i * 8) ho hz
  refine ⟨?_, h2⟩
  have h3 := cown_cut h1 (k := L.length) hn
  rw [cmid_take _ _ _ _ (by rw [eight_len]; omega) (by rw [hl]; omega), ht, eight_len, ← cells8_set q hi] at h3
  rw [OwnC, List.length_set]
  exact h3
theorem OwnC.there {w : World} {R g cap : Nat} {L : List CL} (h : OwnC w R (.slice (some ⟨g, 0, none⟩) L.length cap) L) {i : Nat} (hi : i < L.length) : w.there g (i * 8) 8 := fun j hj => by
  have hl : i * 8 + j < (cells8 L).length := by rw [cells8_len]; omega
  have := World.ownsRow.cells h (g := g) rfl (i * 8 + j) _ (List.getElem?_eq_getElem hl)
  rw [Addr.add_mid, Nat.zero_add] at this
  exact ⟨by rw [this]; rfl, World.ownsRow.frozenAt h _⟩

def szC (left : Int) (n : Nat) : Int := if left < n then -1 else left - n
theorem szcl_is {left : Int} {n : Nat} {z : Int} (h : szC left n = z) (h0 : 0 ≤ left) (h1 : left ≤ 2000000) (hn : n ≤ 9223372036854775807) (a : Option Addr) (cap : Nat) (w : World) :
    Calls Tryz.prog 6 #[.slice a n cap, .int .i64 left] w fun e w' => e = .returned (.int .i64 z) ∧ w = w' := by
  by_cases hl : left < n
  · have HX := Lib.hid (show -1 = z by rw [← h, szC, if_pos hl])
    have hlt : left - (n : Int) < 0 := by omega
    clear h
    go_enter Tryz.func6, Tryz.ntmps6
    go_wp2_with fail
    go_ret
    exact ⟨ret_int HX.out, rfl⟩
  · have HX := Lib.hid (show left - n = z by rw [← h, szC, if_neg hl])
    have hlt : ¬ left - (n : Int) < 0 := by omega
    clear h
    go_enter Tryz.func6, Tryz.ntmps6
    go_wp2_with fail
    go_ret
    exact ⟨ret_int HX.out, rfl⟩

theorem cells8_rep (n : Nat) : ∀ i, i < n * 8 → (cells8 (List.replicate n zCL))[i]? = zCL.cells[i % 8]? := fun i hi => by
  have h := cells8_at (L := List.replicate n zCL) (k := i / 8) (v := zCL) (j := i % 8) (by rw [List.getElem?_replicate, if_pos (by omega)]) (by omega)
  rw [show i / 8 * 8 + i % 8 = i by omega] at h
  exact h
theorem madeC (n : Nat) : (madeCells #[.int .i64 0, .int .i64 0, .int .i64 0, .int .i64 0, .bool false, .int .i64 0, .int .i64 0, .int .i64 0] (n * 8)).toList = cells8 (List.replicate n zCL) := by
  apply List.ext_getElem?
  intro i
  by_cases hi : i < n * 8
  · rw [cells8_rep n i hi, List.getElem?_eq_getElem (by simpa [size_madeCells] using hi)]
    simp only [madeCells, Array.toList_map, List.getElem_map]
    have h8 : i % 8 < 8 := by omega
    have : (List.range (n * 8))[i]'(by simpa using hi) = i := by simp
    simp
    match i % 8, h8 with
    | 0, _ => rfl
    | 1, _ => rfl
    | 2, _ => rfl
    | 3, _ => rfl
    | 4, _ => rfl
    | 5, _ => rfl
    | 6, _ => rfl
    | 7, _ => rfl
  · rw [List.getElem?_eq_none (by simp [size_madeCells]; omega), List.getElem?_eq_none (by rw [cells8_len]; simp; omega)]
/-- how far the copy has come -/
def TcI (w : World) (L : List CL) (k : Nat) (LB : List CL) (W : World) : Prop :=
  LB.length = L.length ∧ OwnC W w.heap.size (.slice (some ⟨w.heap.size, 0, none⟩) LB.length L.length) LB ∧ (∀ (j : Nat), j < k → LB[j]? = L[j]?) ∧ Below w.heap.size w W

set_option maxRecDepth 100000 in
set_option maxHeartbeats 2000000 in
theorem tocls_any (L : List CL) (a : Option Addr) (cap n : Nat) (w : World) (hn : n = L.length) (hA : CsA w a L) (hl : L.length ≤ 1048576) :
    Calls Tryz.prog 9 #[.slice a n cap] w fun e w' => ∃ v, e = .returned v ∧ OwnC w' w.heap.size v L ∧ Below w.heap.size w w' := by
  subst hn
  have HA := Lib.hid hA
  obtain ⟨i0, hi, hz0, hz1, hz2⟩ := info_parts infoC
  clear hA
  go_enter Tryz.func9, Tryz.ntmps9
  go_wp2_with (first | (refine wpList_make_full _ rfl (.tmp 6) (.tmp 6) 35 rfl w.heap.size 59 i0 (.agg #[.int .i64 0, .int .i64 0, .int .i64 0, .int .i64 0, .bool false, .int .i64 0, .int .i64 0, .int .i64 0]) 8 Tryz.underlying35 hi hz0 hz1 .i64 .i64 _ _ L.length rfl rfl rfl rfl (by rw [hz2]; omega) (by unfold maxLen; omega) (by simp) ?_; intro w1 own1 grow1; have HBm := Lib.hid (And.intro own1 grow1); clear own1 grow1))
  have own1 := HBm.out.1
  rw [show (Value.agg #[.int .i64 0, .int .i64 0, .int .i64 0, .int .i64 0, .bool false, .int .i64 0, .int .i64 0, .int .i64 0]).cells = #[.int .i64 0, .int .i64 0, .int .i64 0, .int .i64 0, .bool false, .int .i64 0, .int .i64 0, .int .i64 0] from rfl, madeC] at own1
  have hb1 : Below w.heap.size w w1 := (Below.refl _ w).grown HBm.out.2 (Nat.le_refl _) (fun _ h => by cases h)
  have I0 : Hid (TcI w L 0 (List.replicate L.length zCL) w1) := Lib.hid ⟨by simp, by rw [OwnC, List.length_replicate]; simpa using own1, fun j hj => by omega, hb1⟩
  clear own1 hb1 HBm
  go_loopw [4] (fun i wr => ∃ (k : Nat) (LB : List CL), i = .int .i64 (k : Int) ∧ k ≤ L.length ∧ Hid (TcI w L k LB wr)) (fun i _ => L.length - (intOf i).toNat)
  case atStart => exact ⟨0, _, rfl, Nat.zero_le _, I0⟩
  case round =>
    clear I0
    obtain ⟨k, LB, rfl, hk, HI⟩ := hrel
    by_cases hlt : k < L.length
    · obtain ⟨c, hc⟩ : ∃ c, L[k]? = some c := ⟨_, List.getElem?_eq_getElem hlt⟩
      obtain ⟨b, off, rfl, q0, q1, q2, q3, q4, q5, q6, q7⟩ := (HA.out.below HI.out.2.2.2).at hc
      have HC := Lib.hid hc
      have i0' : (0 : Int) ≤ (k : Int) := by omega
      have i1 : (k : Int) < (L.length : Int) := by omega
      clear hc
      go_wp2_with fail
      refine (tocl_is c _).mono ?_
      rintro en w2 ⟨rfl, b2⟩
      have hkl : k < LB.length := by have := HI.out.1; omega
      have HO2 := Lib.hid (ownc_later HI.out.2.1 b2)
      have HB2 := Lib.hid (next HI.out.2.2.2 b2)
      have HP := Lib.hid (OwnC.puts HO2.out hkl c)
      have HI3 : Hid (TcI w L (k + 1) (LB.set k c) (w2.setCells w.heap.size (k * 8) c.cells)) := Lib.hid ⟨by rw [List.length_set]; exact HI.out.1, by rw [List.length_set]; exact HP.out.1, fun j hj => by
        by_cases e : j = k
        · subst e; rw [List.getElem?_set_self hkl]; exact HC.out.symm
        · rw [List.getElem?_set_ne (fun h => e h.symm)]; exact HI.out.2.2.1 j (by omega), below_only HB2.out HP.out.2 HB2.out.size (Nat.le_refl _)⟩
      clear b2 q0 q1 q2 q3 q4 q5 q6 q7 HP HB2
      go_wp2_with (refine wpList_store_mid rfl 59 (.tmp 21) (.tmp 20) rfl w.heap.size (k * 8) c.cells.toArray ?hx ?hy ?ht infoC8 (one8a c) ?hgo)
      case hx => simp [Act.eval]
      case hy => rfl
      case ht => exact OwnC.there HO2.out hkl
      generalize w2.setCells w.heap.size (k * 8) c.cells = w3 at *
      go_wp2_with fail
      go_roundw
      case rel => exact ⟨k + 1, LB.set k c, by go_num, by omega, HI3⟩
      case measure => simp [intOf]; omega
    · obtain rfl : k = L.length := by omega
      have hLB : LB = L := List.ext_getElem? fun j => by
        by_cases hj : j < L.length
        · exact HI.out.2.2.1 j hj
        · rw [List.getElem?_eq_none (by have := HI.out.1; omega), List.getElem?_eq_none (by omega)]
      have HF := Lib.hid HI.out.2
      rw [hLB] at HF
      clear hLB HI
      go_wp2_with fail
      go_ret
      exact ⟨_, rfl, HF.out.1, HF.out.2.2⟩

theorem eqRg_is (f b : Int) (w : World) :
    Calls Tryz.prog 37 #[.agg #[.int .i64 f, .int .i64 b], .agg #[.int .i64 f, .int .i64 b]] w fun e w' => e = .returned (.bool true) ∧ Below w.heap.size w w' := by
  have HB := Lib.hid (((Below.refl w.heap.size w).alloc (Nat.le_refl _) (.cells #[.int .i64 f, .int .i64 b] 30)).alloc (by simp) (.cells #[.int .i64 f, .int .i64 b] 30))
  have n1 : (f != f) = false := by simp
  have n2 : (b != b) = false := by simp
  go_enter Tryz.func37, Tryz.ntmps37
  go_wp2_with fail
  go_ret
  exact ⟨rfl, HB.out⟩
set_option maxHeartbeats 1000000 in
theorem eqcl_is (c : CL) (w : World) : Calls Tryz.prog 39 #[clV c, clV c] w fun e w' => e = .returned (.bool true) ∧ Below w.heap.size w w' := by
  have n1 : (c.i != c.i) = false := by simp
  have n2 : (c.n != c.n) = false := by simp
  have n3 : (c.x != c.x) = false := by simp
  have n4 : (c.l != c.l) = false := by simp
  have n5 : (c.m != c.m) = false := by simp
  have n6 : (c.k != c.k) = false := by simp
  have hA1 := (AtL.new w c 59).alloc (.cells (clA c) 59)
  have hA2 := AtL.new (w.alloc (.cells (clA c) 59)) c 59
  simp only [World.size_alloc] at hA2
  have H0 := Lib.hid (And.intro hA1 (And.intro hA2 (((Below.refl w.heap.size w).alloc (Nat.le_refl _) (.cells (clA c) 59)).alloc (by simp) (.cells (clA c) 59))))
  clear hA1 hA2
  go_enter Tryz.func39, Tryz.ntmps39
  go_wp2_with fail
  refine (eqRg_is c.f c.b _).mono ?_
  rintro e w1 ⟨rfl, b1⟩
  have H1 := Lib.hid (And.intro (H0.out.1.below b1) (And.intro (H0.out.2.1.below b1) (next H0.out.2.2 b1)))
  clear b1 H0
  obtain ⟨⟨q0, q1, q2, q3, q4, q5, q6, q7⟩, _⟩ := H1.out.1.z8
  obtain ⟨⟨s0, s1, s2, s3, s4, s5, s6, s7⟩, _⟩ := H1.out.2.1.z8
  go_wp2_with fail
  go_ret
  exact ⟨rfl, H1.out.2.2⟩
set_option maxRecDepth 100000 in
set_option maxHeartbeats 2000000 in
theorem eqcls_is (L : List CL) (a a' : Option Addr) (cap cap' n m : Nat) (w : World) (hn : n = L.length) (hm : m = L.length) (hA : CsA w a L) (hB : CsA w a' L) (hl : L.length ≤ 1100000) :
    Calls Tryz.prog 13 #[.slice a n cap, .slice a' m cap'] w fun e w' => e = .returned (.bool true) ∧ Below w.heap.size w w' := by
  subst hn hm
  have HA := Lib.hid hA
  have HB := Lib.hid hB
  have e1 : ((L.length : Int) != (L.length : Int)) = false := by simp
  clear hA hB
  go_enter Tryz.func13, Tryz.ntmps13
  go_wp2_with fail
  go_loopw [5] (fun i wr => ∃ (k : Nat), i = .int .i64 (k : Int) ∧ k ≤ L.length ∧ Hid (Below w.heap.size w wr)) (fun i _ => L.length - (intOf i).toNat)
  case atStart => exact ⟨0, rfl, Nat.zero_le _, Lib.hid (Below.refl _ _)⟩
  case round =>
    obtain ⟨k, rfl, hk, HW⟩ := hrel
    by_cases hlt : k < L.length
    · obtain ⟨v, hv⟩ : ∃ v, L[k]? = some v := ⟨_, List.getElem?_eq_getElem hlt⟩
      obtain ⟨b, off, rfl, hq⟩ := (HA.out.below HW.out).at hv
      obtain ⟨b', off', rfl, hr⟩ := (HB.out.below HW.out).at hv
      have HC := Lib.hid (And.intro hq hr)
      have i0 : (0 : Int) ≤ (k : Int) := by omega
      have i1 : (k : Int) < (L.length : Int) := by omega
      clear hv hq hr
      go_wp2_with fail
      refine wp_region_held_drew (S := fun W => ((W.cell? ⟨b, off + k * 8, none⟩ = some (.int .i64 v.i) ∧ W.cell? ⟨b, off + k * 8 + 1, none⟩ = some (.int .i64 v.n) ∧ W.cell? ⟨b, off + k * 8 + 2, none⟩ = some (.int .i64 v.f) ∧ W.cell? ⟨b, off + k * 8 + 3, none⟩ = some (.int .i64 v.b) ∧ W.cell? ⟨b, off + k * 8 + 4, none⟩ = some (.bool v.x) ∧ W.cell? ⟨b, off + k * 8 + 5, none⟩ = some (.int .i64 v.l) ∧ W.cell? ⟨b, off + k * 8 + 6, none⟩ = some (.int .i64 v.m) ∧ W.cell? ⟨b, off + k * 8 + 7, none⟩ = some (.int .i64 v.k)) ∧ (W.cell? ⟨b', off' + k * 8, none⟩ = some (.int .i64 v.i) ∧ W.cell? ⟨b', off' + k * 8 + 1, none⟩ = some (.int .i64 v.n) ∧ W.cell? ⟨b', off' + k * 8 + 2, none⟩ = some (.int .i64 v.f) ∧ W.cell? ⟨b', off' + k * 8 + 3, none⟩ = some (.int .i64 v.b) ∧ W.cell? ⟨b', off' + k * 8 + 4, none⟩ = some (.bool v.x) ∧ W.cell? ⟨b', off' + k * 8 + 5, none⟩ = some (.int .i64 v.l) ∧ W.cell? ⟨b', off' + k * 8 + 6, none⟩ = some (.int .i64 v.m) ∧ W.cell? ⟨b', off' + k * 8 + 7, none⟩ = some (.int .i64 v.k))) ∧ Hid (Below w.heap.size w W)) (by kernel_rfl) ?_ (fun hHeld => ?_)
      · exact ⟨HC.out, Lib.hid HW.out.drew⟩
      refine takeH (i := 0) (v := ?_) rfl rfl (by kernel_rfl) (by kernel_rfl) (by kernel_rfl) (fun _ _ _ h => h) (by rfl) ?_ (by assumption) ?_
      rotate_left 1
      · intro w hSw
        (try dsimp only at hSw)
        go_simp
        try with_reducible rfl
      try simp only [List.setIfInBounds_toArray, List.set_cons_zero, List.set_cons_succ]
      refine takeH (i := 1) (v := ?_) rfl rfl (by kernel_rfl) (by kernel_rfl) (by kernel_rfl) (fun _ _ _ h => h) (by rfl) ?_ (by assumption) ?_
      rotate_left 1
      · intro w hSw
        (try dsimp only at hSw)
        go_simp
        try with_reducible rfl
      try simp only [List.setIfInBounds_toArray, List.set_cons_zero, List.set_cons_succ]
      refine takeH (i := 2) (v := ?_) rfl rfl (by kernel_rfl) (by kernel_rfl) (by kernel_rfl) (fun _ _ _ h => h) (by rfl) ?_ (by assumption) ?_
      rotate_left 1
      · intro w hSw
        (try dsimp only at hSw)
        go_simp
        try with_reducible rfl
      try simp only [List.setIfInBounds_toArray, List.set_cons_zero, List.set_cons_succ]
      refine takeH (i := 3) (v := ?_) rfl rfl (by kernel_rfl) (by kernel_rfl) (by kernel_rfl) (fun _ _ _ h => h) (by rfl) ?_ (by assumption) ?_
      rotate_left 1
      · intro w hSw
        (try dsimp only at hSw)
        go_simp
        try with_reducible rfl
      try simp only [List.setIfInBounds_toArray, List.set_cons_zero, List.set_cons_succ]
      refine takeH (i := 4) (v := ?_) rfl rfl (by kernel_rfl) (by kernel_rfl) (by kernel_rfl) (fun _ _ _ h => h) (by rfl) ?_ (by assumption) ?_
      rotate_left 1
      · intro w hSw
        (try dsimp only at hSw)
        go_simp
        try with_reducible rfl
      try simp only [List.setIfInBounds_toArray, List.set_cons_zero, List.set_cons_succ]
      refine takeH (i := 5) (v := ?_) rfl rfl (by kernel_rfl) (by kernel_rfl) (by kernel_rfl) (fun _ _ _ h => h) (by rfl) ?_ (by assumption) ?_
      rotate_left 1
      · intro w hSw
        (try dsimp only at hSw)
        go_simp
        try with_reducible rfl
      try simp only [List.setIfInBounds_toArray, List.set_cons_zero, List.set_cons_succ]
      refine takeH (i := 6) (v := ?_) rfl rfl (by kernel_rfl) (by kernel_rfl) (by kernel_rfl) (fun _ _ _ h => h) (by rfl) ?_ (by assumption) ?_
      rotate_left 1
      · intro w hSw
        (try dsimp only at hSw)
        go_simp
        try with_reducible rfl
      try simp only [List.setIfInBounds_toArray, List.set_cons_zero, List.set_cons_succ]
      refine takeH (i := 7) (v := ?_) rfl rfl (by kernel_rfl) (by kernel_rfl) (by kernel_rfl) (fun _ _ _ h => h) (by rfl) ?_ (by assumption) ?_
      rotate_left 1
      · intro w hSw
        (try dsimp only at hSw)
        go_simp
        try with_reducible rfl
      try simp only [List.setIfInBounds_toArray, List.set_cons_zero, List.set_cons_succ]
      refine wpAnyH_ready (rs := [8]) (by kernel_rfl) (by simp) ?_
      refine AllReadyH.cons rfl (fun K hK => ?_) (AllReadyH.nil)
      go_simp
      refine (eqcl_is v _).mono ?_
      rintro en wc ⟨rfl, bc⟩
      go_wp2_with fail
      refine hK.out _ _ ?_ (fun hNew => ?_)
      · exact ⟨⟨⟨cell_later bc hHeld.1.1.1, cell_later bc hHeld.1.1.2.1, cell_later bc hHeld.1.1.2.2.1, cell_later bc hHeld.1.1.2.2.2.1, cell_later bc hHeld.1.1.2.2.2.2.1, cell_later bc hHeld.1.1.2.2.2.2.2.1, cell_later bc hHeld.1.1.2.2.2.2.2.2.1, cell_later bc hHeld.1.1.2.2.2.2.2.2.2⟩, ⟨cell_later bc hHeld.1.2.1, cell_later bc hHeld.1.2.2.1, cell_later bc hHeld.1.2.2.2.1, cell_later bc hHeld.1.2.2.2.2.1, cell_later bc hHeld.1.2.2.2.2.2.1, cell_later bc hHeld.1.2.2.2.2.2.2.1, cell_later bc hHeld.1.2.2.2.2.2.2.2.1, cell_later bc hHeld.1.2.2.2.2.2.2.2.2⟩⟩, Lib.hid (next hHeld.2.out bc)⟩
      clear hK K hHeld
      have hHeld := hNew
      clear hNew
      try simp only [Act.put, List.setIfInBounds_toArray, List.set_cons_zero, List.set_cons_succ]
      refine takeH (i := 9) (v := ?_) rfl rfl (by kernel_rfl) (by kernel_rfl) (by kernel_rfl) (fun _ _ _ h => h) (by rfl) ?_ (by assumption) ?_
      rotate_left 1
      · intro w hSw
        (try dsimp only at hSw)
        go_simp
        try with_reducible rfl
      try simp only [List.setIfInBounds_toArray, List.set_cons_zero, List.set_cons_succ]
      refine wpAnyH_done (by kernel_rfl) ?_ _
      have HW2 := Lib.hid hHeld.2.out
      clear hHeld HC HW
      go_wp2_with fail
      go_roundw
      case rel => exact ⟨k + 1, by go_num, by omega, HW2⟩
      case measure => simp [intOf]; omega
    · obtain rfl : k = L.length := by omega
      go_wp2_with fail
      go_ret
      exact ⟨rfl, HW.out⟩
end Go.Proofs.YtioppkalehnoaaaGreatDoor
