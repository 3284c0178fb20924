/-
  toRouteS: a slice of routes, copied into the call's own memory; the exact law of RouteBest: the walk.
-/
import Derived.Test.YtioppkalehnoaaaGreatDoorRtVu
namespace Go.Proofs.YtioppkalehnoaaaGreatDoor
open Go.RowKit
set_option linter.unusedSimpArgs false
set_option linter.unusedVariables false

def set5o (w : World) (g o : Nat) (v : RV) : World :=
  ((((w.setCell ⟨g, o, none⟩ (.int .i64 v.f)).setCell ⟨g, o + 1, none⟩ (.int .i64 v.b)).setCell ⟨g, o + 2, none⟩ (.slice v.a v.P.length v.c)).setCell ⟨g, o + 3, none⟩ (.int .i64 v.l)).setCell ⟨g, o + 4, none⟩ (.slice v.d v.M.length v.e)
theorem cells5_set (q : RV) : ∀ {L : List RV} {i : Nat}, i < L.length → cells5 (L.set i q) = (cells5 L).take (i * 5) ++ q.cells ++ (cells5 L).drop (i * 5 + 5)
  | [], i, h => by simp at h
  | p :: L, 0, _ => by
    rw [List.set_cons_zero, cells5_cons, cells5_cons, Nat.zero_mul, List.take_zero, List.nil_append, Nat.zero_add, List.drop_left' (five_len _)]
  | p :: L, i + 1, h => by
    rw [List.set_cons_succ, cells5_cons, cells5_cons, cells5_set q (by simpa using h)]
    have e1 : (p.cells ++ cells5 L).take ((i + 1) * 5) = p.cells ++ (cells5 L).take (i * 5) := by
      rw [show (i + 1) * 5 = p.cells.length + i * 5 by rw [five_len]; omega]; exact List.take_length_add_append _
    have e2 : (p.cells ++ cells5 L).drop ((i + 1) * 5 + 5) = (cells5 L).drop (i * 5 + 5) := by
      rw [show (i + 1) * 5 + 5 = p.cells.length + (i * 5 + 5) by rw [five_len]; omega]; exact List.drop_length_add_append _
    rw [e1, e2]
    simp
theorem OwnW.put {w : World} {R g cap : Nat} {L : List RV} (h : OwnW w R g cap L) {i : Nat} (hi : i < L.length) (q : RV) :
    OwnW (set5o w g (i * 5) q) R g cap (L.set i q) ∧ w.grownBy (set5o w g (i * 5) q) (some g) := by
  show OwnW (w.setCells g (i * 5) q.cells) R g cap (L.set i q) ∧ w.grownBy (w.setCells g (i * 5) q.cells) (some g)
  obtain ⟨zs, hl, ht, hn, hm, ho⟩ := own_full h
  have hz : i * 5 + q.cells.length ≤ zs.length := by rw [five_len, hl]; omega
  obtain ⟨h1, h2⟩ := own_cells q.cells w zs (i * 5) ho hz
  refine ⟨?_, h2⟩
  have h3 := own_cut h1 (k := L.length) hn
  rw [mid_take _ _ _ _ (by rw [five_len]; omega) (by rw [hl]; omega), ht, five_len, ← cells5_set q hi] at h3
  rw [OwnW, List.length_set]
  exact h3
theorem OwnW.fz {w : World} {R g cap : Nat} {L : List RV} (h : OwnW w R g cap L) (k : Nat) : w.frozen? ⟨g, k, none⟩ = false := World.ownsRow.frozenAt h k
theorem cells5_rep (n : Nat) : ∀ i, i < n * 5 → (cells5 (List.replicate n zRV))[i]? = zRV.cells[i % 5]? := fun i hi => by
  have h := cells5_at (L := List.replicate n zRV) (k := i / 5) (v := zRV) (j := i % 5) (by rw [List.getElem?_replicate, if_pos (by omega)]) (by omega)
  rw [show i / 5 * 5 + i % 5 = i by omega] at h
  exact h
theorem madeV (n : Nat) : (madeCells #[.int .i64 0, .int .i64 0, .slice none 0 0, .int .i64 0, .slice none 0 0] (n * 5)).toList = cells5 (List.replicate n zRV) := by
  apply List.ext_getElem?
  intro i
  by_cases hi : i < n * 5
  · rw [cells5_rep n i hi, List.getElem?_eq_getElem (by simpa [size_madeCells] using hi)]
    simp only [madeCells, Array.toList_map, List.getElem_map]
    have h5 : i % 5 < 5 := by omega
    have : (List.range (n * 5))[i]'(by simpa using hi) = i := by simp
    simp
    match i % 5, h5 with
    | 0, _ => rfl
    | 1, _ => rfl
    | 2, _ => rfl
    | 3, _ => rfl
    | 4, _ => rfl
  · rw [List.getElem?_eq_none (by simp [size_madeCells]; omega), List.getElem?_eq_none (by rw [cells5_len]; simp; omega)]
/-- how far the copy has come -/
def ToI (w : World) (L : List RV) (g n k : Nat) (LB : List RV) (W : World) : Prop :=
  LB.length = n ∧ OwnW W w.heap.size g n LB ∧ (∀ (j : Nat) y v, j < k → LB[j]? = some y → L[j]? = some v → y.own W w.heap.size ∧ y.rt = v.rt) ∧ Below w.heap.size w W

set_option maxRecDepth 100000 in
set_option maxHeartbeats 2000000 in
theorem tos_any (L : List RV) (a : Option Addr) (cap n : Nat) (w : World) (hn : n = L.length) (hA : RsA w a L) (hl : L.length ≤ 1048576) (hs : ∀ v ∈ L, v.P.length ≤ 1048576 ∧ v.M.length ≤ 1048576) :
    Calls Tryz.prog 19 #[.slice a n cap] w fun e w' => ∃ (LB : List RV) (g c : Nat), e = .returned (.slice (some ⟨g, 0, none⟩) LB.length c) ∧ RsA w' (some ⟨g, 0, none⟩) LB ∧ LB.map RV.rt = L.map RV.rt ∧ Below w.heap.size w w' := by
  subst hn
  have HA := Lib.hid hA
  have HS := Lib.hid hs
  obtain ⟨i0, hi, hz0, hz1, hz2⟩ := info_parts infoR
  clear hA hs
  go_enter Tryz.func19, Tryz.ntmps19
  go_wp2_with (first | (refine wpList_make_full _ rfl (.tmp 6) (.tmp 6) 45 rfl w.heap.size 32 i0 (.agg #[.int .i64 0, .int .i64 0, .slice none 0 0, .int .i64 0, .slice none 0 0]) 5 Tryz.underlying45 hi hz0 hz1 .i64 .i64 _ _ L.length rfl rfl rfl rfl (by rw [hz2]; omega) (by unfold maxLen; omega) (by simp) ?_; intro w1 own1 grow1; have HBm := Lib.hid (And.intro own1 grow1); clear own1 grow1))
  have own1 := HBm.out.1
  rw [show (Value.agg #[.int .i64 0, .int .i64 0, .slice none 0 0, .int .i64 0, .slice none 0 0]).cells = #[.int .i64 0, .int .i64 0, .slice none 0 0, .int .i64 0, .slice none 0 0] from rfl, madeV] at own1
  have hb1 : Below w.heap.size w w1 := (Below.refl _ w).grown HBm.out.2 (Nat.le_refl _) (fun _ h => by cases h)
  have I0 : Hid (ToI w L w.heap.size L.length 0 (List.replicate L.length zRV) w1) := Lib.hid ⟨by simp, by rw [OwnW, List.length_replicate]; simpa using own1, fun j y v hj => by omega, hb1⟩
  clear own1 hb1 HBm
  go_loopw [4] (fun i wr => ∃ (k : Nat) (LB : List RV), i = .int .i64 (k : Int) ∧ k ≤ L.length ∧ Hid (ToI w L w.heap.size L.length k LB wr)) (fun i _ => L.length - (intOf i).toNat)
  case atStart => exact ⟨0, _, rfl, Nat.zero_le _, I0⟩
  case round =>
    clear I0
    obtain ⟨k, LB, rfl, hk, HI⟩ := hrel
    by_cases hlt : k < L.length
    · obtain ⟨v, hv⟩ : ∃ v, L[k]? = some v := ⟨_, List.getElem?_eq_getElem hlt⟩
      obtain ⟨b, off, rfl, ⟨q0, q1, q2, q3, q4⟩, hm⟩ := (HA.out.below HI.out.2.2.2).at hv
      have HV := Lib.hid hv
      have hsv := HS.out v (List.mem_of_getElem? hv)
      have i0' : (0 : Int) ≤ (k : Int) := by omega
      have i1 : (k : Int) < (L.length : Int) := by omega
      have hsz := HI.out.2.2.2.size
      clear hv
      go_wp2_with fail
      refine (tort_is v.f v.b v.a v.c v.P v.l v.d v.e v.M _ hm hsv.1 hsv.2).mono ?_
      rintro en w2 ⟨pv, mv, rfl, S, o1, bP, o2, hS, b2⟩
      replace o1 : OwnI w2 wr.heap.size pv v.P := o1
      replace o2 : OwnI w2 S mv v.M := o2
      obtain ⟨a2, c2, rfl, _, _⟩ := OwnI.tab o1
      obtain ⟨d2, e2, rfl, _, _⟩ := OwnI.tab o2
      obtain ⟨y, hy⟩ : ∃ y : RV, y = ⟨v.f, v.b, a2, c2, v.P, v.l, d2, e2, v.M⟩ := ⟨_, rfl⟩
      have HW2 := Lib.hid (next HI.out.2.2.2 b2)
      have HO2 : Hid (OwnW w2 w.heap.size w.heap.size L.length LB) := Lib.hid (World.ownsRow.kept HI.out.2.1 (row := none) ⟨b2.os, b2.tape, b2.output, b2.size, fun i hi _ => b2.block i hi⟩ (.inr (by simp [Value.ownBlock])))
      have HE2 : Hid (∀ (j : Nat) x u, j < k → LB[j]? = some x → L[j]? = some u → x.own w2 w.heap.size ∧ x.rt = u.rt) := Lib.hid (fun j x u hj hx hu => ⟨⟨owni_later (HI.out.2.2.1 j x u hj hx hu).1.1 b2, owni_later (HI.out.2.2.1 j x u hj hx hu).1.2 b2⟩, (HI.out.2.2.1 j x u hj hx hu).2⟩)
      have HY : Hid (y.own w2 w.heap.size ∧ y.rt = v.rt) := Lib.hid (by rw [hy]; exact ⟨⟨owni_mono o1 hsz, owni_mono o2 (Nat.le_trans hsz hS)⟩, rfl⟩)
      have hlb := HI.out.1
      have hkl : k < LB.length := by omega
      have HP := Lib.hid (OwnW.put HO2.out hkl y)
      obtain ⟨z, hz⟩ : ∃ z, LB[k]? = some z := ⟨_, List.getElem?_eq_getElem hkl⟩
      have cA := OwnW.cellsA HO2.out
      have r0 := cA _ _ (cells5_at (j := 0) hz (by omega))
      have r1 := cA _ _ (cells5_at (j := 1) hz (by omega))
      have r2 := cA _ _ (cells5_at (j := 2) hz (by omega))
      have r3 := cA _ _ (cells5_at (j := 3) hz (by omega))
      have r4 := cA _ _ (cells5_at (j := 4) hz (by omega))
      simp only [Nat.add_zero] at r0
      have u0 := OwnW.fz HO2.out (k * 5)
      have u1 := OwnW.fz HO2.out (k * 5 + 1)
      have u2 := OwnW.fz HO2.out (k * 5 + 2)
      have u3 := OwnW.fz HO2.out (k * 5 + 3)
      have u4 := OwnW.fz HO2.out (k * 5 + 4)
      have hlow := (OwnW.low HO2.out).1
      have j1 : (k : Int) < (LB.length : Int) := by omega
      have HLB := Lib.hid hlb
      clear o1 o2 bP hS b2 q0 q1 q2 q3 q4 hm hz cA HI hlb
      go_wp2_with fail
      clear r0 r1 r2 r3 r4 u0 u1 u2 u3 u4
      have hX0 : set5o w2 w.heap.size (k * 5) y = set5o w2 w.heap.size (k * 5) ⟨v.f, v.b, a2, c2, v.P, v.l, d2, e2, v.M⟩ := by rw [hy]
      rw [hX0] at HP
      generalize hX : set5o w2 w.heap.size (k * 5) ⟨v.f, v.b, a2, c2, v.P, v.l, d2, e2, v.M⟩ = w3 at *
      unfold set5o at hX
      dsimp only at hX
      rw [hX]
      have HI3 : Hid (ToI w L w.heap.size L.length (k + 1) (LB.set k y) w3) := Lib.hid ⟨by rw [List.length_set]; exact HLB.out, HP.out.1, fun j x u hj hx hu => by
        by_cases e : j = k
        · subst e
          rw [List.getElem?_set_self hkl] at hx
          rw [HV.out] at hu
          cases hx
          cases hu
          exact ⟨⟨owni_far HO2.out HY.out.1.1 HP.out.2, owni_far HO2.out HY.out.1.2 HP.out.2⟩, HY.out.2⟩
        · rw [List.getElem?_set_ne (fun h => e h.symm)] at hx
          have h := HE2.out j x u (by omega) hx hu
          exact ⟨⟨owni_far HO2.out h.1.1 HP.out.2, owni_far HO2.out h.1.2 HP.out.2⟩, h.2⟩, HW2.out.grown HP.out.2 HW2.out.size (fun q e => by cases e; omega)⟩
      clear hX hX0 HP HO2 HE2 HY HW2
      go_wp2_with fail
      go_roundw
      case rel => exact ⟨k + 1, LB.set k y, by go_num, by omega, HI3⟩
      case measure => simp [intOf]; omega
    · obtain rfl : k = L.length := by omega
      have hlb := HI.out.1
      have HLB := Lib.hid hlb
      have HR : Hid (LB.map RV.rt = L.map RV.rt) := Lib.hid (List.ext_getElem? fun j => by
        rw [List.getElem?_map, List.getElem?_map]
        by_cases hj : j < L.length
        · have h1 : LB[j]? = some LB[j] := List.getElem?_eq_getElem (by omega)
          have h2 : L[j]? = some L[j] := List.getElem?_eq_getElem hj
          rw [h1, h2]
          simp only [Option.map_some]
          rw [(HI.out.2.2.1 j _ _ hj h1 h2).2]
        · rw [List.getElem?_eq_none (by omega), List.getElem?_eq_none (by omega)])
      have HF : Hid (RsA wr (some ⟨w.heap.size, 0, none⟩) LB) := Lib.hid (OwnW.rsa HI.out.2.1 (fun y hy => by
        obtain ⟨j, hj⟩ := List.mem_iff_getElem?.1 hy
        have hjl := (List.getElem?_eq_some_iff.1 hj).1
        have h2 : L[j]? = some L[j] := List.getElem?_eq_getElem (by omega)
        have h := HI.out.2.2.1 j y _ (by omega) hj h2
        have hs2 := HS.out _ (List.mem_of_getElem? h2)
        have e : y.P = L[j].P ∧ y.M = L[j].M := by
          have := h.2
          simp only [RV.rt, Prod.mk.injEq] at this
          exact ⟨this.2.2.1, this.2.2.2.2⟩
        exact h.1.m (by rw [e.1]; omega) (by rw [e.2]; omega)))
      clear hlb
      go_wp2_with fail
      go_ret
      exact ⟨LB, w.heap.size, L.length, by rw [HLB.out]; rfl, HF.out, HR.out, HI.out.2.2.2⟩
end Go.Proofs.YtioppkalehnoaaaGreatDoor
