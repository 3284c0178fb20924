/-
  The library's heap over routes: up, Push.
-/
import Derived.Test.YtfjfcdifnfffbaaDoorRtHr
namespace Go.Proofs.YtfjfcdifnfffbaaDoor
open Go.RowKit
set_option linter.unusedSimpArgs false
set_option linter.unusedVariables false

theorem hless_asym {l : List Rt} {x y : Nat} (h : hless l x y = true) : hless l y x = false := by
  rw [← Bool.not_eq_true]
  rw [hless_iff] at *
  have n := rtCmp0_neg (l.getD x zRt) (l.getD y zRt)
  omega
/-- the first one is least -/
def TopIs (l : List Rt) (K : List Nat) : Prop := ∃ t, K[0]? = some t ∧ ∀ (k : Nat) y, K[k]? = some y → hless l y t = false
/-- x stands at j; of the others none is less than the first one -/
def UpI (l : List Rt) (K : List Nat) (j x r : Nat) : Prop := K[j]? = some x ∧ (j = 0 → ∀ (k : Nat) y, K[k]? = some y → hless l y x = false) ∧ (j ≠ 0 → K[0]? = some r ∧ ∀ (k : Nat) y, K[k]? = some y → k ≠ j → hless l y r = false)
theorem UpI.stop0 {l : List Rt} {K : List Nat} {x r : Nat} (h : UpI l K 0 x r) : TopIs l K := ⟨x, h.1, h.2.1 rfl⟩
theorem UpI.stop {l : List Rt} {K : List Nat} {j x r i p : Nat} (h : UpI l K j x r) (hj : j ≠ 0) (hp : K[i]? = some p) (hij : i ≠ j) (hn : hless l x p = false) : TopIs l K := by
  obtain ⟨h1, h2⟩ := h.2.2 hj
  refine ⟨r, h1, fun k y hy => ?_⟩
  by_cases e : k = j
  · subst e
    rw [h.1] at hy
    cases hy
    cases c : hless l x r with
    | false => rfl
    | true => rw [hless_past c (h2 i p hp hij)] at hn; cases hn
  · exact h2 k y hy e
theorem swap_at {K : List Nat} {i j x p : Nat} (hx : K[j]? = some x) (hp : K[i]? = some p) (k : Nat) : ((K.set i x).set j p)[k]? = if k = j then some p else if k = i then some x else K[k]? := by
  have hj : j < K.length := (List.getElem?_eq_some_iff.1 hx).1
  have hi : i < K.length := (List.getElem?_eq_some_iff.1 hp).1
  split
  · rename_i e; subst e; rw [List.getElem?_set_self (by rw [List.length_set]; exact hj)]
  · rename_i e
    rw [List.getElem?_set_ne (fun h => e h.symm)]
    split
    · rename_i e2; subst e2; rw [List.getElem?_set_self hi]
    · rename_i e2; rw [List.getElem?_set_ne (fun h => e2 h.symm)]
theorem UpI.swap {l : List Rt} {K : List Nat} {j x r i p : Nat} (h : UpI l K j x r) (hj : j ≠ 0) (hp : K[i]? = some p) (hij : i < j) (hl : hless l x p = true) : UpI l ((K.set i x).set j p) i x r := by
  obtain ⟨h1, h2⟩ := h.2.2 hj
  have at' := swap_at h.1 hp
  refine ⟨by rw [at', if_neg (by omega), if_pos rfl], fun e k y hy => ?_, fun e => ⟨by rw [at', if_neg (by omega), if_neg (by omega)]; exact h1, fun k y hy hk => ?_⟩⟩
  · subst e
    obtain rfl : p = r := by rw [hp] at h1; simpa using h1
    rw [at'] at hy
    split at hy
    · cases hy; exact hless_asym hl
    · split at hy
      · cases hy; exact hless_irr l _
      · rename_i e1 e2
        exact hless_asym (hless_past hl (h2 k y hy e1))
  · rw [at'] at hy
    split at hy
    · cases hy; exact h2 i p hp (by omega)
    · rename_i e1
      exact h2 k y (by simpa [hk] using hy) e1
theorem swap_mem {K : List Nat} {i j x p : Nat} (hx : K[j]? = some x) (hp : K[i]? = some p) (y : Nat) : y ∈ (K.set i x).set j p ↔ y ∈ K := by
  have at' := swap_at hx hp
  rw [List.mem_iff_getElem?, List.mem_iff_getElem?]
  constructor
  · rintro ⟨k, hk⟩
    rw [at'] at hk
    split at hk
    · cases hk; exact ⟨i, hp⟩
    · split at hk
      · cases hk; exact ⟨j, hx⟩
      · exact ⟨k, hk⟩
  · rintro ⟨k, hk⟩
    by_cases e1 : k = i
    · subst e1
      rw [hp] at hk; cases hk
      exact ⟨j, by rw [at', if_pos rfl]⟩
    · by_cases e2 : k = j
      · subst e2
        rw [hx] at hk; cases hk
        exact ⟨i, by rw [at', if_neg (fun h => e1 h.symm), if_pos rfl]⟩
      · exact ⟨k, by rw [at', if_neg e2, if_neg e1]; exact hk⟩
theorem rvAt_mem {L : List RV} {p : Nat} (h : p < L.length) : rvAt L p ∈ L := by
  unfold rvAt
  rw [List.getD_eq_getElem?_getD, List.getElem?_eq_getElem h]
  exact List.getElem_mem h
theorem rvAt_rt (L : List RV) (p : Nat) : (L.map RV.rt).getD p zRt = (rvAt L p).rt := by
  unfold rvAt
  rw [List.getD_eq_getElem?_getD, List.getD_eq_getElem?_getD, List.getElem?_map]
  cases L[p]? <;> rfl
/-- the first N routes of the list, each good, as they lie in memory -/
def RsM (w : World) (L : List RV) (N : Nat) : Prop := ∀ y, y < N → (rvAt L y).m w ∧ RtGood (rvAt L y).rt

theorem less_is (R H : Nat) (L : List RV) (g n cap : Nat) (K : List Nat) {i j p q : Nat} {x : Bool} (hx : hless (L.map RV.rt) p q = x) (w : World) (pe : Addr) (ho : OwnH w R (.slice (some ⟨g, 0, none⟩) n cap) L K)
    (hp : K[i]? = some p) (hq : K[j]? = some q) {N : Nat} (hpl : p < N) (hql : q < N) (hL : RsM w L N) (hE : EV w pe) :
    Calls Tryd.prog 159 #[.slice (some ⟨g, 0, none⟩) n cap, .int .i64 (i : Int), .int .i64 (j : Int)] w fun e w' => e = .returned (.bool x) ∧ Below w.heap.size w w' := by
  have hn := OwnH.len ho
  have hi : i < n := by rw [hn]; exact (List.getElem?_eq_some_iff.1 hp).1
  have hj : j < n := by rw [hn]; exact (List.getElem?_eq_some_iff.1 hq).1
  have k1 := OwnH.at ho hp
  have k2 := OwnH.at ho hq
  have g1 := hL _ hpl
  have g2 := hL _ hql
  have hx' : decide (rtCmp0 (rvAt L p).rt (rvAt L q).rt = -1 ∨ rtCmp0 (rvAt L p).rt (rvAt L q).rt = 0 ∧ p < q) = x := by rw [← hx, hless, rvAt_rt, rvAt_rt]
  generalize rvAt L p = v1 at *
  generalize rvAt L q = v2 at *
  obtain ⟨f1, b1, a1, c1, P1, l1, d1, e1, M1⟩ := v1
  obtain ⟨f2, b2, a2, c2, P2, l2, d2, e2, M2⟩ := v2
  exact less0_is f1 b1 a1 c1 P1 l1 d1 e1 M1 f2 b2 a2 c2 P2 l2 d2 e2 M2 g n cap i j p q hx' g1.2 g2.2 w pe hi hj k1 k2 g1.1 g2.1 hE

set_option maxRecDepth 100000 in
set_option maxHeartbeats 4000000 in
theorem up_is (R H : Nat) (L : List RV) (g n cap : Nat) (K : List Nat) (j x r : Nat) (w : World) (pe : Addr) (hS : HpS w R H L (.slice (some ⟨g, 0, none⟩) n cap) K) (hU : UpI (L.map RV.rt) K j x r) (N : Nat) (hK : ∀ y ∈ K, y < N) (hn : n ≤ 2000000)
    (hB : ∀ W, Below R w W → RsM W L N ∧ EV W pe) :
    Calls Tryd.prog 110 #[.iface 80 (.pointer (some ⟨H, 0, none⟩)), .int .i64 (j : Int)] w
      fun e w' => e = .returned (.tuple #[]) ∧ (∃ K', HpS w' R H L (.slice (some ⟨g, 0, none⟩) n cap) K' ∧ (∀ y, y ∈ K' ↔ y ∈ K) ∧ TopIs (L.map RV.rt) K') ∧ Below R w w' := by
  have HS := Lib.hid hS
  have HU := Lib.hid hU
  have HK := Lib.hid hK
  have HB := Lib.hid hB
  have hRs : R ≤ w.heap.size := by have := hS.lt; have := hS.1; omega
  clear hS hU hK hB
  go_enter Tryd.func110, Tryd.ntmps110
  go_wp2_with fail
  go_loopw [1] (fun q wr => ∃ (k : Nat) (K' : List Nat), q = .int .i64 (k : Int) ∧ Hid (UpI (L.map RV.rt) K' k x r) ∧ Hid (∀ y, y ∈ K' ↔ y ∈ K) ∧ Hid (HpS wr R H L (.slice (some ⟨g, 0, none⟩) n cap) K') ∧ Hid (Below R w wr)) (fun q _ => (intOf q).toNat)
  case atStart => exact ⟨j, K, rfl, HU, Lib.hid fun _ => Iff.rfl, HS, Lib.hid (Below.refl _ _)⟩
  case round =>
    clear HU HS
    obtain ⟨k, Kc, rfl, HU, HM, HS, HW⟩ := hrel
    have hkn : k < n := by
      have h1 := (List.getElem?_eq_some_iff.1 HU.out.1).1
      have h2 := OwnH.len HS.out.2.2
      omega
    by_cases hk0 : k = 0
    · subst hk0
      have t1 : IntKind.i64.wrap (((0 : Nat) : Int) - 1) = -1 := by rw [IntKind.wrap_i64]; decide
      go_wp2_with fail
      go_end0
      exact ⟨rfl, ⟨Kc, HS.out, HM.out, HU.out.stop0⟩, HW.out⟩
    · obtain ⟨i, hi⟩ : ∃ i : Nat, i = (k - 1) / 2 := ⟨_, rfl⟩
      have hik : i < k := by omega
      have t1 : IntKind.i64.wrap ((k : Int) - 1) = (k : Int) - 1 := by rw [IntKind.wrap_i64]; omega
      have t2 : ((k : Int) - 1).tdiv 2 = (i : Int) := by rw [Int.tdiv_eq_ediv_of_nonneg (by omega)]; omega
      have t3 : IntKind.i64.wrap (i : Int) = (i : Int) := by rw [IntKind.wrap_i64]; omega
      have t4 : ((i : Int) == (k : Int)) = false := by rw [beq_eq_false_iff_ne]; omega
      have hlen := OwnH.len HS.out.2.2
      obtain ⟨p, hp⟩ : ∃ p, Kc[i]? = some p := ⟨_, List.getElem?_eq_getElem (by omega)⟩
      have hpl : p < N := HK.out p ((HM.out p).1 (List.mem_of_getElem? hp))
      have hxl : x < N := HK.out x ((HM.out x).1 (List.mem_of_getElem? HU.out.1))
      have HP := Lib.hid hp
      have hMl := meth_less wr H _ HS.out.cell
      have hRw : R ≤ wr.heap.size := Nat.le_trans hRs HW.out.size
      clear hp hlen hi
      cases hx : hless (L.map RV.rt) x p with
      | false =>
        have HX := Lib.hid hx
        clear hx
        go_wp2_with fail
        refine (less_is R H L g n cap Kc HX.out _ pe HS.out.2.2 HU.out.1 HP.out hxl hpl (HB.out _ HW.out).1 (HB.out _ HW.out).2).mono ?_
        rintro en w2 ⟨rfl, b2⟩
        have HS2 := Lib.hid (HS.out.later b2)
        have HW2 := Lib.hid (HW.out.trans (b2.mono hRw))
        clear b2 hMl
        go_wp2_with fail
        go_end0
        exact ⟨rfl, ⟨Kc, HS2.out, HM.out, HU.out.stop hk0 HP.out (by omega) HX.out⟩, HW2.out⟩
      | true =>
        have HX := Lib.hid hx
        clear hx
        go_wp2_with fail
        refine (less_is R H L g n cap Kc HX.out _ pe HS.out.2.2 HU.out.1 HP.out hxl hpl (HB.out _ HW.out).1 (HB.out _ HW.out).2).mono ?_
        rintro en w2 ⟨rfl, b2⟩
        have HS2 := Lib.hid (HS.out.later b2)
        have HW2 := Lib.hid (HW.out.trans (b2.mono hRw))
        have hMs := meth_swap w2 H _ HS2.out.cell
        have hRw2 : R ≤ w2.heap.size := Nat.le_trans hRw b2.size
        clear b2 hMl
        go_wp2_with fail
        refine (swap_is R g n cap L Kc i k p x _ HS2.out.2.2 HP.out HU.out.1).mono ?_
        rintro en w3 ⟨rfl, o3, g3⟩
        have HS3 := Lib.hid (HS2.out.turn o3 (by simp [Value.ownBlock]) g3)
        have HW3 := Lib.hid (HW2.out.grown g3 hRw2 (fun q e => (World.ownsRow.lt HS2.out.2.2 q (by simpa [Value.ownBlock] using e)).1))
        clear o3 g3 hMs
        go_wp2_with fail
        go_roundw
        case rel => exact ⟨i, (Kc.set i x).set k p, rfl, Lib.hid (HU.out.swap hk0 HP.out hik HX.out), Lib.hid (fun y => (swap_mem HU.out.1 HP.out y).trans (HM.out y)), HS3, HW3⟩
        case measure => simp [intOf]; omega
end Go.Proofs.YtfjfcdifnfffbaaDoor
