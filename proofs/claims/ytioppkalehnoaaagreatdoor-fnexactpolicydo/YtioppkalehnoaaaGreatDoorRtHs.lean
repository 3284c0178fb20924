/-
  The library's heap over routes: up, Push.
-/
import Derived.Test.YtioppkalehnoaaaGreatDoorRtHr
namespace Go.Proofs.YtioppkalehnoaaaGreatDoor
open Go.RowKit
set_option linter.unusedSimpArgs false
set_option linter.unusedVariables false

theorem hless_asym {l : List Rt} {x y : Nat} (h : hless l x y = true) : hless l y x = false := by
  rw [← Bool.not_eq_true]
  rw [hless_iff] at *
  have n := rtCmp0_neg (l.getD x zRt) (l.getD y zRt)
  omega
/-- the first one is least -/
def TopIs (l : List Rt) (K : List Nat) : Prop := ∃ t, K[0]? = some t ∧ ∀ (k : Nat) y, K[k]? = some y → hless l y t = false
/-- x stands at j; of the others none is less than the first one -/
def UpI (l : List Rt) (K : List Nat) (j x r : Nat) : Prop := K[j]? = some x ∧ (j = 0 → ∀ (k : Nat) y, K[k]? = some y → hless l y x = false) ∧ (j ≠ 0 → K[0]? = some r ∧ ∀ (k : Nat) y, K[k]? = some y → k ≠ j → hless l y r = false)
theorem UpI.stop0 {l : List Rt} {K : List Nat} {x r : Nat} (h : UpI l K 0 x r) : TopIs l K := ⟨x, h.1, h.2.1 rfl⟩
theorem UpI.stop {l : List Rt} {K : List Nat} {j x r i p : Nat} (h : UpI l K j x r) (hj : j ≠ 0) (hp : K[i]? = some p) (hij : i ≠ j) (hn : hless l x p = false) : TopIs l K := by
  obtain ⟨h1, h2⟩ := h.2.2 hj
  refine ⟨r, h1, fun k y hy => ?_⟩
  by_cases e : k = j
  · subst e
    rw [h.1] at hy
    cases hy
    cases c : hless l x r with
    | false => rfl
    | true => rw [hless_past c (h2 i p hp hij)] at hn; cases hn
  · exact h2 k y hy e
theorem swap_at {K : List Nat} {i j x p : Nat} (hx : K[j]? = some x) (hp : K[i]? = some p) (k : Nat) : ((K.set i x).set j p)[k]? = if k = j then some p else if k = i then some x else K[k]? := by
  have hj : j < K.length := (List.getElem?_eq_some_iff.1 hx).1
  have hi : i < K.length := (List.getElem?_eq_some_iff.1 hp).1
  split
  · rename_i e; subst e; rw [List.getElem?_set_self (by rw [List.length_set]; exact hj)]
  · rename_i e
    rw [List.getElem?_set_ne (fun h => e h.symm)]
    split
    · rename_i e2; subst e2; rw [List.getElem?_set_self hi]
    · rename_i e2; rw [List.getElem?_set_ne (fun h => e2 h.symm)]
theorem UpI.swap {l : List Rt} {K : List Nat} {j x r i p : Nat} (h : UpI l K j x r) (hj : j ≠ 0) (hp : K[i]? = some p) (hij : i < j) (hl : hless l x p = true) : UpI l ((K.set i x).set j p) i x r := by
  obtain ⟨h1, h2⟩ := h.2.2 hj
  have at' := swap_at h.1 hp
  refine ⟨by rw [at', if_neg (by omega), if_pos rfl], fun e k y hy => ?_, fun e => ⟨by rw [at', if_neg (by omega), if_neg (by omega)]; exact h1, fun k y hy hk => ?_⟩⟩
  · subst e
    obtain rfl : p = r := by rw [hp] at h1; simpa using h1
    rw [at'] at hy
    split at hy
    · cases hy; exact hless_asym hl
    · split at hy
      · cases hy; exact hless_irr l _
      · rename_i e1 e2
        exact hless_asym (hless_past hl (h2 k y hy e1))
  · rw [at'] at hy
    split at hy
    · cases hy; exact h2 i p hp (by omega)
    · rename_i e1
      exact h2 k y (by simpa [hk] using hy) e1
theorem swap_mem {K : List Nat} {i j x p : Nat} (hx : K[j]? = some x) (hp : K[i]? = some p) (y : Nat) : y ∈ (K.set i x).set j p ↔ y ∈ K := by
  have at' := swap_at hx hp
  rw [List.mem_iff_getElem?, List.mem_iff_getElem?]
  constructor
  · rintro ⟨k, hk⟩
    rw [at'] at hk
    split at hk
    · cases hk; exact ⟨i, hp⟩
    · split at hk
      · cases hk; exact ⟨j, hx⟩
      · exact ⟨k, hk⟩
  · rintro ⟨k, hk⟩
    by_cases e1 : k = i
    · subst e1
      rw [hp] at hk; cases hk
      exact ⟨j, by rw [at', if_pos rfl]⟩
    · by_cases e2 : k = j
      · subst e2
        rw [hx] at hk; cases hk
        exact ⟨i, by rw [at', if_neg (fun h => e1 h.symm), if_pos rfl]⟩
      · exact ⟨k, by rw [at', if_neg e2, if_neg e1]; exact hk⟩
theorem rvAt_mem {L : List RV} {p : Nat} (h : p < L.length) : rvAt L p ∈ L := by
  unfold rvAt
  rw [List.getD_eq_getElem?_getD, List.getElem?_eq_getElem h]
  exact List.getElem_mem h
theorem rvAt_rt (L : List RV) (p : Nat) : (L.map RV.rt).getD p zRt = (rvAt L p).rt := by
  unfold rvAt
  rw [List.getD_eq_getElem?_getD, List.getD_eq_getElem?_getD, List.getElem?_map]
  cases L[p]? <;> rfl
/-- the first N routes of the list, each good, as they lie in memory -/
def RsM (w : World) (L : List RV) (N : Nat) : Prop := ∀ y, y < N → (rvAt L y).m w ∧ RtGood (rvAt L y).rt

end Go.Proofs.YtioppkalehnoaaaGreatDoor
