/-
  Relations between houses: which matrices are valid, what one house is to another, the order of houses (no program here).
-/
import Derived.Test.YtnljcppefnaapaaJ1
namespace Go.Proofs.Ytnljcppefnaapaa

abbrev Mat := List (List Int)
def mAt (M : Mat) (i k : Nat) : Int := (M.getD i []).getD k 0
/-- what the first is to the second, if the second is that to the first -/
def relB (r : Int) : Int := if r = 1 then 3 else if r = 3 then 1 else r
theorem relB_relB (r : Int) : relB (relB r) = r := by
  unfold relB
  by_cases h1 : r = 1
  · subst h1; rfl
  · by_cases h3 : r = 3
    · subst h3; rfl
    · simp [h1, h3]
def cellOk (M : Mat) (i k : Nat) : Bool := decide ((M.getD k []).length = M.length) && decide (0 ≤ mAt M i k ∧ mAt M i k ≤ 3) && decide (mAt M k i = relB (mAt M i k)) && decide (i = k → mAt M i k = 0)
def rowOk (M : Mat) (i : Nat) : Bool := decide ((M.getD i []).length = M.length) && (List.range M.length).all (cellOk M i)
def relsOk (M : Mat) : Bool := (List.range M.length).all (rowOk M) && decide (1 ≤ M.length ∧ M.length ≤ 5)
structure RelsGood (M : Mat) : Prop where
  len : 1 ≤ M.length ∧ M.length ≤ 5
  sq : ∀ i, i < M.length → (M.getD i []).length = M.length
  ran : ∀ i k, i < M.length → k < M.length → 0 ≤ mAt M i k ∧ mAt M i k ≤ 3
  back : ∀ i k, i < M.length → k < M.length → mAt M k i = relB (mAt M i k)
  diag : ∀ i, i < M.length → mAt M i i = 0
theorem cellOk_iff (M : Mat) (i k : Nat) : cellOk M i k = true ↔ (M.getD k []).length = M.length ∧ (0 ≤ mAt M i k ∧ mAt M i k ≤ 3) ∧ mAt M k i = relB (mAt M i k) ∧ (i = k → mAt M i k = 0) := by
  simp only [cellOk, Bool.and_eq_true, decide_eq_true_eq, and_assoc]
theorem rowOk_iff (M : Mat) (i : Nat) : rowOk M i = true ↔ (M.getD i []).length = M.length ∧ ∀ k, k < M.length → cellOk M i k = true := by
  simp only [rowOk, Bool.and_eq_true, decide_eq_true_eq, List.all_eq_true, List.mem_range]
theorem relsOk_iff (M : Mat) : relsOk M = true ↔ RelsGood M := by
  simp only [relsOk, Bool.and_eq_true, decide_eq_true_eq, List.all_eq_true, List.mem_range, rowOk_iff, cellOk_iff]
  constructor
  · rintro ⟨h, hl⟩
    exact ⟨hl, fun i hi => (h i hi).1, fun i k hi hk => ((h i hi).2 k hk).2.1, fun i k hi hk => ((h i hi).2 k hk).2.2.1, fun i hi => ((h i hi).2 i hi).2.2.2 rfl⟩
  · intro h
    exact ⟨fun i hi => ⟨h.sq i hi, fun k hk => ⟨h.sq k hk, h.ran i k hi hk, h.back i k hi hk, fun e => by subst e; exact h.diag i hi⟩⟩, h.len⟩
theorem relsOk_row {M : Mat} {i : Nat} (hi : i < M.length) (h : rowOk M i = false) : relsOk M = false := by
  rw [← Bool.not_eq_true]; intro k
  simp only [relsOk, Bool.and_eq_true, List.all_eq_true, List.mem_range] at k
  have := k.1 i hi; rw [h] at this; cases this
theorem relsOk_cell {M : Mat} {i k : Nat} (hi : i < M.length) (hk : k < M.length) (h : cellOk M i k = false) : relsOk M = false := relsOk_row hi (by
  rw [← Bool.not_eq_true]; intro q
  have := ((rowOk_iff M i).1 q).2 k hk; rw [h] at this; cases this)
theorem relsOk_rows {M : Mat} (h : ∀ i, i < M.length → rowOk M i = true) : relsOk M = decide (1 ≤ M.length ∧ M.length ≤ 5) := by
  have : (List.range M.length).all (rowOk M) = true := by rw [List.all_eq_true]; intro i hi; exact h i (List.mem_range.1 hi)
  simp [relsOk, this]
/-- what house b is to house a (from 1 on) -/
def relOf (M : Mat) (a b : Int) : Int := if relsOk M = true ∧ (1 ≤ a ∧ a ≤ M.length) ∧ (1 ≤ b ∧ b ≤ M.length) then mAt M (a - 1).toNat (b - 1).toNat else 0
def may0 (M : Mat) (h f t : Int) : Bool := decide (mAt M (h - 1).toNat (t - 1).toNat ≠ 0) && (decide (f = 0) || decide (mAt M (h - 1).toNat (f - 1).toNat = 1) || decide (mAt M (h - 1).toNat (t - 1).toNat = 1))
def relMay (M : Mat) (h f t : Int) : Bool := relsOk M && decide (1 ≤ h ∧ h ≤ M.length) && decide (0 ≤ f ∧ f ≤ M.length) && decide (1 ≤ t ∧ t ≤ M.length) && may0 M h f t
/-! the order -/
def freeH (M : Mat) (out : List Int) (h : Nat) : Bool := (List.range M.length).all fun c => decide (mAt M (h - 1) c ≠ 1) || decide (((c + 1 : Nat) : Int) ∈ out)
def canH (M : Mat) (out : List Int) (h : Nat) : Bool := !decide ((h : Int) ∈ out) && freeH M out h
/-- the least one that can stand next; 0 if none can -/
def nextH (M : Mat) (out : List Int) : Option Nat := ((List.range M.length).map (· + 1)).find? (canH M out)
def stepO (M : Mat) (out : List Int) : List Int := match nextH M out with
  | some h => out ++ [(h : Int)]
  | none => out
def orderN (M : Mat) : Nat → List Int → List Int
  | 0, out => out
  | n + 1, out => orderN M n (stepO M out)
def orderM (M : Mat) : List Int := orderN M M.length []
def relsFree (M : Mat) : Bool := relsOk M && decide ((orderM M).length = M.length)
def relsOrder (M : Mat) : List Int × Bool := if relsFree M then (orderM M, true) else ([], false)
theorem freeH_iff (M : Mat) (out : List Int) (h : Nat) : freeH M out h = true ↔ ∀ c, c < M.length → mAt M (h - 1) c ≠ 1 ∨ ((c + 1 : Nat) : Int) ∈ out := by
  simp only [freeH, List.all_eq_true, List.mem_range, Bool.or_eq_true, decide_eq_true_eq]
theorem nextH_some {M : Mat} {out : List Int} {h : Nat} (h1 : 1 ≤ h) (h2 : h ≤ M.length) (hc : canH M out h = true) (hl : ∀ k, 1 ≤ k → k < h → canH M out k = false) : nextH M out = some h := by
  unfold nextH
  rw [List.find?_eq_some_iff_getElem]
  refine ⟨hc, h - 1, by simp; omega, by simp; omega, fun j hj => ?_⟩
  simp only [List.getElem_map, List.getElem_range]
  rw [hl (j + 1) (by omega) (by omega)]; rfl
theorem nextH_none {M : Mat} {out : List Int} (hl : ∀ k, 1 ≤ k → k ≤ M.length → canH M out k = false) : nextH M out = none := by
  unfold nextH
  rw [List.find?_eq_none]
  intro x hx
  obtain ⟨j, hj, rfl⟩ := List.mem_map.1 hx
  rw [hl (j + 1) (by omega) (by have := List.mem_range.1 hj; omega)]; simp
theorem stepO_len (M : Mat) (out : List Int) : (stepO M out).length ≤ out.length + 1 := by
  unfold stepO; split <;> simp
theorem orderN_len (M : Mat) : ∀ (n : Nat) (out : List Int), (orderN M n out).length ≤ out.length + n
  | 0, out => by simp [orderN]
  | n + 1, out => by
    have h1 := orderN_len M n (stepO M out)
    have h2 := stepO_len M out
    simp only [orderN]; omega
theorem orderN_step (M : Mat) : ∀ (n : Nat) (out : List Int), orderN M (n + 1) out = stepO M (orderN M n out)
  | 0, out => rfl
  | n + 1, out => by
    rw [orderN, orderN_step M n (stepO M out)]; rfl
end Go.Proofs.Ytnljcppefnaapaa
