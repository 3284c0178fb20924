/-
  The order of houses: each once, behind its customers; there is one if and only if houses have ranks (no program here).
-/
import Derived.Test.YtnljcppefnaapaaMathM
namespace Go.Proofs.Ytnljcppefnaapaa

theorem nd_len {n : Nat} {L : List Int} (h : ∀ x ∈ L, 1 ≤ x ∧ x ≤ n) (hn : L.Nodup) : L.length ≤ n := by rw [← cntH_len n L h hn]; exact cntH_le L n
theorem cntH_full {L : List Int} : ∀ n : Nat, cntH L n = n → ∀ x : Int, 1 ≤ x → x ≤ n → x ∈ L
  | 0, _, x, h1, h2 => by omega
  | n + 1, h, x, h1, h2 => by
    have hle := cntH_le L n
    simp only [cntH] at h
    by_cases hm : ((n + 1 : Nat) : Int) ∈ L
    · rw [if_pos hm] at h
      by_cases e : x = ((n + 1 : Nat) : Int)
      · rw [e]; exact hm
      · exact cntH_full n (by omega) x h1 (by omega)
    · rw [if_neg hm] at h; omega
theorem cntH_all {L : List Int} : ∀ n : Nat, (∀ x : Int, 1 ≤ x → x ≤ n → x ∈ L) → cntH L n = n
  | 0, _ => rfl
  | n + 1, h => by
    have ih := cntH_all n (fun x h1 h2 => h x h1 (by omega))
    simp only [cntH, ih, if_pos (h ((n + 1 : Nat) : Int) (by omega) (Int.le_refl _))]

structure Ord (M : Mat) (out : List Int) : Prop where
  ran : ∀ h ∈ out, 1 ≤ h ∧ h ≤ M.length
  nd : out.Nodup
  cu : ∀ (i : Nat) (h : Int), out[i]? = some h → ∀ c, c < M.length → mAt M (h - 1).toNat c = 1 → ((c + 1 : Nat) : Int) ∈ out.take i
theorem ord_nil (M : Mat) : Ord M [] := ⟨fun h hh => (by cases hh), List.nodup_nil, fun i h hh => by simp at hh⟩
theorem nextH_spec {M : Mat} {out : List Int} {h : Nat} (hn : nextH M out = some h) : (1 ≤ h ∧ h ≤ M.length) ∧ canH M out h = true := by
  unfold nextH at hn
  refine ⟨?_, List.find?_some hn⟩
  obtain ⟨j, hj, rfl⟩ := List.mem_map.1 (List.mem_of_find?_eq_some hn)
  have := List.mem_range.1 hj
  omega
theorem nextH_no {M : Mat} {out : List Int} (hn : nextH M out = none) : ∀ k, 1 ≤ k → k ≤ M.length → canH M out k = false := fun k h1 h2 => by
  unfold nextH at hn
  have := List.find?_eq_none.1 hn k (List.mem_map.2 ⟨k - 1, List.mem_range.2 (by omega), by omega⟩)
  simpa using this
theorem ord_add {M : Mat} {out : List Int} {h : Nat} (ho : Ord M out) (h1 : 1 ≤ h ∧ h ≤ M.length) (hc : canH M out h = true) : Ord M (out ++ [(h : Int)]) := by
  simp only [canH, Bool.and_eq_true, Bool.not_eq_true', decide_eq_false_iff_not] at hc
  obtain ⟨hc1, hc2⟩ := hc
  rw [freeH_iff] at hc2
  refine ⟨fun x hx => ?_, ?_, fun i x hx c hcl hm => ?_⟩
  · rcases List.mem_append.1 hx with k | k
    · exact ho.ran x k
    · obtain rfl : x = (h : Int) := by simpa using k
      omega
  · rw [List.nodup_append]
    refine ⟨ho.nd, by simp, fun a ha b hb => ?_⟩
    obtain rfl : b = (h : Int) := by simpa using hb
    exact fun e => hc1 (e ▸ ha)
  · by_cases hi : i < out.length
    · rw [List.getElem?_append_left hi] at hx
      rw [List.take_append_of_le_length (by omega)]
      exact ho.cu i x hx c hcl hm
    · have hi2 : i = out.length := by
        have := (List.getElem?_eq_some_iff.1 hx).1
        simp at this; omega
      subst hi2
      rw [List.getElem?_append_right (Nat.le_refl _), Nat.sub_self] at hx
      obtain rfl : (h : Int) = x := by simpa using hx
      rw [List.take_append_of_le_length (Nat.le_refl _), List.take_length]
      rcases hc2 c hcl with q | q
      · exact (q (by have e : ((h : Int) - 1).toNat = h - 1 := by omega
                     rw [e] at hm; exact hm)).elim
      · exact q
theorem ord_step {M : Mat} {out : List Int} (ho : Ord M out) : Ord M (stepO M out) := by
  unfold stepO
  cases hn : nextH M out with
  | none => exact ho
  | some h => exact ord_add ho (nextH_spec hn).1 (nextH_spec hn).2
theorem ord_orderN {M : Mat} : ∀ (n : Nat) (out : List Int), Ord M out → Ord M (orderN M n out)
  | 0, _, h => h
  | n + 1, _, h => ord_orderN n _ (ord_step h)
theorem ord_orderM (M : Mat) : Ord M (orderM M) := ord_orderN _ _ (ord_nil M)
theorem orderM_le (M : Mat) : (orderM M).length ≤ M.length := nd_len (ord_orderM M).ran (ord_orderM M).nd
theorem orderN_stuck {M : Mat} {out : List Int} (h : nextH M out = none) : ∀ n, orderN M n out = out
  | 0 => rfl
  | n + 1 => by rw [orderN, show stepO M out = out by simp [stepO, h]]; exact orderN_stuck h n
theorem orderN_end {M : Mat} : ∀ (n : Nat) (out : List Int), (orderN M n out).length < out.length + n → nextH M (orderN M n out) = none
  | 0, out, h => by simp [orderN] at h
  | n + 1, out, h => by
    rw [orderN] at h ⊢
    cases hn : nextH M out with
    | none => rw [show stepO M out = out by simp [stepO, hn], orderN_stuck hn]; exact hn
    | some k =>
      have e : (stepO M out).length = out.length + 1 := by simp [stepO, hn]
      exact orderN_end n _ (by omega)
theorem orderM_stuck {M : Mat} (h : (orderM M).length < M.length) : nextH M (orderM M) = none := orderN_end _ _ (by rw [List.length_nil, Nat.zero_add]; exact h)
theorem orderM_all {M : Mat} (h : (orderM M).length = M.length) (x : Int) (h1 : 1 ≤ x) (h2 : x ≤ M.length) : x ∈ orderM M :=
  cntH_full M.length (by rw [cntH_len _ _ (ord_orderM M).ran (ord_orderM M).nd, h]) x h1 h2
/-- who stays out has a customer that stays out -/
theorem stuck_cust {M : Mat} (h : (orderM M).length < M.length) {k : Nat} (hk : k < M.length) (hn : ((k + 1 : Nat) : Int) ∉ orderM M) : ∃ c, c < M.length ∧ mAt M k c = 1 ∧ ((c + 1 : Nat) : Int) ∉ orderM M := by
  have hc := nextH_no (orderM_stuck h) (k + 1) (by omega) (by omega)
  simp only [canH, decide_eq_false hn, Bool.not_false, Bool.true_and] at hc
  rw [← Bool.not_eq_true, freeH_iff] at hc
  refine Classical.byContradiction fun q => hc fun c hcl => ?_
  by_cases h1 : mAt M (k + 1 - 1) c = 1
  · right
    refine Classical.byContradiction fun q2 => q ⟨c, hcl, by simpa using h1, q2⟩
  · exact .inl h1
theorem stuck_ex {M : Mat} (h : (orderM M).length < M.length) : ∃ k, k < M.length ∧ ((k + 1 : Nat) : Int) ∉ orderM M := by
  refine Classical.byContradiction fun q => ?_
  have : cntH (orderM M) M.length = M.length := cntH_all _ fun x h1 h2 => Classical.byContradiction fun hn => q ⟨(x - 1).toNat, by omega, by rwa [show (((x - 1).toNat + 1 : Nat) : Int) = x by omega]⟩
  rw [cntH_len _ _ (ord_orderM M).ran (ord_orderM M).nd] at this
  omega
/-- ranks: a customer's is less -/
def Rank (M : Mat) (f : Nat → Nat) : Prop := ∀ h c, h < M.length → c < M.length → mAt M h c = 1 → f c < f h
theorem order_of_rank {M : Mat} {f : Nat → Nat} (hr : Rank M f) : (orderM M).length = M.length := by
  refine Classical.byContradiction fun hne => ?_
  have hlt : (orderM M).length < M.length := by have := orderM_le M; omega
  have all : ∀ (m h : Nat), f h ≤ m → h < M.length → ((h + 1 : Nat) : Int) ∈ orderM M := by
    intro m
    induction m with
    | zero =>
      intro h hm hl
      refine Classical.byContradiction fun q => ?_
      obtain ⟨c, h1, h2, _⟩ := stuck_cust hlt hl q
      have := hr h c hl h1 h2
      omega
    | succ m ih =>
      intro h hm hl
      refine Classical.byContradiction fun q => ?_
      obtain ⟨c, h1, h2, h3⟩ := stuck_cust hlt hl q
      exact h3 (ih c (by have := hr h c hl h1 h2; omega) h1)
  obtain ⟨k, h1, h2⟩ := stuck_ex hlt
  exact h2 (all (f k) k (Nat.le_refl _) h1)
theorem nodup_at {L : List Int} (hn : L.Nodup) {i j : Nat} {x : Int} (hi : L[i]? = some x) (hj : L[j]? = some x) : i = j := by
  obtain ⟨h1, e1⟩ := List.getElem?_eq_some_iff.1 hi
  obtain ⟨h2, e2⟩ := List.getElem?_eq_some_iff.1 hj
  rcases Nat.lt_trichotomy i j with k | k | k
  · exact ((List.pairwise_iff_getElem.1 hn) i j h1 h2 k (e1.trans e2.symm)).elim
  · exact k
  · exact ((List.pairwise_iff_getElem.1 hn) j i h2 h1 k (e2.trans e1.symm)).elim
theorem rank_of_order {M : Mat} (h : (orderM M).length = M.length) : ∃ f, Rank M f := by
  have hp : ∀ k : Nat, ∃ i : Nat, k < M.length → (orderM M)[i]? = some ((k + 1 : Nat) : Int) := fun k => by
    by_cases hk : k < M.length
    · obtain ⟨i, hi⟩ := List.mem_iff_getElem?.1 (orderM_all h ((k + 1 : Nat) : Int) (by omega) (by omega))
      exact ⟨i, fun _ => hi⟩
    · exact ⟨0, fun q => (hk q).elim⟩
  refine ⟨fun k => Classical.choose (hp k), fun k c hk hc hm => ?_⟩
  have h1 := Classical.choose_spec (hp k) hk
  have h2 := Classical.choose_spec (hp c) hc
  have h3 := (ord_orderM M).cu _ _ h1 c hc (by rw [show (((k + 1 : Nat) : Int) - 1).toNat = k by omega]; exact hm)
  obtain ⟨j, hj⟩ := List.mem_iff_getElem?.1 h3
  have hjl : j < Classical.choose (hp k) := by
    have := (List.getElem?_eq_some_iff.1 hj).1
    rw [List.length_take] at this; omega
  rw [List.getElem?_take, if_pos hjl] at hj
  have := nodup_at (ord_orderM M).nd hj h2
  show Classical.choose (hp c) < Classical.choose (hp k)
  omega
theorem relsFree_iff (M : Mat) : relsFree M = true ↔ RelsGood M ∧ ∃ f, Rank M f := by
  simp only [relsFree, Bool.and_eq_true, decide_eq_true_eq, relsOk_iff]
  exact ⟨fun h => ⟨h.1, rank_of_order h.2⟩, fun h => ⟨h.1, by obtain ⟨f, hf⟩ := h.2; exact order_of_rank hf⟩⟩
/-- without the last house -/
def lessM (M : Mat) : Mat := (M.take (M.length - 1)).map (·.take (M.length - 1))
theorem lessM_len (M : Mat) : (lessM M).length = M.length - 1 := by simp [lessM]
theorem lessM_at {M : Mat} {i k : Nat} (hi : i < M.length - 1) (hk : k < M.length - 1) : mAt (lessM M) i k = mAt M i k := by
  have hiM : i < M.length := by omega
  simp only [mAt, lessM, List.getD, List.getElem?_map, List.getElem?_take, if_pos hi, List.getElem?_eq_getElem hiM, Option.map_some, Option.getD_some, if_pos hk]
theorem lessM_good {M : Mat} (h : RelsGood M) (h2 : 2 ≤ M.length) : RelsGood (lessM M) := by
  have hl := lessM_len M
  have hlen := h.len
  refine ⟨by omega, fun i hi => ?_, fun i k hi hk => ?_, fun i k hi hk => ?_, fun i hi => ?_⟩
  · rw [hl] at hi ⊢
    have hiM : i < M.length := by omega
    have hs := h.sq i hiM
    simp only [List.getD, List.getElem?_eq_getElem hiM, Option.getD_some] at hs
    simp only [lessM, List.getD, List.getElem?_map, List.getElem?_take, if_pos hi, List.getElem?_eq_getElem hiM, Option.map_some, Option.getD_some, List.length_take]
    omega
  · rw [hl] at hi hk; rw [lessM_at hi hk]; exact h.ran i k (by omega) (by omega)
  · rw [hl] at hi hk; rw [lessM_at hi hk, lessM_at hk hi]; exact h.back i k (by omega) (by omega)
  · rw [hl] at hi; rw [lessM_at hi hi]; exact h.diag i (by omega)
theorem lessM_free {M : Mat} (h : relsFree M = true) (h2 : 2 ≤ M.length) : relsFree (lessM M) = true := by
  rw [relsFree_iff] at h ⊢
  obtain ⟨hg, f, hf⟩ := h
  have hl := lessM_len M
  refine ⟨lessM_good hg h2, f, fun a c ha hc hm => ?_⟩
  rw [hl] at ha hc
  rw [lessM_at ha hc] at hm
  exact hf a c (by omega) (by omega) hm
/-- peers alone: by number -/
theorem orderN_peers {M : Mat} (h : ∀ i k, i < M.length → k < M.length → mAt M i k ≠ 1) : ∀ n : Nat, n ≤ M.length → orderN M n [] = (List.range n).map (fun (i : Nat) => ((i : Int) + 1))
  | 0, _ => rfl
  | n + 1, hn => by
    rw [orderN_step, orderN_peers h n (by omega)]
    have hx : nextH M ((List.range n).map (fun (i : Nat) => ((i : Int) + 1))) = some (n + 1) := by
      refine nextH_some (by omega) hn ?_ (fun k h1 h2 => ?_)
      · simp only [canH, Bool.and_eq_true, Bool.not_eq_true', decide_eq_false_iff_not, freeH_iff]
        refine ⟨fun hm => ?_, fun c hc => .inl (h _ c (by omega) hc)⟩
        obtain ⟨j, hj, e⟩ := List.mem_map.1 hm
        have := List.mem_range.1 hj
        omega
      · simp only [canH]
        rw [decide_eq_true (List.mem_map.2 ⟨k - 1, List.mem_range.2 (by omega), by omega⟩)]
        rfl
    simp only [stepO, hx, List.range_succ, List.map_append, List.map_cons, List.map_nil]
    rfl
end Go.Proofs.Ytnljcppefnaapaa
