/-
  Who is reached over customers, round by round; a ring if and only if there is no order (no program here).
-/
import Derived.Test.YtnljcppefnaapaaMathN
namespace Go.Proofs.Ytnljcppefnaapaa
set_option linter.unusedSimpArgs false
set_option linter.unusedVariables false

theorem cntH_mono {L L' : List Int} (h : ∀ x ∈ L, x ∈ L') : ∀ n : Nat, cntH L n ≤ cntH L' n
  | 0 => Nat.le_refl _
  | n + 1 => by
    have ih := cntH_mono h n
    simp only [cntH]
    by_cases hm : ((n + 1 : Nat) : Int) ∈ L
    · rw [if_pos hm, if_pos (h _ hm)]; omega
    · rw [if_neg hm]; omega
def visitR (f : Int → Int → Int) (u c : Int) (s : List Int × List Int) : List Int × List Int := if f u c = 1 ∧ c ∉ s.1 then (s.1 ++ [c], s.2 ++ [c]) else s
def rowR (f : Int → Int → Int) (u : Int) : Nat → List Int × List Int → List Int × List Int
  | 0, s => s
  | C + 1, s => visitR f u ((C : Int) + 1) (rowR f u C s)
def atR (f : Int → Int → Int) (n : Nat) (A : List Int) (s : List Int × List Int) : List Int × List Int := A.foldl (fun s u => rowR f u n s) s
def roundR (f : Int → Int → Int) (n : Nat) (s : List Int × List Int) : List Int × List Int := atR f n s.2 (s.1, [])
def roundsR (f : Int → Int → Int) (n : Nat) : Nat → List Int × List Int → List Int × List Int
  | 0, s => s
  | r + 1, s => roundR f n (roundsR f n r s)
def seenR (f : Int → Int → Int) (n : Nat) (h : Int) : List Int := (roundsR f n n ([], [h])).1
theorem atR_snoc (f : Int → Int → Int) (n : Nat) (A : List Int) (u : Int) (s : List Int × List Int) : atR f n (A ++ [u]) s = rowR f u n (atR f n A s) := by simp [atR, List.foldl_append]
inductive ReachR (f : Int → Int → Int) : Int → Int → Prop
  | one {u c : Int} : f u c = 1 → ReachR f u c
  | more {u c d : Int} : ReachR f u c → f c d = 1 → ReachR f u d
section
variable {f : Int → Int → Int} {n : Nat}
/-- one step keeps: what was seen, and what is new; all new ones are reached from u -/
structure StR (f : Int → Int → Int) (n : Nat) (S0 : List Int) (Fr : Int → Prop) (s : List Int × List Int) : Prop where
  eq : s.1 = S0 ++ s.2
  nd : s.1.Nodup
  ran : ∀ x ∈ s.1, 1 ≤ x ∧ x ≤ n
  src : ∀ x ∈ s.2, ∃ u, Fr u ∧ f u x = 1
theorem visit_st {S0 : List Int} {Fr : Int → Prop} {s : List Int × List Int} {u c : Int} (h : StR f n S0 Fr s) (hu : Fr u) (hc : 1 ≤ c ∧ c ≤ n) : StR f n S0 Fr (visitR f u c s) := by
  unfold visitR
  split
  · rename_i k
    refine ⟨by rw [h.eq, List.append_assoc], ?_, fun x hx => ?_, fun x hx => ?_⟩
    · rw [List.nodup_append]
      refine ⟨h.nd, by simp, fun a ha b hb => ?_⟩
      obtain rfl : b = c := by simpa using hb
      exact fun e => k.2 (e ▸ ha)
    · rcases List.mem_append.1 hx with q | q
      · exact h.ran x q
      · obtain rfl : x = c := by simpa using q
        exact hc
    · rcases List.mem_append.1 hx with q | q
      · exact h.src x q
      · obtain rfl : x = c := by simpa using q
        exact ⟨u, hu, k.1⟩
  · exact h
theorem row_st {S0 : List Int} {Fr : Int → Prop} {s : List Int × List Int} {u : Int} (h : StR f n S0 Fr s) (hu : Fr u) : ∀ C : Nat, C ≤ n → StR f n S0 Fr (rowR f u C s)
  | 0, _ => h
  | C + 1, hC => visit_st (row_st h hu C (by omega)) hu (by omega)
theorem visit_sub {s : List Int × List Int} {u c : Int} : ∀ x ∈ s.1, x ∈ (visitR f u c s).1 := fun x hx => by
  unfold visitR; split
  · exact List.mem_append_left _ hx
  · exact hx
theorem row_sub {s : List Int × List Int} {u : Int} : ∀ (C : Nat) (x : Int), x ∈ s.1 → x ∈ (rowR f u C s).1
  | 0, _, h => h
  | C + 1, x, h => visit_sub x (row_sub C x h)
theorem visit_has {s : List Int × List Int} {u c : Int} (h : f u c = 1) : c ∈ (visitR f u c s).1 := by
  unfold visitR; split
  · simp
  · rename_i k
    exact Classical.byContradiction fun q => k ⟨h, q⟩
theorem row_has {s : List Int × List Int} {u : Int} : ∀ (C : Nat) (c : Int), 1 ≤ c → c ≤ C → f u c = 1 → c ∈ (rowR f u C s).1
  | 0, c, h1, h2, _ => by omega
  | C + 1, c, h1, h2, h => by
    by_cases e : c = (C : Int) + 1
    · rw [rowR, ← e]; exact visit_has h
    · exact visit_sub c (row_has C c h1 (by omega) h)
theorem at_st {S0 : List Int} {Fr : Int → Prop} : ∀ (A : List Int) (s : List Int × List Int), StR f n S0 Fr s → (∀ u ∈ A, Fr u) → StR f n S0 Fr (atR f n A s)
  | [], _, h, _ => h
  | u :: A, s, h, hA => at_st A _ (row_st h (hA u (by simp)) n (Nat.le_refl _)) (fun x hx => hA x (by simp [hx]))
theorem at_sub : ∀ (A : List Int) (s : List Int × List Int) (x : Int), x ∈ s.1 → x ∈ (atR f n A s).1
  | [], _, _, h => h
  | u :: A, s, x, h => at_sub A _ x (row_sub n x h)
theorem at_has : ∀ (A : List Int) (s : List Int × List Int) (u c : Int), u ∈ A → 1 ≤ c → c ≤ n → f u c = 1 → c ∈ (atR f n A s).1
  | v :: A, s, u, c, hu, h1, h2, h => by
    rcases List.mem_cons.1 hu with rfl | q
    · exact at_sub A _ c (row_has n c h1 h2 h)
    · exact at_has A _ u c q h1 h2 h
/-- round by round -/
structure InR (f : Int → Int → Int) (n : Nat) (h : Int) (s : List Int × List Int) : Prop where
  nd : s.1.Nodup
  ran : ∀ x ∈ s.1, 1 ≤ x ∧ x ≤ n
  rch : ∀ x ∈ s.1, ReachR f h x
  at0 : ∀ x ∈ s.2, x = h ∨ x ∈ s.1
  don : ∀ u, (u = h ∨ u ∈ s.1) → u ∈ s.2 ∨ ∀ c : Int, 1 ≤ c → c ≤ n → f u c = 1 → c ∈ s.1
theorem in_start (h : Int) : InR f n h ([], [h]) := ⟨List.nodup_nil, fun x hx => (by cases hx), fun x hx => (by cases hx), fun x hx => .inl (by simpa using hx), fun u hu => (by
  rcases hu with rfl | q
  · exact .inl (by simp)
  · cases q)⟩
theorem in_round {h : Int} {s : List Int × List Int} (I : InR f n h s) : InR f n h (roundR f n s) ∧ (s.2 = [] → (roundR f n s).2 = []) ∧ (roundR f n s).1.length = s.1.length + (roundR f n s).2.length := by
  have st := at_st (f := f) (n := n) (S0 := s.1) (Fr := fun u => u ∈ s.2) s.2 (s.1, []) ⟨by simp, I.nd, I.ran, fun x hx => (by cases hx)⟩ (fun u hu => hu)
  have sub := at_sub (f := f) (n := n) s.2 (s.1, [])
  have has := at_has (f := f) (n := n) s.2 (s.1, [])
  change StR f n s.1 _ (roundR f n s) at st
  change ∀ x : Int, x ∈ s.1 → x ∈ (roundR f n s).1 at sub
  change ∀ u c : Int, u ∈ s.2 → 1 ≤ c → c ≤ n → f u c = 1 → c ∈ (roundR f n s).1 at has
  refine ⟨⟨st.nd, st.ran, fun x hx => ?_, fun x hx => .inr (by rw [st.eq]; exact List.mem_append_right _ hx), fun u hu => ?_⟩, fun e => by simp [roundR, e, atR], by rw [st.eq, List.length_append]⟩
  · rw [st.eq] at hx
    rcases List.mem_append.1 hx with q | q
    · exact I.rch x q
    · obtain ⟨u, hu, hf⟩ := st.src x q
      rcases I.at0 u hu with rfl | k
      · exact .one hf
      · exact .more (I.rch u k) hf
  · have old : (u = h ∨ u ∈ s.1) → u ∈ (roundR f n s).2 ∨ ∀ c : Int, 1 ≤ c → c ≤ n → f u c = 1 → c ∈ (roundR f n s).1 := fun k => by
      rcases I.don u k with q | q
      · exact .inr (fun c h1 h2 hf => has u c q h1 h2 hf)
      · exact .inr (fun c h1 h2 hf => sub c (q c h1 h2 hf))
    rcases hu with rfl | q
    · exact old (.inl rfl)
    · rw [st.eq] at q
      rcases List.mem_append.1 q with k | k
      · exact old (.inr k)
      · exact .inl k
theorem in_rounds (h : Int) : ∀ r : Nat, InR f n h (roundsR f n r ([], [h])) ∧ ((roundsR f n r ([], [h])).2 = [] ∨ r ≤ (roundsR f n r ([], [h])).1.length)
  | 0 => ⟨in_start h, .inr (Nat.zero_le _)⟩
  | r + 1 => by
    obtain ⟨I, k⟩ := in_rounds h r
    obtain ⟨I2, e, l⟩ := in_round I
    refine ⟨I2, ?_⟩
    rcases k with k | k
    · exact .inl (e k)
    · by_cases q : (roundR f n (roundsR f n r ([], [h]))).2 = []
      · exact .inl q
      · refine .inr ?_
        have : 0 < (roundR f n (roundsR f n r ([], [h]))).2.length := by
          cases hq : (roundR f n (roundsR f n r ([], [h]))).2 with
          | nil => exact (q hq).elim
          | cons a b => simp
        show r + 1 ≤ (roundR f n (roundsR f n r ([], [h]))).1.length
        omega
theorem seen_ran (h x : Int) (hx : x ∈ seenR f n h) : 1 ≤ x ∧ x ≤ n := (in_rounds h n).1.ran x hx
theorem seen_nd (h : Int) : (seenR f n h).Nodup := (in_rounds h n).1.nd
theorem seen_rch (h x : Int) (hx : x ∈ seenR f n h) : ReachR f h x := (in_rounds h n).1.rch x hx
theorem seen_all (h : Int) (h1 : 1 ≤ h) (h2 : h ≤ n) (hn : h ∉ seenR f n h) : ∀ u, (u = h ∨ u ∈ seenR f n h) → ∀ c : Int, 1 ≤ c → c ≤ n → f u c = 1 → c ∈ seenR f n h := by
  obtain ⟨I, k⟩ := in_rounds (f := f) (n := n) h n
  have he : (roundsR f n n ([], [h])).2 = [] := by
    rcases k with k | k
    · exact k
    · exfalso
      have hle := nd_len I.ran I.nd
      have hlen : (roundsR f n n ([], [h])).1.length = n := by omega
      have hc : cntH (roundsR f n n ([], [h])).1 n = n := by rw [cntH_len n _ I.ran I.nd, hlen]
      exact hn (cntH_full n hc h h1 h2)
  intro u hu
  rcases I.don u hu with q | q
  · rw [he] at q; cases q
  · exact q
end
/-- the function of a matrix -/
def relF (M : Mat) (x y : Int) : Int := relOf M x y
theorem relF_in {M : Mat} {x y : Int} (h : relF M x y = 1) : (1 ≤ x ∧ x ≤ M.length) ∧ (1 ≤ y ∧ y ≤ M.length) := by
  unfold relF relOf at h
  split at h
  · rename_i k; exact k.2
  · cases h
theorem relF_at {M : Mat} (ho : relsOk M = true) {i k : Nat} (hi : i < M.length) (hk : k < M.length) : relF M ((i : Int) + 1) ((k : Int) + 1) = mAt M i k := by
  unfold relF relOf
  rw [if_pos ⟨ho, by omega, by omega⟩, show ((i : Int) + 1 - 1).toNat = i by omega, show ((k : Int) + 1 - 1).toNat = k by omega]
theorem reach_rank {M : Mat} (ho : relsOk M = true) {g : Nat → Nat} (hr : Rank M g) {x y : Int} (h : ReachR (relF M) x y) : g (y - 1).toNat < g (x - 1).toNat := by
  have one : ∀ {x y : Int}, relF M x y = 1 → g (y - 1).toNat < g (x - 1).toNat := fun {x y} h => by
    obtain ⟨hx, hy⟩ := relF_in h
    have h2 := relF_at ho (i := (x - 1).toNat) (k := (y - 1).toNat) (by omega) (by omega)
    rw [show (((x - 1).toNat : Nat) : Int) + 1 = x by omega, show (((y - 1).toNat : Nat) : Int) + 1 = y by omega, h] at h2
    exact hr _ _ (by omega) (by omega) h2.symm
  induction h with
  | one h => exact one h
  | more _ h ih => exact Nat.lt_trans (one h) ih
theorem reach_sub {f : Int → Int → Int} {n : Nat} {C : List Int} (hC : ∀ u ∈ C, ∀ c : Int, 1 ≤ c → c ≤ n → f u c = 1 → c ∈ C) (hf : ∀ u c, f u c = 1 → 1 ≤ c ∧ c ≤ n) {x y : Int} (hx : x ∈ C) (h : ReachR f x y) : y ∈ C := by
  induction h with
  | one h => exact hC _ hx _ (hf _ _ h).1 (hf _ _ h).2 h
  | more _ h ih => exact hC _ ih _ (hf _ _ h).1 (hf _ _ h).2 h
/-- there is an order if and only if nobody is reached from himself -/
theorem free_iff_seen {M : Mat} (ho : relsOk M = true) : relsFree M = true ↔ ∀ h : Int, 1 ≤ h → h ≤ M.length → h ∉ seenR (relF M) M.length h := by
  rw [relsFree_iff]
  constructor
  · rintro ⟨_, g, hg⟩ h h1 h2 hm
    exact Nat.lt_irrefl _ (reach_rank ho hg (seen_rch h h hm))
  · intro hno
    refine ⟨(relsOk_iff _).1 ho, fun i => (seenR (relF M) M.length ((i : Int) + 1)).length, fun h c hh hc hm => ?_⟩
    have e := (relF_at ho hh hc).trans hm
    have all := seen_all (f := relF M) (n := M.length) ((h : Int) + 1) (by omega) (by omega) (hno _ (by omega) (by omega))
    have hcin : ((c : Int) + 1) ∈ seenR (relF M) M.length ((h : Int) + 1) := all _ (.inl rfl) _ (by omega) (by omega) e
    have hcn : ((c : Int) + 1) ∉ seenR (relF M) M.length ((c : Int) + 1) := hno _ (by omega) (by omega)
    have sub : ∀ x ∈ seenR (relF M) M.length ((c : Int) + 1), x ∈ seenR (relF M) M.length ((h : Int) + 1) := fun x hx =>
      reach_sub (n := M.length) (fun u hu => all u (.inr hu)) (fun u c h => (relF_in h).2) hcin (seen_rch _ _ hx)
    have hnd : (((c : Int) + 1) :: seenR (relF M) M.length ((c : Int) + 1)).Nodup := List.nodup_cons.2 ⟨hcn, seen_nd _⟩
    have hsub : ∀ x ∈ ((c : Int) + 1) :: seenR (relF M) M.length ((c : Int) + 1), x ∈ seenR (relF M) M.length ((h : Int) + 1) := fun x hx => by
      rcases List.mem_cons.1 hx with rfl | q
      · exact hcin
      · exact sub x q
    have this := cntH_mono hsub M.length
    rw [cntH_len M.length _ (fun x hx => seen_ran _ x (hsub x hx)) hnd, cntH_len M.length _ (fun x hx => seen_ran _ x hx) (seen_nd _)] at this
    rw [List.length_cons] at this
    exact this
end Go.Proofs.Ytnljcppefnaapaa
