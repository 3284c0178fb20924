/-
  Clauses and policies: which are valid, what they make of routes (no program here).
-/
import Derived.Test.YthkaaamgkmmeeaaDoorMathR
namespace Go.Proofs.YthkaaamgkmmeeaaDoor

/-- a clause: kind, number, first address, bits, does it refuse, like, mark, clear -/
structure CL where
  i : Int
  n : Int
  f : Int
  b : Int
  x : Bool
  l : Int
  m : Int
  k : Int
deriving DecidableEq
def zCL : CL := ⟨0, 0, 0, 0, false, 0, 0, 0⟩
instance : Inhabited CL := ⟨zCL⟩
def noR (f b : Int) : Bool := decide (f = 0) && decide (b = 0)
theorem noR_iff (f b : Int) : noR f b = true ↔ f = 0 ∧ b = 0 := by simp [noR]
/-- what its condition says -/
def condOk (c : CL) : Bool :=
  if c.i = 1 then noR c.f c.b && decide (c.n = 0)
  else if c.i = 2 then okB c.f c.b && decide (c.n = 0)
  else if c.i = 3 then noR c.f c.b && isM c.n
  else if c.i = 4 then noR c.f c.b && isH c.n
  else if c.i = 5 then noR c.f c.b && isH c.n
  else false
def isM0 (m : Int) : Bool := decide (0 ≤ m ∧ m ≤ 9)
theorem isM0_iff (m : Int) : isM0 m = true ↔ 0 ≤ m ∧ m ≤ 9 := by simp [isM0]
def doOk (c : CL) : Bool := decide (-1 ≤ c.l ∧ c.l ≤ 9) && isM0 c.m && isM0 c.k
def clOk (c : CL) : Bool := condOk c && doOk c
structure ClGood (c : CL) : Prop where
  kind : c.i = 1 ∨ c.i = 2 ∨ c.i = 3 ∨ c.i = 4 ∨ c.i = 5
  range : c.i ≠ 2 → c.f = 0 ∧ c.b = 0
  num : c.i = 2 → c.n = 0
  ran2 : c.i = 2 → okB c.f c.b = true
  like : -1 ≤ c.l ∧ c.l ≤ 9
  mark : 0 ≤ c.m ∧ c.m ≤ 9
  clear : 0 ≤ c.k ∧ c.k ≤ 9
theorem clOk_good {c : CL} (h : clOk c = true) : ClGood c := by
  simp only [clOk, doOk, Bool.and_eq_true, decide_eq_true_eq, isM0_iff] at h
  obtain ⟨h1, ⟨h2, h3⟩, h4⟩ := h
  unfold condOk at h1
  refine ⟨?_, ?_, ?_, ?_, h2, h3, h4⟩
  all_goals (repeat' split at h1)
  all_goals first | (simp at h1; done) | (simp only [Bool.and_eq_true, noR_iff, decide_eq_true_eq] at h1; first | omega | (intro h; omega) | (intro _; exact h1.1))

/-- does a route fit -/
def fitsC (c : CL) (r : Rt) : Bool :=
  if c.i = 2 then inB r.1 r.2.1 c.f c.b
  else if c.i = 3 then decide (c.n ∈ r.2.2.2.2)
  else if c.i = 4 then decide (c.n ∈ r.2.2.1)
  else if c.i = 5 then decide ((r.2.2.1.length : Int) ≤ c.n)
  else true
def clFits (c : CL) (r : Rt) : Bool := clOk c && rtOk r && fitsC c r
def polOk (p : List CL) : Bool := decide (p.length ≤ 5) && p.all clOk
theorem polOk_iff (p : List CL) : polOk p = true ↔ p.length ≤ 5 ∧ ∀ c ∈ p, clOk c = true := by simp [polOk]
theorem polOk_len {p : List CL} (h : ¬ p.length ≤ 5) : polOk p = false := by simp [polOk, h]
theorem polOk_bad {p : List CL} {c : CL} (h : c ∈ p) (hc : clOk c = false) : polOk p = false := by
  rw [← Bool.not_eq_true, polOk_iff]; intro k; have := k.2 c h; rw [hc] at this; cases this

/-- what a clause makes of a route that fits -/
def likeC (c : CL) (l : Int) : Int := if c.l = -1 then l else c.l
def markC (c : CL) (M : List Int) : List Int := if c.m = 0 then M else mins M c.m
def clearC (c : CL) (M : List Int) : List Int := if c.k = 0 then M else mdel M c.k
def makeC (c : CL) (r : Rt) : Rt := (r.1, r.2.1, r.2.2.1, likeC c r.2.2.2.1, clearC c (markC c r.2.2.2.2))
def applyC (c : CL) (r : Rt) : Rt × Bool := if c.x then (zRt, false) else (makeC c r, true)
/-- the first clause that fits counts -/
def firstC : List CL → Rt → Rt × Bool
  | [], _ => (zRt, false)
  | c :: p, r => if fitsC c r then applyC c r else firstC p r
def polDo (p : List CL) (r : Rt) : Rt × Bool := if polOk p && rtOk r then firstC p r else (zRt, false)
theorem polDo_no1 {p : List CL} {r : Rt} (h : polOk p = false) : polDo p r = (zRt, false) := by simp [polDo, h]
theorem polDo_no2 {p : List CL} {r : Rt} (h : rtOk r = false) : polDo p r = (zRt, false) := by simp [polDo, h]
theorem polDo_yes {p : List CL} {r : Rt} (h : polOk p = true) (h2 : rtOk r = true) : polDo p r = firstC p r := by simp [polDo, h, h2]
theorem firstC_hit {p : List CL} {k : Nat} {c : CL} {r : Rt} (hk : p[k]? = some c) (hf : fitsC c r = true) (h : ∀ j d, j < k → p[j]? = some d → fitsC d r = false) : firstC p r = applyC c r := by
  induction p generalizing k with
  | nil => simp at hk
  | cons d p ih =>
    cases k with
    | zero => simp at hk; subst hk; simp [firstC, hf]
    | succ k =>
      have hd := h 0 d (by omega) rfl
      rw [firstC, if_neg (by simp [hd])]
      exact ih (by simpa using hk) (fun j e hj he => h (j + 1) e (by omega) (by simpa using he))
theorem firstC_miss {p : List CL} {r : Rt} (h : ∀ (j : Nat) d, p[j]? = some d → fitsC d r = false) : firstC p r = (zRt, false) := by
  induction p with
  | nil => rfl
  | cons d p ih =>
    rw [firstC, if_neg (by simp [h 0 d rfl])]
    exact ih (fun j e he => h (j + 1) e (by simpa using he))
theorem firstC_is {p : List CL} {r : Rt} : (firstC p r = (zRt, false)) ∨ ∃ c ∈ p, fitsC c r = true ∧ firstC p r = (makeC c r, true) := by
  induction p with
  | nil => exact .inl rfl
  | cons d p ih =>
    rw [firstC]
    by_cases h : fitsC d r = true
    · rw [if_pos h]
      unfold applyC
      by_cases hx : d.x
      · left; simp [hx]
      · right; exact ⟨d, by simp, h, by simp [hx]⟩
    · rw [if_neg h]
      rcases ih with k | ⟨c, h1, h2, h3⟩
      · exact .inl k
      · exact .inr ⟨c, by simp [h1], h2, h3⟩
theorem makeC_good {c : CL} {r : Rt} (hc : ClGood c) (hr : RtGood r) : RtGood (makeC c r) := by
  have hM : Marks (markC c r.2.2.2.2) := by
    unfold markC
    split
    · exact hr.marks
    · exact hr.marks.mins (by have := hc.mark; omega)
  have hK : Marks (clearC c (markC c r.2.2.2.2)) := by
    unfold clearC
    split
    · exact hM
    · exact hM.mdel
  refine ⟨hr.ran, hr.path, hr.some, ?_, hK⟩
  show 0 ≤ likeC c r.2.2.2.1 ∧ likeC c r.2.2.2.1 ≤ 9
  unfold likeC
  have h1 := hc.like
  have h2 := hr.like
  split <;> omega
theorem polDo_len (p : List CL) (r : Rt) : (polDo p r).1.2.2.1.length ≤ 5 ∧ (polDo p r).1.2.2.2.2.length ≤ 10 := by
  unfold polDo
  split
  · rename_i h
    simp only [Bool.and_eq_true] at h
    have hp := (polOk_iff p).1 h.1
    have hr := (rtOk_iff r).1 h.2
    rcases firstC_is (p := p) (r := r) with e | ⟨c, h1, h2, e⟩
    · rw [e]; simp [zRt]
    · rw [e]
      have hg := makeC_good (clOk_good (hp.2 c h1)) hr
      exact ⟨hg.path.len, Nat.le_trans hg.marks.len (by omega)⟩
  · simp [zRt]
/-- routes are taken one by one -/
def takeC (p : List CL) (l : List Rt) : List Rt := l.filterMap fun r => if (firstC p r).2 then some (firstC p r).1 else none
def polAll (p : List CL) (l : List Rt) : List Rt := if polOk p && l.all rtOk then takeC p l else []
theorem polAll_no1 {p : List CL} {l : List Rt} (h : polOk p = false) : polAll p l = [] := by simp [polAll, h]
theorem polAll_no2 {p : List CL} {l : List Rt} {r : Rt} (h : r ∈ l) (hr : rtOk r = false) : polAll p l = [] := by
  have : l.all rtOk = false := by
    rw [← Bool.not_eq_true, List.all_eq_true]; intro k; have := k r h; rw [hr] at this; cases this
  simp [polAll, this]
theorem polAll_yes {p : List CL} {l : List Rt} (h : polOk p = true) (hl : ∀ r ∈ l, rtOk r = true) : polAll p l = takeC p l := by
  have : l.all rtOk = true := List.all_eq_true.2 hl
  simp [polAll, h, this]
theorem takeC_snoc (p : List CL) (l : List Rt) (r : Rt) : takeC p (l ++ [r]) = takeC p l ++ (if (firstC p r).2 then [(firstC p r).1] else []) := by
  unfold takeC
  rw [List.filterMap_append]
  congr 1
  by_cases h : (firstC p r).2 = true
  · simp [h]
  · simp [h]
theorem takeC_len (p : List CL) (l : List Rt) : (takeC p l).length ≤ l.length := List.length_filterMap_le _ _
theorem takeC_good {p : List CL} {l : List Rt} (hp : polOk p = true) (hl : ∀ r ∈ l, rtOk r = true) : ∀ x ∈ takeC p l, RtGood x := fun x hx => by
  obtain ⟨r, hr, he⟩ := List.mem_filterMap.1 hx
  rcases firstC_is (p := p) (r := r) with e | ⟨c, h1, h2, e⟩
  · rw [e] at he; simp at he
  · rw [e] at he
    simp at he
    subst he
    exact makeC_good (clOk_good (((polOk_iff p).1 hp).2 c h1)) ((rtOk_iff r).1 (hl r hr))
theorem polAll_good (p : List CL) (l : List Rt) : ∀ x ∈ polAll p l, RtGood x := by
  unfold polAll
  split
  · rename_i h
    simp only [Bool.and_eq_true, List.all_eq_true] at h
    exact takeC_good h.1 h.2
  · intro x hx; cases hx
theorem polAll_len (p : List CL) (l : List Rt) : (polAll p l).length ≤ l.length := by
  unfold polAll
  split
  · exact takeC_len p l
  · simp
/-- what a policy of likes makes is made again -/
theorem clearC_self {c : CL} {M : List Int} (h : Marks M) (hc : ClGood c) : clearC c (markC c (clearC c (markC c M))) = clearC c (markC c M) := by
  have hM : Marks (markC c M) := by
    unfold markC
    split
    · exact h
    · exact h.mins (by have := hc.mark; omega)
  have hK : Marks (clearC c (markC c M)) := by
    unfold clearC
    split
    · exact hM
    · exact hM.mdel
  by_cases hm : c.m = 0
  · by_cases hk : c.k = 0
    · simp [clearC, markC, hm, hk]
    · simp only [clearC, markC, hm, hk, if_true, if_false]
      exact mdel_none (fun e => (mem_mdel.1 e).1 rfl)
  · by_cases hk : c.k = 0
    · simp only [clearC, markC, hm, hk, if_true, if_false]
      exact mins_there (h.mins (by have := hc.mark; omega)).2 (mem_mins.2 (.inl rfl))
    · simp only [clearC, markC, hm, hk, if_false] at hK ⊢
      refine asc_ext (hK.mins (by have := hc.mark; omega)).mdel.2 hK.2 (fun x => ?_)
      simp only [mem_mdel, mem_mins]
      constructor
      · rintro ⟨h1, h2⟩
        refine ⟨h1, ?_⟩
        rcases h2 with h2 | h2
        · exact .inl h2
        · exact h2.2
      · rintro ⟨h1, h2⟩
        exact ⟨h1, .inr ⟨h1, h2⟩⟩
theorem makeC_self {c : CL} {r : Rt} (hr : RtGood r) (hc : ClGood c) : makeC c (makeC c r) = makeC c r := by
  unfold makeC
  dsimp only
  rw [clearC_self hr.marks hc]
  unfold likeC
  split <;> simp_all
theorem fitsC_make {c d : CL} {r : Rt} (h : d.i ≠ 3) : fitsC d (makeC c r) = fitsC d r := by
  unfold fitsC makeC
  simp [h]
theorem firstC_pick {p : List CL} {r : Rt} {u : Rt} (hf : firstC p r = (u, true)) : ∃ d ∈ p, u = makeC d r ∧ d.x = false ∧ ∀ r', (∀ e ∈ p, fitsC e r' = fitsC e r) → firstC p r' = applyC d r' := by
  induction p with
  | nil => simp [firstC] at hf
  | cons d p ih =>
    rw [firstC] at hf
    by_cases h : fitsC d r = true
    · rw [if_pos h] at hf
      unfold applyC at hf
      by_cases hx : d.x = true
      · simp [hx] at hf
      · simp [hx] at hf
        exact ⟨d, by simp, hf.symm, by simpa using hx, fun r' hr' => by rw [firstC, if_pos (by rw [hr' d (by simp)]; exact h)]⟩
    · rw [if_neg h] at hf
      obtain ⟨e, h1, h2, h3, h4⟩ := ih hf
      exact ⟨e, by simp [h1], h2, h3, fun r' hr' => by
        rw [firstC, if_neg (by rw [hr' d (by simp)]; exact h)]
        exact h4 r' (fun q hq => hr' q (by simp [hq]))⟩
theorem polDo_twice {p : List CL} {r u : Rt} (hp : polOk p = true) (hr : rtOk r = true) (h : polDo p r = (u, true)) (hn : ∀ d ∈ p, d.i ≠ 3) : polDo p u = (u, true) := by
  rw [polDo_yes hp hr] at h
  have hg : ∀ d ∈ p, ClGood d := fun d hd => clOk_good (((polOk_iff p).1 hp).2 d hd)
  obtain ⟨d, h1, rfl, h3, h4⟩ := firstC_pick h
  have hR := (rtOk_iff r).1 hr
  rw [polDo_yes hp ((rtOk_iff _).2 (makeC_good (hg d h1) hR)), h4 _ (fun e he => fitsC_make (hn e he)), applyC, h3, makeC_self hR (hg d h1)]
  rfl
theorem polDo_good {p : List CL} {r u : Rt} (h : polDo p r = (u, true)) : u.1 = r.1 ∧ u.2.1 = r.2.1 ∧ u.2.2.1 = r.2.2.1 ∧ rtOk u = true := by
  unfold polDo at h
  split at h
  · rename_i hh
    simp only [Bool.and_eq_true] at hh
    obtain ⟨d, h1, rfl, h3, h4⟩ := firstC_pick h
    exact ⟨rfl, rfl, rfl, (rtOk_iff _).2 (makeC_good (clOk_good (((polOk_iff p).1 hh.1).2 d h1)) ((rtOk_iff r).1 hh.2))⟩
  · simp at h
theorem firstC_app {p q : List CL} {r : Rt} (h : ∀ (j : Nat) d, p[j]? = some d → fitsC d r = false) : firstC (p ++ q) r = firstC q r := by
  induction p with
  | nil => rfl
  | cons d p ih =>
    rw [List.cons_append, firstC, if_neg (by simp [h 0 d rfl])]
    exact ih (fun j e he => h (j + 1) e (by simpa using he))
theorem firstC_left {p q : List CL} {k : Nat} {c : CL} {r : Rt} (hk : p[k]? = some c) (hf : fitsC c r = true) : firstC (p ++ q) r = firstC p r := by
  induction p generalizing k with
  | nil => simp at hk
  | cons d p ih =>
    rw [List.cons_append, firstC, firstC]
    by_cases h : fitsC d r = true
    · rw [if_pos h, if_pos h]
    · rw [if_neg h, if_neg h]
      cases k with
      | zero => simp at hk; subst hk; exact (h hf).elim
      | succ k => exact ih (by simpa using hk)
end Go.Proofs.YthkaaamgkmmeeaaDoor
