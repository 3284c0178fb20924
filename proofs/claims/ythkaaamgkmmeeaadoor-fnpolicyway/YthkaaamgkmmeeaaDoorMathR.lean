/-
  Routes: which are valid, marks, which is better, the best of some (no program here).
-/
import Derived.Test.YthkaaamgkmmeeaaDoorMath
import Derived.Test.YthkaaamgkmmeeaaDoorMathP
namespace Go.Proofs.YthkaaamgkmmeeaaDoor

/-- a route: first address, bits, path, like, marks -/
abbrev Rt := Int × Int × List Int × Int × List Int
def Marks (M : List Int) : Prop := (∀ m ∈ M, 1 ≤ m ∧ m ≤ 9) ∧ M.Pairwise (· < ·)
instance (M : List Int) : Decidable (Marks M) := inferInstanceAs (Decidable (_ ∧ _))
def mkOk (M : List Int) : Bool := decide (Marks M)
theorem mkOk_iff (M : List Int) : mkOk M = true ↔ Marks M := by simp [mkOk]
theorem mkOk_no {M : List Int} (h : ¬ Marks M) : mkOk M = false := by simp [mkOk, h]
theorem asc_len : ∀ (M : List Int) (lo : Int), (∀ m ∈ M, lo ≤ m ∧ m ≤ 9) → M.Pairwise (· < ·) → M.length ≤ (10 - lo).toNat
  | [], _, _, _ => by simp
  | x :: M, lo, h, hp => by
    obtain ⟨h1, h2⟩ := List.pairwise_cons.1 hp
    have hx := h x (by simp)
    have := asc_len M (x + 1) (fun m hm => ⟨by have := h1 m hm; omega, (h m (by simp [hm])).2⟩) h2
    simp only [List.length_cons]; omega
theorem Marks.len {M : List Int} (h : Marks M) : M.length ≤ 9 := by have := asc_len M 1 h.1 h.2; simpa using this
theorem Marks.nil : Marks [] := ⟨fun _ h => (by cases h), List.Pairwise.nil⟩
def isM (m : Int) : Bool := decide (1 ≤ m ∧ m ≤ 9)
theorem isM_iff (m : Int) : isM m = true ↔ 1 ≤ m ∧ m ≤ 9 := by simp [isM]
theorem isM_no {m : Int} (k : isM m = false) : ¬ (1 ≤ m ∧ m ≤ 9) := by simpa [isM] using k

def rtOk (r : Rt) : Bool := okB r.1 r.2.1 && pOk r.2.2.1 && decide (r.2.2.1 ≠ []) && decide (0 ≤ r.2.2.2.1 ∧ r.2.2.2.1 ≤ 9) && mkOk r.2.2.2.2
structure RtGood (r : Rt) : Prop where
  ran : okB r.1 r.2.1 = true
  path : Path r.2.2.1
  some : r.2.2.1 ≠ []
  like : 0 ≤ r.2.2.2.1 ∧ r.2.2.2.1 ≤ 9
  marks : Marks r.2.2.2.2
theorem rtOk_iff (r : Rt) : rtOk r = true ↔ RtGood r := by
  unfold rtOk
  simp only [Bool.and_eq_true, pOk_iff, decide_eq_true_eq, mkOk_iff]
  exact ⟨fun ⟨⟨⟨⟨a, b⟩, c⟩, d⟩, e⟩ => ⟨a, b, c, d, e⟩, fun ⟨a, b, c, d, e⟩ => ⟨⟨⟨⟨a, b⟩, c⟩, d⟩, e⟩⟩
theorem rtOk_no {r : Rt} (h : ¬ RtGood r) : rtOk r = false := by rw [← Bool.not_eq_true, rtOk_iff]; exact h

/-- marks with one; without one -/
def mins (M : List Int) (m : Int) : List Int := M.filter (fun x => decide (x < m)) ++ m :: M.filter (fun x => decide (m < x))
def mdel (M : List Int) (m : Int) : List Int := M.filter (fun x => decide (x ≠ m))
theorem filter_none {p : Int → Bool} {M : List Int} (h : ∀ x ∈ M, p x = false) : M.filter p = [] := by
  rw [List.filter_eq_nil_iff]; intro x hx; rw [h x hx]; simp
theorem filter_full {p : Int → Bool} {M : List Int} (h : ∀ x ∈ M, p x = true) : M.filter p = M := List.filter_eq_self.2 h
theorem asc_take : ∀ {M : List Int} (m : Int), M.Pairwise (· < ·) → M.take (M.countP (fun x => decide (x < m))) = M.filter (fun x => decide (x < m))
  | [], _, _ => by simp
  | x :: M, m, h => by
    obtain ⟨h1, h2⟩ := List.pairwise_cons.1 h
    by_cases hx : x < m
    · rw [List.countP_cons_of_pos (by simpa using hx), List.take_succ_cons, asc_take m h2, List.filter_cons_of_pos (by simpa using hx)]
    · have hf : ∀ y ∈ M, decide (y < m) = false := fun y hy => by have := h1 y hy; simp; omega
      rw [List.countP_cons_of_neg (by simpa using hx), List.filter_cons_of_neg (by simpa using hx), filter_none hf]
      rw [List.countP_eq_zero.2 (fun y hy => by rw [hf y hy]; simp)]; rfl
theorem asc_drop : ∀ {M : List Int} (m : Int), M.Pairwise (· < ·) → M.drop (M.countP (fun x => decide (x < m))) = M.filter (fun x => decide (m ≤ x))
  | [], _, _ => by simp
  | x :: M, m, h => by
    obtain ⟨h1, h2⟩ := List.pairwise_cons.1 h
    by_cases hx : x < m
    · rw [List.countP_cons_of_pos (by simpa using hx), List.drop_succ_cons, asc_drop m h2, List.filter_cons_of_neg (by simp; omega)]
    · have hf : ∀ y ∈ M, decide (y < m) = false := fun y hy => by have := h1 y hy; simp; omega
      rw [List.countP_cons_of_neg (by simpa using hx), List.countP_eq_zero.2 (fun y hy => by rw [hf y hy]; simp)]
      rw [List.drop_zero, filter_full]
      intro y hy
      rcases List.mem_cons.1 hy with rfl | hy
      · simp; omega
      · have := h1 y hy; simp; omega
theorem filter_lt_le {M : List Int} {m : Int} (h : m ∉ M) : M.filter (fun x => decide (m ≤ x)) = M.filter (fun x => decide (m < x)) :=
  List.filter_congr fun x hx => by
    have : x ≠ m := fun e => h (e ▸ hx)
    simp; omega
/-- a mark that is not there is put at its place -/
theorem mins_new {M : List Int} {m : Int} (h : M.Pairwise (· < ·)) (hm : m ∉ M) :
    M.take (M.countP (fun x => decide (x < m))) ++ m :: M.drop (M.countP (fun x => decide (x < m))) = mins M m := by
  rw [asc_take m h, asc_drop m h, filter_lt_le hm]; rfl
theorem mins_there : ∀ {M : List Int} {m : Int}, M.Pairwise (· < ·) → m ∈ M → mins M m = M
  | [], _, _, hm => by cases hm
  | x :: M, m, h, hm => by
    obtain ⟨h1, h2⟩ := List.pairwise_cons.1 h
    rcases List.mem_cons.1 hm with rfl | hm
    · unfold mins
      rw [List.filter_cons_of_neg (by simp), List.filter_cons_of_neg (by simp), filter_none (fun y hy => by have := h1 y hy; simp; omega), filter_full (fun y hy => by have := h1 y hy; simpa using this)]
      rfl
    · have hx := h1 m hm
      have := mins_there h2 hm
      unfold mins at this ⊢
      rw [List.filter_cons_of_pos (by simpa using hx), List.filter_cons_of_neg (by simp; omega), List.cons_append, this]
theorem mdel_none {M : List Int} {m : Int} (hm : m ∉ M) : mdel M m = M := filter_full fun x hx => by
  have : x ≠ m := fun e => hm (e ▸ hx)
  simpa using this
theorem mdel_there : ∀ {M : List Int} {m : Int}, M.Pairwise (· < ·) → m ∈ M →
    M.take (M.countP (fun x => decide (x < m))) ++ M.drop (M.countP (fun x => decide (x < m)) + 1) = mdel M m
  | [], _, _, hm => by cases hm
  | x :: M, m, h, hm => by
    obtain ⟨h1, h2⟩ := List.pairwise_cons.1 h
    rcases List.mem_cons.1 hm with rfl | hm
    · have hf : ∀ y ∈ M, decide (y < m) = false := fun y hy => by have := h1 y hy; simp; omega
      rw [List.countP_cons_of_neg (by simp), List.countP_eq_zero.2 (fun y hy => by rw [hf y hy]; simp)]
      unfold mdel
      rw [List.filter_cons_of_neg (by simp), filter_full (fun y hy => by have := h1 y hy; simp; omega)]
      simp
    · have hx := h1 m hm
      rw [List.countP_cons_of_pos (by simpa using hx), List.take_succ_cons, List.drop_succ_cons, List.cons_append, mdel_there h2 hm]
      unfold mdel
      rw [List.filter_cons_of_pos (by simp; omega)]
theorem mem_mins {M : List Int} {m x : Int} : x ∈ mins M m ↔ x = m ∨ x ∈ M := by
  unfold mins
  simp only [List.mem_append, List.mem_filter, List.mem_cons, decide_eq_true_eq]
  constructor
  · rintro (⟨h, _⟩ | rfl | ⟨h, _⟩)
    · exact .inr h
    · exact .inl rfl
    · exact .inr h
  · rintro (rfl | h)
    · exact .inr (.inl rfl)
    · rcases Int.lt_trichotomy x m with k | k | k
      · exact .inl ⟨h, k⟩
      · exact .inr (.inl k)
      · exact .inr (.inr ⟨h, k⟩)
theorem mem_mdel {M : List Int} {m x : Int} : x ∈ mdel M m ↔ x ≠ m ∧ x ∈ M := by
  unfold mdel; simp only [List.mem_filter, decide_eq_true_eq]; exact ⟨fun h => ⟨h.2, h.1⟩, fun h => ⟨h.2, h.1⟩⟩
theorem Marks.mins {M : List Int} {m : Int} (h : Marks M) (h1 : 1 ≤ m ∧ m ≤ 9) : Marks (mins M m) := by
  refine ⟨fun x hx => ?_, ?_⟩
  · rcases mem_mins.1 hx with rfl | k
    · exact h1
    · exact h.1 x k
  · unfold Go.Proofs.YthkaaamgkmmeeaaDoor.mins
    rw [List.pairwise_append]
    refine ⟨h.2.filter _, ?_, fun a ha b hb => ?_⟩
    · rw [List.pairwise_cons]
      exact ⟨fun y hy => by simpa using (List.mem_filter.1 hy).2, h.2.filter _⟩
    · have ha' : a < m := by simpa using (List.mem_filter.1 ha).2
      rcases List.mem_cons.1 hb with rfl | hb
      · exact ha'
      · have : m < b := by simpa using (List.mem_filter.1 hb).2
        omega
theorem Marks.mdel {M : List Int} {m : Int} (h : Marks M) : Marks (mdel M m) := ⟨fun x hx => h.1 x (mem_mdel.1 hx).2, h.2.filter _⟩
/-- marks with the same members are the same -/
theorem asc_ext : ∀ {M N : List Int}, M.Pairwise (· < ·) → N.Pairwise (· < ·) → (∀ x, x ∈ M ↔ x ∈ N) → M = N
  | [], [], _, _, _ => rfl
  | [], y :: N, _, _, h => by have := (h y).2 (by simp); cases this
  | x :: M, [], _, _, h => by have := (h x).1 (by simp); cases this
  | x :: M, y :: N, hM, hN, h => by
    obtain ⟨m1, m2⟩ := List.pairwise_cons.1 hM
    obtain ⟨n1, n2⟩ := List.pairwise_cons.1 hN
    have hxy : x = y := by
      have a := (h x).1 (by simp)
      have b := (h y).2 (by simp)
      rcases List.mem_cons.1 a with e | a
      · exact e
      · rcases List.mem_cons.1 b with e | b
        · exact e.symm
        · have := n1 x a; have := m1 y b; omega
    subst hxy
    rw [asc_ext m2 n2]
    intro z
    constructor
    · intro hz
      rcases List.mem_cons.1 ((h z).1 (by simp [hz])) with rfl | k
      · have := m1 z hz; omega
      · exact k
    · intro hz
      rcases List.mem_cons.1 ((h z).2 (by simp [hz])) with rfl | k
      · have := n1 z hz; omega
      · exact k

/-- a route with a mark; without one -/
def zRt : Rt := (0, 0, [], 0, [])
def rtMark (r : Rt) (m : Int) : Rt × Bool := if rtOk r && isM m then ((r.1, r.2.1, r.2.2.1, r.2.2.2.1, mins r.2.2.2.2 m), true) else (zRt, false)
def rtClear (r : Rt) (m : Int) : Rt × Bool := if rtOk r && isM m then ((r.1, r.2.1, r.2.2.1, r.2.2.2.1, mdel r.2.2.2.2 m), true) else (zRt, false)

/-! which is better -/
def rtCmp0 (a b : Rt) : Int :=
  if b.2.2.2.1 < a.2.2.2.1 then -1 else if a.2.2.2.1 < b.2.2.2.1 then 1 else
  if lcmp a.2.2.1 b.2.2.1 ≠ 0 then lcmp a.2.2.1 b.2.2.1 else
  if cmpI a.1 a.2.1 b.1 b.2.1 ≠ 0 then cmpI a.1 a.2.1 b.1 b.2.1 else lcmp a.2.2.2.2 b.2.2.2.2
def rtCmp (a b : Rt) : Int := if rtOk a && rtOk b then rtCmp0 a b else 0
theorem cmpI_vals (f b g c : Int) : cmpI f b g c = -1 ∨ cmpI f b g c = 0 ∨ cmpI f b g c = 1 := by
  unfold cmpI; repeat' split
  all_goals simp
theorem cmpI_neg (f b g c : Int) : cmpI g c f b = - cmpI f b g c := by
  unfold cmpI; repeat' split
  all_goals first | rfl | omega
theorem cmpI_zero (f b g c : Int) : cmpI f b g c = 0 ↔ f = g ∧ b = c := by
  unfold cmpI; repeat' split
  all_goals first | omega | (simp; omega)
theorem cmpI_lt (f b g c : Int) : cmpI f b g c = -1 ↔ f < g ∨ f = g ∧ b < c := by
  unfold cmpI; repeat' split
  all_goals first | omega | (simp; omega)
theorem rtCmp0_vals (a b : Rt) : rtCmp0 a b = -1 ∨ rtCmp0 a b = 0 ∨ rtCmp0 a b = 1 := by
  unfold rtCmp0
  repeat' split
  · simp
  · simp
  · exact lcmp_vals _ _
  · exact cmpI_vals _ _ _ _
  · exact lcmp_vals _ _
theorem rtCmp0_neg (a b : Rt) : rtCmp0 b a = - rtCmp0 a b := by
  unfold rtCmp0
  rw [lcmp_neg a.2.2.1 b.2.2.1, cmpI_neg a.1 a.2.1 b.1 b.2.1, lcmp_neg a.2.2.2.2 b.2.2.2.2]
  repeat' split
  all_goals first | rfl | omega
theorem rtCmp0_zero (a b : Rt) : rtCmp0 a b = 0 ↔ a = b := by
  obtain ⟨f, c, P, l, M⟩ := a
  obtain ⟨g, d, Q, k, N⟩ := b
  unfold rtCmp0
  simp only [Prod.mk.injEq]
  have e1 := lcmp_zero P Q
  have e2 := cmpI_zero f c g d
  have e3 := lcmp_zero M N
  constructor
  · intro h
    split at h
    · omega
    · split at h
      · omega
      · split at h
        · exact absurd h (by assumption)
        · rename_i h3
          split at h
          · exact absurd h (by assumption)
          · rename_i h4
            have h3' := e1.1 (by omega)
            have h4' := e2.1 (by omega)
            exact ⟨h4'.1, h4'.2, h3', by omega, e3.1 h⟩
  · rintro ⟨rfl, rfl, rfl, rfl, rfl⟩
    rw [if_neg (by omega), if_neg (by omega), if_neg (by simp [e1.2 rfl]), if_neg (by simp [e2.2 ⟨rfl, rfl⟩]), e3.2 rfl]
/-- better, spelt out -/
theorem rtCmp0_lt (a b : Rt) : rtCmp0 a b = -1 ↔ b.2.2.2.1 < a.2.2.2.1 ∨ a.2.2.2.1 = b.2.2.2.1 ∧ (lcmp a.2.2.1 b.2.2.1 = -1 ∨ a.2.2.1 = b.2.2.1 ∧
    (cmpI a.1 a.2.1 b.1 b.2.1 = -1 ∨ (a.1 = b.1 ∧ a.2.1 = b.2.1) ∧ lcmp a.2.2.2.2 b.2.2.2.2 = -1)) := by
  rw [← lcmp_zero a.2.2.1 b.2.2.1, ← cmpI_zero a.1 a.2.1 b.1 b.2.1]
  unfold rtCmp0
  repeat' split
  all_goals omega
theorem rtCmp0_trans {a b c : Rt} (h1 : rtCmp0 a b = -1) (h2 : rtCmp0 b c = -1) : rtCmp0 a c = -1 := by
  rw [rtCmp0_lt] at *
  rcases h1 with h1 | ⟨e1, h1⟩
  · rcases h2 with h2 | ⟨e2, h2⟩
    · exact .inl (by omega)
    · exact .inl (by omega)
  · rcases h2 with h2 | ⟨e2, h2⟩
    · exact .inl (by omega)
    · refine .inr ⟨by omega, ?_⟩
      rcases h1 with h1 | ⟨p1, h1⟩
      · rcases h2 with h2 | ⟨p2, h2⟩
        · exact .inl (lcmp_trans h1 h2)
        · exact .inl (by rw [← p2]; exact h1)
      · rcases h2 with h2 | ⟨p2, h2⟩
        · exact .inl (by rw [p1]; exact h2)
        · refine .inr ⟨p1.trans p2, ?_⟩
          rcases h1 with h1 | ⟨q1, h1⟩
          · rcases h2 with h2 | ⟨q2, h2⟩
            · exact .inl (by rw [cmpI_lt] at *; omega)
            · exact .inl (by rw [← q2.1, ← q2.2]; exact h1)
          · rcases h2 with h2 | ⟨q2, h2⟩
            · exact .inl (by rw [q1.1, q1.2]; exact h2)
            · exact .inr ⟨⟨q1.1.trans q2.1, q1.2.trans q2.2⟩, lcmp_trans h1 h2⟩
theorem rtCmp_yes {a b : Rt} (ha : rtOk a = true) (hb : rtOk b = true) : rtCmp a b = rtCmp0 a b := by simp [rtCmp, ha, hb]
theorem rtCmp_no1 {a b : Rt} (ha : rtOk a = false) : rtCmp a b = 0 := by simp [rtCmp, ha]
theorem rtCmp_no2 {a b : Rt} (hb : rtOk b = false) : rtCmp a b = 0 := by simp [rtCmp, hb]

/-- slices.Compare, of lengths that may differ -/
def cmpG : List Int → List Int → Int
  | [], [] => 0
  | [], _ :: _ => -1
  | _ :: _, [] => 1
  | x :: L, y :: M => if x < y then -1 else if y < x then 1 else cmpG L M
theorem cmpG_same : ∀ {L M : List Int}, L.length = M.length → cmpG L M = cmpL L M
  | [], [], _ => rfl
  | [], _ :: _, h => by simp at h
  | _ :: _, [], h => by simp at h
  | x :: L, y :: M, h => by simp only [cmpG, cmpL, cmpG_same (L := L) (M := M) (by simpa using h)]
/-- the first that is not 0 -/
def firstNZ : List Int → Int
  | [] => 0
  | x :: l => if x ≠ 0 then x else firstNZ l
def csgn (x y : Int) : Int := if x < y then -1 else if y < x then 1 else 0
theorem or_cmp {a b : Rt} (ha : RtGood a) (hb : RtGood b) :
    firstNZ [csgn b.2.2.2.1 a.2.2.2.1, pcmp a.2.2.1 b.2.2.1, cmpOk a.1 a.2.1 b.1 b.2.1, csgn a.2.2.2.2.length b.2.2.2.2.length, cmpG a.2.2.2.2 b.2.2.2.2] = rtCmp0 a b := by
  have hm : lcmp a.2.2.2.2 b.2.2.2.2 = firstNZ [csgn a.2.2.2.2.length b.2.2.2.2.length, cmpG a.2.2.2.2 b.2.2.2.2] := by
    unfold lcmp csgn
    simp only [firstNZ]
    repeat' split
    all_goals first | rfl | omega | skip
    all_goals first | (rw [cmpG_same (by omega)]; done) | (have := cmpG_same (L := a.2.2.2.2) (M := b.2.2.2.2) (by omega); omega)
  rw [pcmp_yes ha.path hb.path]
  rw [show cmpOk a.1 a.2.1 b.1 b.2.1 = cmpI a.1 a.2.1 b.1 b.2.1 by simp [cmpOk, ha.ran, hb.ran]]
  unfold rtCmp0
  rw [hm]
  simp only [firstNZ, csgn]
  repeat' split
  all_goals first | rfl | omega

/-! the best -/
/-- no other one is better; none ahead of it is the same -/
def IsBest (l : List Rt) (k : Nat) : Prop := ∃ r, l[k]? = some r ∧ (∀ (j : Nat) x, l[j]? = some x → rtCmp0 x r ≠ -1) ∧ ∀ (j : Nat) x, j < k → l[j]? = some x → x ≠ r
def BestIs (l : List Rt) (z : Int) : Prop := (l ≠ [] ∧ (∀ r ∈ l, rtOk r = true) ∧ ∃ k, z = (k : Nat) ∧ IsBest l k) ∨ ((l = [] ∨ ∃ r ∈ l, rtOk r = false) ∧ z = -1)
theorem IsBest.same {l : List Rt} {k k' : Nat} (h : IsBest l k) (h' : IsBest l k') : k = k' := by
  obtain ⟨r, h1, h2, h3⟩ := h
  obtain ⟨r', h1', h2', h3'⟩ := h'
  have e : r = r' := by
    have a := h2 _ _ h1'
    have b := h2' _ _ h1
    have n := rtCmp0_neg r r'
    rcases rtCmp0_vals r r' with c | c | c
    · exact (b c).elim
    · exact (rtCmp0_zero _ _).1 c
    · exact (a (by rw [n, c])).elim
  subst e
  rcases Nat.lt_trichotomy k k' with c | c | c
  · exact (h3' _ _ c h1 rfl).elim
  · exact c
  · exact (h3 _ _ c h1' rfl).elim
theorem BestIs.same {l : List Rt} {z z' : Int} (h : BestIs l z) (h' : BestIs l z') : z = z' := by
  rcases h with ⟨a, b, k, rfl, c⟩ | ⟨a, rfl⟩
  · rcases h' with ⟨_, _, k', rfl, c'⟩ | ⟨a', rfl⟩
    · rw [c.same c']
    · rcases a' with a' | ⟨r, hr, e⟩
      · exact (a a').elim
      · rw [b r hr] at e; cases e
  · rcases h' with ⟨b, c, _⟩ | ⟨_, rfl⟩
    · rcases a with a | ⟨r, hr, e⟩
      · exact (b a).elim
      · rw [c r hr] at e; cases e
    · rfl
/-- the best of the first n -/
def BestU (l : List Rt) (n k : Nat) : Prop := ∃ r, l[k]? = some r ∧ k < n ∧ (∀ (j : Nat) x, j < n → l[j]? = some x → rtCmp0 x r ≠ -1) ∧ ∀ (j : Nat) x, j < k → l[j]? = some x → x ≠ r
theorem BestU.all {l : List Rt} {k : Nat} (h : BestU l l.length k) : IsBest l k := by
  obtain ⟨r, h1, _, h2, h3⟩ := h
  exact ⟨r, h1, fun j x hj => h2 j x (List.getElem?_eq_some_iff.1 hj).1 hj, h3⟩
theorem rt_self (r : Rt) : rtCmp0 r r = 0 := (rtCmp0_zero r r).2 rfl
theorem BestU.one {l : List Rt} {r : Rt} (h : l[0]? = some r) : BestU l 1 0 := ⟨r, h, by omega, fun j x hj hx => by
  obtain rfl : j = 0 := by omega
  rw [h] at hx; cases hx; rw [rt_self]; simp, fun j x hj => by omega⟩
theorem BestU.stay {l : List Rt} {n k : Nat} {r x : Rt} (h : BestU l n k) (hr : l[k]? = some r) (hx : l[n]? = some x) (hc : rtCmp0 x r ≠ -1) : BestU l (n + 1) k := by
  obtain ⟨r', h1, h2, h3, h4⟩ := h
  obtain rfl : r = r' := by rw [hr] at h1; simpa using h1
  refine ⟨r, h1, by omega, fun j y hj hy => ?_, h4⟩
  by_cases e : j = n
  · subst e; rw [hx] at hy; cases hy; exact hc
  · exact h3 j y (by omega) hy
theorem BestU.turn {l : List Rt} {n k : Nat} {r x : Rt} (h : BestU l n k) (hr : l[k]? = some r) (hx : l[n]? = some x) (hc : rtCmp0 x r = -1) : BestU l (n + 1) n := by
  obtain ⟨r', h1, h2, h3, h4⟩ := h
  obtain rfl : r = r' := by rw [hr] at h1; simpa using h1
  have lt : ∀ (j : Nat) y, j < n → l[j]? = some y → rtCmp0 x y = -1 := fun j y hj hy => by
    have := h3 j y hj hy
    rcases rtCmp0_vals y r with c | c | c
    · exact (this c).elim
    · rw [(rtCmp0_zero y r).1 c]; exact hc
    · exact rtCmp0_trans hc (by rw [rtCmp0_neg, c])
  refine ⟨x, hx, by omega, fun j y hj hy => ?_, fun j y hj hy e => ?_⟩
  · by_cases e : j = n
    · subst e; rw [hx] at hy; cases hy; rw [rt_self]; simp
    · have := lt j y (by omega) hy
      rw [rtCmp0_neg, this]; simp
  · have := lt j y hj hy
    rw [e, rt_self] at this; cases this

/-! places in a heap -/
/-- the route at one place is better than that at another one, or the same and ahead -/
def hless (l : List Rt) (i j : Nat) : Bool := decide (rtCmp0 (l.getD i zRt) (l.getD j zRt) = -1 ∨ rtCmp0 (l.getD i zRt) (l.getD j zRt) = 0 ∧ i < j)
theorem hless_iff (l : List Rt) (i j : Nat) : hless l i j = true ↔ rtCmp0 (l.getD i zRt) (l.getD j zRt) = -1 ∨ rtCmp0 (l.getD i zRt) (l.getD j zRt) = 0 ∧ i < j := by simp [hless]
theorem hless_irr (l : List Rt) (i : Nat) : hless l i i = false := by
  rw [← Bool.not_eq_true, hless_iff, rt_self]; omega
theorem hless_past {l : List Rt} {x p r : Nat} (h1 : hless l x r = true) (h2 : hless l p r = false) : hless l x p = true := by
  rw [← Bool.not_eq_true] at h2
  rw [hless_iff] at *
  rcases rtCmp0_vals (l.getD p zRt) (l.getD r zRt) with c | c | c
  · exact (h2 (.inl c)).elim
  · have e := (rtCmp0_zero _ _).1 c
    rw [e]
    omega
  · have c' : rtCmp0 (l.getD r zRt) (l.getD p zRt) = -1 := by rw [rtCmp0_neg, c]
    rcases h1 with h1 | ⟨h1, _⟩
    · exact .inl (rtCmp0_trans h1 c')
    · rw [(rtCmp0_zero _ _).1 h1]; exact .inl c'
/-- none of these is less -/
def hmin (l : List Rt) (K : List Nat) (r : Nat) : Prop := ∀ k ∈ K, hless l k r = false
theorem hmin_best {l : List Rt} {K : List Nat} {r : Nat} (hr : r < l.length) (h : hmin l K r) (hK : ∀ k, k < l.length → k ∈ K) : IsBest l r := by
  have g : ∀ (j : Nat) (x : Rt), l[j]? = some x → l.getD j zRt = x := fun j x hx => by simp [List.getD, hx]
  have er : l[r]? = some l[r] := List.getElem?_eq_getElem hr
  refine ⟨l[r], er, fun j x hj c => ?_, fun j x hlt hj e => ?_⟩
  · have := h j (hK j (List.getElem?_eq_some_iff.1 hj).1)
    rw [← Bool.not_eq_true, hless_iff, g j x hj, g r _ er] at this
    exact this (.inl c)
  · have := h j (hK j (List.getElem?_eq_some_iff.1 hj).1)
    rw [← Bool.not_eq_true, hless_iff, g j x hj, g r _ er] at this
    exact this (.inr ⟨by rw [e, rt_self], hlt⟩)
end Go.Proofs.YthkaaamgkmmeeaaDoor
