/-
  Plain arithmetic of tables: entries, their order, what a table finds, what a trie holds. No Go in sight.
-/
import Derived.Test.YtnabcffpficgcaaMathB
namespace Go.Proofs.Ytnabcffpficgcaa

/-- an entry: its first address, its bits, by whom -/
abbrev E := Int × Int × Int

def ltE (a b : E) : Prop := a.1 < b.1 ∨ (a.1 = b.1 ∧ a.2.1 < b.2.1)
instance (a b : E) : Decidable (ltE a b) := inferInstanceAs (Decidable (_ ∨ _))
theorem ltE_irr (a : E) : ¬ ltE a a := by unfold ltE; omega
theorem ltE_trans {a b c : E} (h : ltE a b) (k : ltE b c) : ltE a c := by unfold ltE at *; omega
theorem ltE_asym {a b : E} (h : ltE a b) (k : ltE b a) : False := ltE_irr a (ltE_trans h k)

theorem cmpE_lt (a b : E) : cmpI a.1 a.2.1 b.1 b.2.1 = -1 ↔ ltE a b := by
  unfold cmpI ltE; split <;> (try split) <;> (try split) <;> (try split) <;> constructor <;> intro h <;> omega
theorem cmpE_gt (a b : E) : cmpI a.1 a.2.1 b.1 b.2.1 = 1 ↔ ltE b a := by
  unfold cmpI ltE; split <;> (try split) <;> (try split) <;> (try split) <;> constructor <;> intro h <;> omega
theorem cmpE_eq (a b : E) : cmpI a.1 a.2.1 b.1 b.2.1 = 0 ↔ (a.1 = b.1 ∧ a.2.1 = b.2.1) := by
  unfold cmpI; split <;> (try split) <;> (try split) <;> (try split) <;> constructor <;> intro h <;> omega

/-- two lists in order that hold the same are the same -/
theorem sorted_eq : ∀ {l m : List E}, l.Pairwise ltE → m.Pairwise ltE → (∀ e, e ∈ l ↔ e ∈ m) → l = m
  | [], [], _, _, _ => rfl
  | [], b :: m, _, _, h => by have := (h b).2 (List.mem_cons_self ..); cases this
  | a :: l, [], _, _, h => by have := (h a).1 (List.mem_cons_self ..); cases this
  | a :: l, b :: m, hl, hm, h => by
    obtain ⟨l1, l2⟩ := List.pairwise_cons.1 hl
    obtain ⟨m1, m2⟩ := List.pairwise_cons.1 hm
    have hab : a = b := by
      rcases List.mem_cons.1 ((h a).1 (List.mem_cons_self ..)) with e | e
      · exact e
      · rcases List.mem_cons.1 ((h b).2 (List.mem_cons_self ..)) with e' | e'
        · exact e'.symm
        · exact (ltE_asym (m1 _ e) (l1 _ e')).elim
    subst hab
    have : l = m := sorted_eq l2 m2 fun e => by
      constructor
      · intro k
        rcases List.mem_cons.1 ((h e).1 (List.mem_cons_of_mem _ k)) with e' | e'
        · subst e'; exact (ltE_irr _ (l1 _ k)).elim
        · exact e'
      · intro k
        rcases List.mem_cons.1 ((h e).2 (List.mem_cons_of_mem _ k)) with e' | e'
        · subst e'; exact (ltE_irr _ (m1 _ k)).elim
        · exact e'
    rw [this]

/-- an entry is valid -/
def entOk (e : E) : Bool := okB e.1 e.2.1 && decide (1 ≤ e.2.2 ∧ e.2.2 ≤ 9)
theorem entOk_iff (e : E) : entOk e = true ↔ okB e.1 e.2.1 = true ∧ 1 ≤ e.2.2 ∧ e.2.2 ≤ 9 := by simp [entOk]

/-- valid entries in order -/
def Good (T : List E) : Prop := (∀ e ∈ T, entOk e = true) ∧ T.Pairwise ltE
instance (T : List E) : Decidable (Good T) := inferInstanceAs (Decidable (_ ∧ _))
theorem Good.nil : Good [] := ⟨fun _ h => (by cases h), List.Pairwise.nil⟩
theorem Good.ok {T : List E} (h : Good T) {e : E} (he : e ∈ T) : okB e.1 e.2.1 = true := ((entOk_iff e).1 (h.1 e he)).1
theorem Good.via {T : List E} (h : Good T) {e : E} (he : e ∈ T) : 1 ≤ e.2.2 ∧ e.2.2 ≤ 9 := ((entOk_iff e).1 (h.1 e he)).2
theorem Good.filter {T : List E} (h : Good T) (p : E → Bool) : Good (T.filter p) := ⟨fun e he => h.1 e (List.mem_filter.1 he).1, h.2.filter p⟩
theorem pair_same {T : List E} (h : T.Pairwise ltE) {x y : E} (hx : x ∈ T) (hy : y ∈ T) (h1 : x.1 = y.1) (h2 : x.2.1 = y.2.1) : x = y := by
  induction T with
  | nil => cases hx
  | cons a l ih =>
    obtain ⟨l1, l2⟩ := List.pairwise_cons.1 h
    rcases List.mem_cons.1 hx with rfl | hx' <;> rcases List.mem_cons.1 hy with rfl | hy'
    · rfl
    · have := l1 _ hy'; unfold ltE at this; omega
    · have := l1 _ hx'; unfold ltE at this; omega
    · exact ih l2 hx' hy'
theorem Good.same {T : List E} (h : Good T) {x y : E} (hx : x ∈ T) (hy : y ∈ T) (h1 : x.1 = y.1) (h2 : x.2.1 = y.2.1) : x = y := pair_same h.2 hx hy h1 h2

/-- a table: valid entries in order, not too many -/
def tabOk (T : List E) : Bool := decide (Good T ∧ T.length ≤ 12)
theorem tabOk_iff (T : List E) : tabOk T = true ↔ Good T ∧ T.length ≤ 12 := by simp [tabOk]
theorem tabOk_no {T : List E} (h : ¬ (Good T ∧ T.length ≤ 12)) : tabOk T = false := by rw [← Bool.not_eq_true, tabOk_iff]; exact h

/-! what a table finds -/
def hasE (e : E) (a : Int) : Bool := hasB e.1 e.2.1 a
def longer (o : Option E) (e : E) : Bool := match o with | none => true | some x => decide (x.2.1 < e.2.1)
def bestStep (a : Int) (o : Option E) (e : E) : Option E := if (hasE e a && longer o e) = true then some e else o
def bestM (T : List E) (a : Int) : Option E := T.foldl (bestStep a) none
def viaO (o : Option E) : Int := match o with | none => 0 | some e => e.2.2
def findM (T : List E) (a : Int) : Int := viaO (bestM T a)

/-- the entry with most bits of those that have the address -/
def IsBest (T : List E) (a : Int) (o : Option E) : Prop :=
  (o = none → ∀ e ∈ T, hasE e a = false) ∧ ∀ x, o = some x → x ∈ T ∧ hasE x a = true ∧ ∀ e ∈ T, hasE e a = true → e.2.1 ≤ x.2.1
theorem IsBest.step {P : List E} {a : Int} {o : Option E} (h : IsBest P a o) (e : E) : IsBest (P ++ [e]) a (bestStep a o e) := by
  obtain ⟨h1, h2⟩ := h
  unfold bestStep
  by_cases he : hasE e a = true
  · cases o with
    | none =>
      simp only [he, longer, Bool.and_self, if_true]
      refine ⟨fun h => (by cases h), fun x hx => ?_⟩
      cases hx
      refine ⟨by simp, he, fun y hy hya => ?_⟩
      rcases List.mem_append.1 hy with k | k
      · rw [h1 rfl y k] at hya; cases hya
      · simp at k; subst k; exact Int.le_refl _
    | some z =>
      obtain ⟨z1, z2, z3⟩ := h2 z rfl
      by_cases hl : z.2.1 < e.2.1
      · simp only [he, longer, hl, decide_true, Bool.and_self, if_true]
        refine ⟨fun h => (by cases h), fun x hx => ?_⟩
        cases hx
        refine ⟨by simp, he, fun y hy hya => ?_⟩
        rcases List.mem_append.1 hy with k | k
        · have := z3 y k hya; omega
        · simp at k; subst k; exact Int.le_refl _
      · simp only [he, longer, hl, decide_false, Bool.and_false, Bool.false_eq_true, if_false]
        refine ⟨fun h => (by cases h), fun x hx => ?_⟩
        cases hx
        refine ⟨by simp [z1], z2, fun y hy hya => ?_⟩
        rcases List.mem_append.1 hy with k | k
        · exact z3 y k hya
        · simp at k; subst k; omega
  · have he' : hasE e a = false := by simpa using he
    simp only [he', Bool.false_and, Bool.false_eq_true, if_false]
    refine ⟨fun ho y hy => ?_, fun x hx => ?_⟩
    · rcases List.mem_append.1 hy with k | k
      · exact h1 ho y k
      · simp at k; subst k; exact he'
    · obtain ⟨z1, z2, z3⟩ := h2 x hx
      refine ⟨by simp [z1], z2, fun y hy hya => ?_⟩
      rcases List.mem_append.1 hy with k | k
      · exact z3 y k hya
      · simp at k; subst k; rw [he'] at hya; cases hya
theorem IsBest.fold {a : Int} : ∀ {T P : List E} {o : Option E}, IsBest P a o → IsBest (P ++ T) a (T.foldl (bestStep a) o)
  | [], P, o, h => by simpa using h
  | e :: T, P, o, h => by
    have := IsBest.fold (T := T) (h.step e)
    simpa using this
theorem best_spec (T : List E) (a : Int) : IsBest T a (bestM T a) := by
  have := IsBest.fold (T := T) (P := []) (a := a) (o := none) ⟨fun _ _ h => (by cases h), fun _ h => by cases h⟩
  simpa [bestM] using this

/-- what is found: the via of the entry with most bits that has the address; 0, if none has -/
def FindIs (T : List E) (a r : Int) : Prop :=
  (r = 0 ∧ ∀ e ∈ T, hasE e a = false) ∨ ∃ x, x ∈ T ∧ hasE x a = true ∧ (∀ e ∈ T, hasE e a = true → e.2.1 ≤ x.2.1) ∧ r = x.2.2
theorem find_is (T : List E) (a : Int) : FindIs T a (findM T a) := by
  obtain ⟨h1, h2⟩ := best_spec T a
  unfold findM
  cases h : bestM T a with
  | none => exact .inl ⟨rfl, h1 h⟩
  | some x => obtain ⟨z1, z2, z3⟩ := h2 x h; exact .inr ⟨x, z1, z2, z3, rfl⟩
theorem hasE_iff {e : E} (h : okB e.1 e.2.1 = true) (a : Int) : hasE e a = true ↔ e.1 ≤ a ∧ a < e.1 + sz e.2.1 := hasB_iff' h
/-- two ranges of so many bits that have an address are the same -/
theorem has_same {x y : E} {a : Int} (hx : hasE x a = true) (hy : hasE y a = true) (h : x.2.1 = y.2.1) : x.1 = y.1 := by
  have ox := ((hasB_iff _ _ _).1 hx).1
  have oy := ((hasB_iff _ _ _).1 hy).1
  have n1 := nest ox oy (by omega) a hx hy
  have n2 := nest oy ox (by omega) a hy hx
  omega
theorem FindIs.eq {T : List E} {a r s : Int} (hT : Good T) (h : FindIs T a r) (k : FindIs T a s) : r = s := by
  rcases h with ⟨h1, h2⟩ | ⟨x, x1, x2, x3, x4⟩ <;> rcases k with ⟨k1, k2⟩ | ⟨y, y1, y2, y3, y4⟩
  · omega
  · rw [h2 y y1] at y2; cases y2
  · rw [k2 x x1] at x2; cases x2
  · have e1 := x3 y y1 y2
    have e2 := y3 x x1 x2
    have e3 : x.2.1 = y.2.1 := by omega
    rw [x4, y4, hT.same x1 y1 (has_same x2 y2 e3) e3]
theorem find_eq {T : List E} {a r : Int} (hT : Good T) (h : FindIs T a r) : r = findM T a := h.eq hT (find_is T a)
/-- what is found hangs just on the entries that have the address -/
theorem FindIs.congr {T U : List E} {a r : Int} (h : ∀ e, hasE e a = true → (e ∈ T ↔ e ∈ U)) (k : FindIs T a r) : FindIs U a r := by
  rcases k with ⟨k1, k2⟩ | ⟨y, y1, y2, y3, y4⟩
  · refine .inl ⟨k1, fun e he => ?_⟩
    by_cases hh : hasE e a = true
    · rw [k2 e ((h e hh).2 he)] at hh; cases hh
    · simpa using hh
  · exact .inr ⟨y, (h y y2).1 y1, y2, fun e he hh => y3 e ((h e hh).2 he) hh, y4⟩
theorem find_congr {T U : List E} {a : Int} (hU : Good U) (h : ∀ e, hasE e a = true → (e ∈ T ↔ e ∈ U)) : findM T a = findM U a :=
  find_eq hU ((find_is T a).congr h)
theorem find_pos {T : List E} (hT : Good T) {a : Int} (h : ∃ e ∈ T, hasE e a = true) : 1 ≤ findM T a ∧ findM T a ≤ 9 := by
  obtain ⟨e, he, hh⟩ := h
  rcases find_is T a with ⟨k1, k2⟩ | ⟨y, y1, y2, y3, y4⟩
  · rw [k2 e he] at hh; cases hh
  · rw [y4]; exact hT.via y1

/-! what a trie holds: by each range one number -/
abbrev VV := Int → Int → Int
def updV (V : VV) (e : E) : VV := fun f b => if f = e.1 ∧ b = e.2.1 then e.2.2 else V f b
def plantV (T : List E) : VV := T.foldl updV (fun _ _ => 0)
/-- the trie holds just the entries -/
def Vis (V : VV) (T : List E) : Prop := ∀ f b, (∃ v, (f, b, v) ∈ T ∧ V f b = v) ∨ (V f b = 0 ∧ ∀ v, (f, b, v) ∉ T)
theorem Vis.of {V : VV} {T : List E} (h : Vis V T) (hT : Good T) {e : E} (he : e ∈ T) : V e.1 e.2.1 = e.2.2 := by
  rcases h e.1 e.2.1 with ⟨v, h1, h2⟩ | ⟨_, h2⟩
  · have : (e.1, e.2.1, v) = e := hT.same h1 he rfl rfl
    rw [h2]; rw [← this]
  · exact (h2 e.2.2 he).elim
theorem Vis.mem {V : VV} {T : List E} (h : Vis V T) (hT : Good T) (f b v : Int) : (f, b, v) ∈ T ↔ V f b = v ∧ v ≠ 0 := by
  constructor
  · intro k
    have k1 := h.of hT k
    have k2 := hT.via k
    exact ⟨k1, by simp at k2; omega⟩
  · rintro ⟨rfl, k⟩
    rcases h f b with ⟨v, h1, h2⟩ | ⟨h1, _⟩
    · rw [h2]; exact h1
    · exact (k h1).elim
theorem Vis.ok {V : VV} {T : List E} (h : Vis V T) (hT : Good T) {f b : Int} (k : V f b ≠ 0) : okB f b = true :=
  hT.ok ((h.mem hT f b (V f b)).2 ⟨rfl, k⟩)
theorem Vis.step {V : VV} {T : List E} (h : Vis V T) (e : E) : Vis (updV V e) (T ++ [e]) := by
  intro f b
  by_cases hfb : f = e.1 ∧ b = e.2.1
  · obtain ⟨rfl, rfl⟩ := hfb
    exact .inl ⟨e.2.2, by simp, by simp [updV]⟩
  · have hv : updV V e f b = V f b := by simp [updV, hfb]
    rcases h f b with ⟨v, h1, h2⟩ | ⟨h1, h2⟩
    · exact .inl ⟨v, by simp [h1], by rw [hv, h2]⟩
    · refine .inr ⟨by rw [hv, h1], fun v k => ?_⟩
      rcases List.mem_append.1 k with k' | k'
      · exact h2 v k'
      · simp at k'; exact hfb ⟨by rw [← k'], by rw [← k']⟩
theorem vis_fold : ∀ {T P : List E} {V : VV}, Vis V P → Vis (T.foldl updV V) (P ++ T)
  | [], P, V, h => by simpa using h
  | e :: T, P, V, h => by
    have := vis_fold (T := T) (h.step e)
    simpa using this
theorem vis_plant (T : List E) : Vis (plantV T) T := by
  have := vis_fold (T := T) (P := []) (V := fun _ _ => 0) (fun _ _ => .inr ⟨rfl, fun _ k => by cases k⟩)
  simpa [plantV] using this

/-- the range of so many bits that has an address -/
def pre (a : Int) (d : Int) : Int := a / sz d * sz d
theorem pre_ok {a d : Int} (d0 : 0 ≤ d) (d8 : d ≤ 8) (a0 : 0 ≤ a) (a1 : a ≤ 255) : okB (pre a d) d = true := by
  unfold pre
  rcases sz_cases d0 d8 with h | h | h | h | h | h | h | h | h <;> obtain ⟨rfl, e⟩ := h <;> refine okB_of (by omega) (by omega) ?_ ?_ ?_ <;> rw [e] <;> omega
theorem pre_has {a d : Int} (d0 : 0 ≤ d) (d8 : d ≤ 8) (a0 : 0 ≤ a) (a1 : a ≤ 255) : hasB (pre a d) d a = true := by
  rw [hasB_iff' (pre_ok d0 d8 a0 a1)]
  unfold pre
  rcases sz_cases d0 d8 with h | h | h | h | h | h | h | h | h <;> obtain ⟨rfl, e⟩ := h <;> rw [e] <;> omega
theorem pre_of {f d a : Int} (h : hasB f d a = true) : f = pre a d := by
  have ok := ((hasB_iff _ _ _).1 h).1
  obtain ⟨d0, d8, _⟩ := (okB_iff _ _).1 ok
  obtain ⟨a0, a1⟩ := hasB_addr h
  exact has_same (x := (f, d, 0)) (y := (pre a d, d, 0)) h (pre_has d0 d8 a0 a1) rfl
theorem pre_zero {a : Int} (a0 : 0 ≤ a) (a1 : a ≤ 255) : pre a 0 = 0 := by simp [pre, sz]; omega
theorem pre_self {f b : Int} (h : okB f b = true) : pre f b = f := (pre_of (first_has h)).symm
/-- the bit by which the way goes on -/
def bitB (a d : Int) : Int := a / sz (d + 1) % 2
theorem bitB_01 (a d : Int) : bitB a d = 0 ∨ bitB a d = 1 := by unfold bitB; omega
theorem pre_succ {a d : Int} (d0 : 0 ≤ d) (d8 : d < 8) : pre a (d + 1) = if bitB a d = 0 then pre a d else pre a d + sz (d + 1) := by
  have h : d = 0 ∨ d = 1 ∨ d = 2 ∨ d = 3 ∨ d = 4 ∨ d = 5 ∨ d = 6 ∨ d = 7 := by omega
  by_cases hb : bitB a d = 0
  · rw [if_pos hb]
    unfold pre bitB at *
    rcases h with rfl | rfl | rfl | rfl | rfl | rfl | rfl | rfl <;> simp [sz] at hb ⊢ <;> omega
  · rw [if_neg hb]
    unfold pre bitB at *
    rcases h with rfl | rfl | rfl | rfl | rfl | rfl | rfl | rfl <;> simp [sz] at hb ⊢ <;> omega

/-- the last number that is not 0, on the way to an address -/
def viaV (V : VV) (a : Int) : Nat → Int
  | 0 => V (pre a 0) 0
  | d + 1 => if V (pre a ((d : Int) + 1)) ((d : Int) + 1) = 0 then viaV V a d else V (pre a ((d : Int) + 1)) ((d : Int) + 1)
def FindTo (T : List E) (a r : Int) (d : Nat) : Prop :=
  (r = 0 ∧ ∀ e ∈ T, hasE e a = true → (d : Int) < e.2.1) ∨ ∃ x, x ∈ T ∧ hasE x a = true ∧ x.2.1 ≤ d ∧ (∀ e ∈ T, hasE e a = true → e.2.1 ≤ d → e.2.1 ≤ x.2.1) ∧ r = x.2.2
theorem viaV_to {V : VV} {T : List E} (h : Vis V T) (hT : Good T) {a : Int} (a0 : 0 ≤ a) (a1 : a ≤ 255) : ∀ d : Nat, d ≤ 8 → FindTo T a (viaV V a d) d
  | 0, _ => by
    unfold viaV
    by_cases hv : V (pre a 0) 0 = 0
    · rw [hv]
      refine .inl ⟨rfl, fun e he hh => ?_⟩
      have e0 := (okB_iff _ _).1 (hT.ok he)
      by_cases hb : e.2.1 = 0
      · have hh' : hasB e.1 e.2.1 a = true := hh
        have e1 := pre_of hh'
        have := h.of hT he
        rw [e1, hb, hv] at this
        have := hT.via he
        omega
      · omega
    · have hm := (h.mem hT (pre a 0) 0 _).2 ⟨rfl, hv⟩
      exact .inr ⟨_, hm, pre_has (by omega) (by omega) a0 a1, by simp, fun e _ _ h0 => by simpa using h0, rfl⟩
  | d + 1, hd => by
    have ih := viaV_to h hT a0 a1 d (by omega)
    unfold viaV
    by_cases hv : V (pre a ((d : Int) + 1)) ((d : Int) + 1) = 0
    · rw [if_pos hv]
      have no : ∀ e ∈ T, hasE e a = true → e.2.1 ≠ (d : Int) + 1 := fun e he hh hb => by
        have hh' : hasB e.1 e.2.1 a = true := hh
        have e1 := pre_of hh'
        have := h.of hT he
        rw [e1, hb, hv] at this
        have := hT.via he
        omega
      rcases ih with ⟨k1, k2⟩ | ⟨x, x1, x2, x3, x4, x5⟩
      · refine .inl ⟨k1, fun e he hh => ?_⟩
        have := k2 e he hh; have := no e he hh; omega
      · refine .inr ⟨x, x1, x2, by omega, fun e he hh hb => ?_, x5⟩
        have := no e he hh
        exact x4 e he hh (by omega)
    · rw [if_neg hv]
      have hm := (h.mem hT (pre a ((d : Int) + 1)) ((d : Int) + 1) _).2 ⟨rfl, hv⟩
      exact .inr ⟨_, hm, pre_has (by omega) (by omega) a0 a1, by simp, fun e _ _ h0 => by simpa using h0, rfl⟩
theorem viaV_find {V : VV} {T : List E} (h : Vis V T) (hT : Good T) {a : Int} (a0 : 0 ≤ a) (a1 : a ≤ 255) : viaV V a 8 = findM T a := by
  apply find_eq hT
  rcases viaV_to h hT a0 a1 8 (Nat.le_refl _) with ⟨k1, k2⟩ | ⟨x, x1, x2, x3, x4, x5⟩
  · refine .inl ⟨k1, fun e he => ?_⟩
    by_cases hh : hasE e a = true
    · have := k2 e he hh; have := (okB_iff _ _).1 (hT.ok he); omega
    · simpa using hh
  · exact .inr ⟨x, x1, x2, fun e he hh => x4 e he hh (by have := (okB_iff _ _).1 (hT.ok he); omega), x5⟩
/-- where nothing lies deeper the way can end -/
theorem viaV_stop {V : VV} {a : Int} {d : Nat} (hd : ∀ k : Nat, d < k → k ≤ 8 → V (pre a k) k = 0) : ∀ k : Nat, d ≤ k → k ≤ 8 → viaV V a k = viaV V a d
  | 0, h, _ => by have : d = 0 := by omega
                  rw [this]
  | k + 1, h, h8 => by
    by_cases e : d = k + 1
    · rw [e]
    · have := hd (k + 1) (by omega) h8
      have e1 : viaV V a (k + 1) = viaV V a k := by
        show (if _ then _ else _) = _
        rw [if_pos (by simpa using this)]
      rw [e1]
      exact viaV_stop hd k (by omega) (by omega)

/-! the entries of a trie, in order -/
def ownL (V : VV) (f b : Int) : List E := if V f b = 0 then [] else [(f, b, V f b)]
def collV (V : VV) : Nat → Int → Int → List E
  | 0, f, b => ownL V f b
  | n + 1, f, b => ownL V f b ++ collV V n f (b + 1) ++ collV V n (f + sz (b + 1)) (b + 1)
theorem ok_lower {f b : Int} (h : okB f b = true) (h8 : b < 8) : okB f (b + 1) = true := by
  obtain ⟨b0, b8, f0, f1, hm⟩ := (okB_iff f b).1 h
  have k : b = 0 ∨ b = 1 ∨ b = 2 ∨ b = 3 ∨ b = 4 ∨ b = 5 ∨ b = 6 ∨ b = 7 := by omega
  rcases k with rfl | rfl | rfl | rfl | rfl | rfl | rfl | rfl <;> simp [sz] at hm <;> refine okB_of (by omega) (by omega) f0 f1 ?_ <;> simp [sz] <;> omega
theorem ok_upper {f b : Int} (h : okB f b = true) (h8 : b < 8) : okB (f + sz (b + 1)) (b + 1) = true := by
  obtain ⟨b0, b8, f0, f1, hm⟩ := (okB_iff f b).1 h
  have k : b = 0 ∨ b = 1 ∨ b = 2 ∨ b = 3 ∨ b = 4 ∨ b = 5 ∨ b = 6 ∨ b = 7 := by omega
  rcases k with rfl | rfl | rfl | rfl | rfl | rfl | rfl | rfl <;> simp [sz] at hm <;> refine okB_of (by omega) (by omega) ?_ ?_ ?_ <;> simp [sz] <;> omega
theorem sz_half {b : Int} (b0 : 0 ≤ b) (h8 : b < 8) : sz b = 2 * sz (b + 1) := by
  have k : b = 0 ∨ b = 1 ∨ b = 2 ∨ b = 3 ∨ b = 4 ∨ b = 5 ∨ b = 6 ∨ b = 7 := by omega
  rcases k with rfl | rfl | rfl | rfl | rfl | rfl | rfl | rfl <;> simp [sz]
/-- one range lies in another just if it is that, or in one of its halves -/
theorem in_halves {g c f b : Int} (hg : okB g c = true) (hf : okB f b = true) (h8 : b < 8) :
    inB g c f b = true ↔ (g = f ∧ c = b) ∨ inB g c f (b + 1) = true ∨ inB g c (f + sz (b + 1)) (b + 1) = true := by
  rw [inB_iff, inB_iff, inB_iff]
  obtain ⟨b0, b8, f0, f1, hm⟩ := (okB_iff f b).1 hf
  have hl := ok_lower hf h8
  have hu := ok_upper hf h8
  have s := sz_half b0 h8
  have sp := sz_bd (b := b + 1) (by omega) (by omega)
  rw [hasB_iff' hf, hasB_iff' hl, hasB_iff' hu]
  constructor
  · rintro ⟨_, h2, h3⟩
    by_cases hc : c = b
    · subst hc
      left
      have := has_same (x := (g, c, 0)) (y := (f, c, 0)) (a := g) (first_has hg) ((hasB_iff' hf).2 h2) rfl
      exact ⟨this, rfl⟩
    · right
      by_cases hh : g < f + sz (b + 1)
      · exact .inl ⟨hg, ⟨h2.1, hh⟩, by omega⟩
      · exact .inr ⟨hg, ⟨by omega, by omega⟩, by omega⟩
  · rintro (⟨rfl, rfl⟩ | ⟨_, h2, h3⟩ | ⟨_, h2, h3⟩)
    · exact ⟨hg, ⟨by omega, by omega⟩, by omega⟩
    · exact ⟨hg, ⟨by omega, by omega⟩, by omega⟩
    · exact ⟨hg, ⟨by omega, by omega⟩, by omega⟩
theorem mem_own (V : VV) (f b : Int) (e : E) : e ∈ ownL V f b ↔ e.1 = f ∧ e.2.1 = b ∧ e.2.2 = V f b ∧ V f b ≠ 0 := by
  obtain ⟨x, y, z⟩ := e
  unfold ownL
  by_cases h : V f b = 0 <;> simp [h]
theorem mem_coll (V : VV) : ∀ (n : Nat) (f b : Int), okB f b = true → b + n = 8 → ∀ e : E, (e ∈ collV V n f b ↔ inB e.1 e.2.1 f b = true ∧ V e.1 e.2.1 = e.2.2 ∧ e.2.2 ≠ 0)
  | 0, f, b, ok, hb, e => by
    unfold collV
    rw [mem_own]
    constructor
    · rintro ⟨h1, h2, h3, h4⟩
      subst h1 h2
      exact ⟨in_refl ok, h3.symm, by rw [h3]; exact h4⟩
    · rintro ⟨h1, h2, h3⟩
      have o := ((inB_iff _ _ _ _).1 h1)
      have o2 := (okB_iff _ _).1 o.1
      have hc : e.2.1 = b := by omega
      have hh : hasB e.1 e.2.1 e.1 = true := first_has o.1
      have := has_same (x := (e.1, e.2.1, 0)) (y := (f, b, 0)) (a := e.1) hh o.2.1 hc
      simp at this
      rw [← this, ← hc]
      exact ⟨rfl, rfl, h2.symm, by rw [h2]; exact h3⟩
  | n + 1, f, b, ok, hb, e => by
    have h8 : b < 8 := by omega
    unfold collV
    rw [List.mem_append, List.mem_append, mem_own, mem_coll V n f (b + 1) (ok_lower ok h8) (by omega) e, mem_coll V n (f + sz (b + 1)) (b + 1) (ok_upper ok h8) (by omega) e]
    constructor
    · rintro ((⟨h1, h2, h3, h4⟩ | ⟨h1, h2⟩) | ⟨h1, h2⟩)
      · subst h1 h2
        exact ⟨in_refl ok, h3.symm, by rw [h3]; exact h4⟩
      · exact ⟨(in_halves ((inB_iff _ _ _ _).1 h1).1 ok h8).2 (.inr (.inl h1)), h2⟩
      · exact ⟨(in_halves ((inB_iff _ _ _ _).1 h1).1 ok h8).2 (.inr (.inr h1)), h2⟩
    · rintro ⟨h1, h2, h3⟩
      rcases (in_halves ((inB_iff _ _ _ _).1 h1).1 ok h8).1 h1 with ⟨k1, k2⟩ | k | k
      · left; left; rw [← k1, ← k2]; exact ⟨rfl, rfl, h2.symm, by rw [h2]; exact h3⟩
      · exact .inl (.inr ⟨k, h2, h3⟩)
      · exact .inr ⟨k, h2, h3⟩
theorem coll_order (V : VV) : ∀ (n : Nat) (f b : Int), okB f b = true → b + n = 8 → (collV V n f b).Pairwise ltE
  | 0, f, b, _, _ => by unfold collV ownL; split <;> simp
  | n + 1, f, b, ok, hb => by
    have h8 : b < 8 := by omega
    have ol := ok_lower ok h8
    have ou := ok_upper ok h8
    have sp := sz_bd (b := b + 1) (by have := (okB_iff _ _).1 ok; omega) (by omega)
    unfold collV
    rw [List.pairwise_append, List.pairwise_append]
    refine ⟨⟨by unfold ownL; split <;> simp, coll_order V n f (b + 1) ol (by omega), fun x hx y hy => ?_⟩, coll_order V n _ (b + 1) ou (by omega), fun x hx y hy => ?_⟩
    · have x1 := (mem_own V f b x).1 hx
      have y1 := (inB_iff _ _ _ _).1 ((mem_coll V n f (b + 1) ol (by omega) y).1 hy).1
      have y2 := (hasB_iff' ol).1 y1.2.1
      unfold ltE; omega
    · have y1 := (inB_iff _ _ _ _).1 ((mem_coll V n _ (b + 1) ou (by omega) y).1 hy).1
      have y2 := (hasB_iff' ou).1 y1.2.1
      rcases List.mem_append.1 hx with hx | hx
      · have x1 := (mem_own V f b x).1 hx
        unfold ltE; omega
      · have x1 := (inB_iff _ _ _ _).1 ((mem_coll V n f (b + 1) ol (by omega) x).1 hx).1
        have x2 := (hasB_iff' ol).1 x1.2.1
        unfold ltE; omega
theorem ok_all : okB 0 0 = true := okB_of (by omega) (by omega) (by omega) (by omega) (by simp)
/-- a trie that holds a table gives it back -/
theorem coll_vis {V : VV} {T : List E} (h : Vis V T) (hT : Good T) : collV V 8 0 0 = T := by
  refine sorted_eq (coll_order V 8 0 0 ok_all (by omega)) hT.2 fun e => ?_
  rw [mem_coll V 8 0 0 ok_all (by omega)]
  constructor
  · rintro ⟨_, h2, h3⟩; exact (h.mem hT e.1 e.2.1 e.2.2).2 ⟨h2, h3⟩
  · intro k
    obtain ⟨h2, h3⟩ := (h.mem hT e.1 e.2.1 e.2.2).1 k
    exact ⟨in_all (hT.ok k), h2, h3⟩
/-- under a node that is not there nothing is collected -/
theorem coll_none (V : VV) : ∀ (n : Nat) (f b : Int), okB f b = true → b + n = 8 → (∀ g c, inB g c f b = true → V g c = 0) → collV V n f b = []
  | n, f, b, ok, hb, h => by
    refine List.eq_nil_iff_forall_not_mem.2 fun e he => ?_
    obtain ⟨h1, h2, h3⟩ := (mem_coll V n f b ok hb e).1 he
    exact h3 (by rw [← h2]; exact h _ _ h1)

/-! putting and dropping -/
def putStep (e : E) (s : List E × Bool) (a : E) : List E × Bool :=
  if cmpI a.1 a.2.1 e.1 e.2.1 = 0 then (if s.2 then s.1 else s.1 ++ [e], true)
  else if s.2 = false ∧ 0 ≤ cmpI a.1 a.2.1 e.1 e.2.1 then (s.1 ++ [e] ++ [a], true) else (s.1 ++ [a], s.2)
def putEnd (e : E) (s : List E × Bool) : List E := if s.2 then s.1 else s.1 ++ [e]
def putM (T : List E) (e : E) : List E := putEnd e (T.foldl (putStep e) ([], false))
def ins (e : E) : List E → List E
  | [] => [e]
  | a :: l => if ltE a e then a :: ins e l else if ltE e a then e :: a :: l else e :: l
theorem put_rest (e : E) : ∀ (T p : List E), (∀ a ∈ T, ltE e a) → T.foldl (putStep e) (p, true) = (p ++ T, true)
  | [], p, _ => by simp
  | a :: T, p, h => by
    have ha := h a (by simp)
    have hc : cmpI a.1 a.2.1 e.1 e.2.1 = 1 := (cmpE_gt a e).2 ha
    have hs : putStep e (p, true) a = (p ++ [a], true) := by simp [putStep, hc]
    rw [List.foldl_cons, hs, put_rest e T (p ++ [a]) (fun x hx => h x (by simp [hx]))]
    simp
theorem put_ins (e : E) : ∀ (T p : List E), T.Pairwise ltE → putEnd e (T.foldl (putStep e) (p, false)) = p ++ ins e T
  | [], p, _ => by simp [putEnd, ins]
  | a :: T, p, h => by
    obtain ⟨h1, h2⟩ := List.pairwise_cons.1 h
    rw [List.foldl_cons]
    by_cases c1 : ltE a e
    · have hc : cmpI a.1 a.2.1 e.1 e.2.1 = -1 := (cmpE_lt a e).2 c1
      have hs : putStep e (p, false) a = (p ++ [a], false) := by simp [putStep, hc]
      rw [hs, put_ins e T (p ++ [a]) h2]
      simp [ins, c1]
    · by_cases c2 : ltE e a
      · have hc : cmpI a.1 a.2.1 e.1 e.2.1 = 1 := (cmpE_gt a e).2 c2
        have hs : putStep e (p, false) a = (p ++ [e] ++ [a], true) := by simp [putStep, hc]
        rw [hs, put_rest e T _ (fun x hx => ltE_trans c2 (h1 x hx))]
        simp [putEnd, ins, c1, c2]
      · have hc : cmpI a.1 a.2.1 e.1 e.2.1 = 0 := by
          refine (cmpE_eq a e).2 ?_; unfold ltE at c1 c2; omega
        have hs : putStep e (p, false) a = (p ++ [e], true) := by simp [putStep, hc]
        rw [hs, put_rest e T _ (fun x hx => by have := h1 x hx; have := (cmpE_eq a e).1 hc; unfold ltE at *; omega)]
        simp [putEnd, ins, c1, c2]
theorem putM_eq {T : List E} (h : T.Pairwise ltE) (e : E) : putM T e = ins e T := by
  have := put_ins e T [] h
  simpa [putM] using this
theorem mem_ins (e : E) : ∀ (T : List E), T.Pairwise ltE → ∀ x, (x ∈ ins e T ↔ x = e ∨ (x ∈ T ∧ ¬ (x.1 = e.1 ∧ x.2.1 = e.2.1)))
  | [], _, x => by simp [ins]
  | a :: T, h, x => by
    obtain ⟨h1, h2⟩ := List.pairwise_cons.1 h
    unfold ins
    by_cases c1 : ltE a e
    · rw [if_pos c1, List.mem_cons, mem_ins e T h2 x, List.mem_cons]
      constructor
      · rintro (rfl | rfl | ⟨k1, k2⟩)
        · right; exact ⟨.inl rfl, by unfold ltE at c1; omega⟩
        · exact .inl rfl
        · exact .inr ⟨.inr k1, k2⟩
      · rintro (rfl | ⟨rfl | k1, k2⟩)
        · exact .inr (.inl rfl)
        · exact .inl rfl
        · exact .inr (.inr ⟨k1, k2⟩)
    · rw [if_neg c1]
      by_cases c2 : ltE e a
      · rw [if_pos c2, List.mem_cons, List.mem_cons]
        constructor
        · rintro (rfl | rfl | k1)
          · exact .inl rfl
          · right; exact ⟨.inl rfl, by unfold ltE at c2; omega⟩
          · right; exact ⟨.inr k1, by have := h1 x k1; unfold ltE at *; omega⟩
        · rintro (rfl | ⟨rfl | k1, k2⟩)
          · exact .inl rfl
          · exact .inr (.inl rfl)
          · exact .inr (.inr k1)
      · rw [if_neg c2, List.mem_cons, List.mem_cons]
        constructor
        · rintro (rfl | k1)
          · exact .inl rfl
          · right; exact ⟨.inr k1, by have := h1 x k1; unfold ltE at *; omega⟩
        · rintro (rfl | ⟨rfl | k1, k2⟩)
          · exact .inl rfl
          · exfalso; unfold ltE at c1 c2; omega
          · exact .inr k1
theorem ins_order (e : E) : ∀ (T : List E), T.Pairwise ltE → (ins e T).Pairwise ltE
  | [], _ => by simp [ins]
  | a :: T, h => by
    obtain ⟨h1, h2⟩ := List.pairwise_cons.1 h
    unfold ins
    by_cases c1 : ltE a e
    · rw [if_pos c1, List.pairwise_cons]
      refine ⟨fun x hx => ?_, ins_order e T h2⟩
      rcases (mem_ins e T h2 x).1 hx with rfl | ⟨k, _⟩
      · exact c1
      · exact h1 x k
    · rw [if_neg c1]
      by_cases c2 : ltE e a
      · rw [if_pos c2, List.pairwise_cons]
        refine ⟨fun x hx => ?_, h⟩
        rcases List.mem_cons.1 hx with rfl | k
        · exact c2
        · exact ltE_trans c2 (h1 x k)
      · rw [if_neg c2, List.pairwise_cons]
        exact ⟨fun x hx => by have := h1 x hx; unfold ltE at *; omega, h2⟩
theorem mem_put {T : List E} (hT : T.Pairwise ltE) (e x : E) : x ∈ putM T e ↔ x = e ∨ (x ∈ T ∧ ¬ (x.1 = e.1 ∧ x.2.1 = e.2.1)) := by
  rw [putM_eq hT]; exact mem_ins e T hT x
theorem good_put {T : List E} (hT : Good T) {e : E} (he : entOk e = true) : Good (putM T e) := by
  refine ⟨fun x hx => ?_, by rw [putM_eq hT.2]; exact ins_order e T hT.2⟩
  rcases (mem_put hT.2 e x).1 hx with rfl | ⟨k, _⟩
  · exact he
  · exact hT.1 x k
theorem vis_put {V : VV} {T : List E} (h : Vis V T) (hT : Good T) (e : E) : Vis (updV V e) (putM T e) := by
  intro f b
  by_cases hfb : f = e.1 ∧ b = e.2.1
  · obtain ⟨rfl, rfl⟩ := hfb
    exact .inl ⟨e.2.2, (mem_put hT.2 e _).2 (.inl rfl), by simp [updV]⟩
  · have hv : updV V e f b = V f b := by simp [updV, hfb]
    rcases h f b with ⟨v, h1, h2⟩ | ⟨h1, h2⟩
    · exact .inl ⟨v, (mem_put hT.2 e _).2 (.inr ⟨h1, hfb⟩), by rw [hv, h2]⟩
    · refine .inr ⟨by rw [hv, h1], fun v k => ?_⟩
      rcases (mem_put hT.2 e _).1 k with k' | ⟨k', _⟩
      · exact hfb ⟨by rw [← k'], by rw [← k']⟩
      · exact h2 v k'
theorem ins_len (e : E) : ∀ (T : List E), (ins e T).length ≤ T.length + 1
  | [] => by simp [ins]
  | a :: T => by
    unfold ins
    have := ins_len e T
    split
    · simp; omega
    · split <;> simp
theorem put_len {T : List E} (hT : Good T) (e : E) : (putM T e).length ≤ T.length + 1 := by rw [putM_eq hT.2]; exact ins_len e T

def dropM (T : List E) (f b : Int) : List E := T.filter fun a => !(decide (a.1 = f ∧ a.2.1 = b))
theorem mem_drop (T : List E) (f b : Int) (x : E) : x ∈ dropM T f b ↔ x ∈ T ∧ ¬ (x.1 = f ∧ x.2.1 = b) := by
  unfold dropM; rw [List.mem_filter]; simp only [Bool.not_eq_true', decide_eq_false_iff_not]
theorem good_drop {T : List E} (hT : Good T) (f b : Int) : Good (dropM T f b) := hT.filter _
theorem vis_drop {V : VV} {T : List E} (h : Vis V T) (f b : Int) : Vis (updV V (f, b, 0)) (dropM T f b) := by
  intro g c
  by_cases hfb : g = f ∧ c = b
  · obtain ⟨rfl, rfl⟩ := hfb
    exact .inr ⟨by simp [updV], fun v k => by have := (mem_drop T g c _).1 k; simp at this⟩
  · have hv : updV V (f, b, 0) g c = V g c := by simp only [updV]; rw [if_neg hfb]
    rcases h g c with ⟨v, h1, h2⟩ | ⟨h1, h2⟩
    · exact .inl ⟨v, (mem_drop T f b _).2 ⟨h1, hfb⟩, by rw [hv, h2]⟩
    · exact .inr ⟨by rw [hv, h1], fun v k => h2 v ((mem_drop T f b _).1 k).1⟩
theorem drop_len (T : List E) (f b : Int) : (dropM T f b).length ≤ T.length := List.length_filter_le _ _
theorem filter_lt {T : List E} (p : E → Bool) : (T.filter p).length < T.length ↔ ∃ x ∈ T, p x = false := by
  induction T with
  | nil => simp
  | cons a l ih =>
    by_cases h : p a = true
    · simp [h, ih]
    · have h' : p a = false := by simpa using h
      have := List.length_filter_le p l
      simp [h']; omega
theorem drop_lt (T : List E) (f b : Int) : (dropM T f b).length < T.length ↔ ∃ x ∈ T, x.1 = f ∧ x.2.1 = b := by
  unfold dropM; rw [filter_lt]
  constructor
  · rintro ⟨x, h1, h2⟩; exact ⟨x, h1, by simpa using h2⟩
  · rintro ⟨x, h1, h2⟩; exact ⟨x, h1, by simpa using h2⟩
theorem vis_found {V : VV} {T : List E} (h : Vis V T) (hT : Good T) (f b : Int) : V f b ≠ 0 ↔ (dropM T f b).length < T.length := by
  rw [drop_lt]
  constructor
  · intro k; exact ⟨_, (h.mem hT f b _).2 ⟨rfl, k⟩, rfl, rfl⟩
  · rintro ⟨x, h1, rfl, rfl⟩
    have := h.of hT h1; have := hT.via h1; omega

/-! the same at each address; what can be left out -/
def sameM (A B : List E) : Bool := (List.range 256).all fun n => findM A (n : Int) == findM B (n : Int)
theorem sameM_iff (A B : List E) : sameM A B = true ↔ ∀ a : Int, 0 ≤ a → a ≤ 255 → findM A a = findM B a := by
  unfold sameM
  rw [List.all_eq_true]
  constructor
  · intro h a a0 a1
    have := h a.toNat (by simp; omega)
    simp only [beq_iff_eq] at this
    rwa [show ((a.toNat : Nat) : Int) = a by omega] at this
  · intro h n hn
    simp at hn
    simpa using h n (by omega) (by omega)
def lessStep (o : List E) (e : E) : List E := if sameM (dropM o e.1 e.2.1) o = true then dropM o e.1 e.2.1 else o
def lessM (T : List E) : List E := T.foldl lessStep T
theorem lessStep_sub (o : List E) (e x : E) (h : x ∈ lessStep o e) : x ∈ o := by
  unfold lessStep at h; split at h
  · exact ((mem_drop _ _ _ _).1 h).1
  · exact h
theorem lessStep_keep (o : List E) (e x : E) (h : x ∈ o) (hne : ¬ (x.1 = e.1 ∧ x.2.1 = e.2.1)) : x ∈ lessStep o e := by
  unfold lessStep; split
  · exact (mem_drop _ _ _ _).2 ⟨h, hne⟩
  · exact h
theorem good_lessStep {o : List E} (h : Good o) (e : E) : Good (lessStep o e) := by unfold lessStep; split; exact good_drop h _ _; exact h
theorem find_lessStep {o : List E} (e : E) {a : Int} (a0 : 0 ≤ a) (a1 : a ≤ 255) : findM (lessStep o e) a = findM o a := by
  unfold lessStep; split
  · exact (sameM_iff _ _).1 (by assumption) a a0 a1
  · rfl
theorem good_lessF : ∀ {T o : List E}, Good o → Good (T.foldl lessStep o)
  | [], _, h => h
  | e :: T, o, h => by rw [List.foldl_cons]; exact good_lessF (good_lessStep h e)
theorem find_lessF : ∀ {T o : List E} {a : Int}, 0 ≤ a → a ≤ 255 → findM (T.foldl lessStep o) a = findM o a
  | [], _, _, _, _ => rfl
  | e :: T, o, a, a0, a1 => by rw [List.foldl_cons, find_lessF a0 a1, find_lessStep e a0 a1]
theorem lessF_sub : ∀ {T o : List E} {x : E}, x ∈ T.foldl lessStep o → x ∈ o
  | [], _, _, h => h
  | e :: _, o, x, h => lessStep_sub o e x (lessF_sub h)
theorem lessF_keep : ∀ {T o : List E} {x : E}, x ∈ o → (∀ e ∈ T, ¬ (x.1 = e.1 ∧ x.2.1 = e.2.1)) → x ∈ T.foldl lessStep o
  | [], _, _, h, _ => h
  | e :: T, o, x, h, hn => by
    rw [List.foldl_cons]
    exact lessF_keep (lessStep_keep o e x h (hn e (by simp))) (fun y hy => hn y (by simp [hy]))
theorem lessF_len : ∀ {T o : List E}, (T.foldl lessStep o).length ≤ o.length
  | [], _ => Nat.le_refl _
  | e :: T, o => Nat.le_trans (lessF_len (T := T)) (by unfold lessStep; split; exact drop_len _ _ _; exact Nat.le_refl _)

end Go.Proofs.Ytnabcffpficgcaa
