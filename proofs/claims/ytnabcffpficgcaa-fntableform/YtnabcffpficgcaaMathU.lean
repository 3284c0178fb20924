/-
  Plain arithmetic of tables: what the promises of chapter 2 say of entries. No Go in sight.
-/
import Derived.Test.YtnabcffpficgcaaTabK
namespace Go.Proofs.Ytnabcffpficgcaa

/-- of two ranges that have an address one is in the other just by its bits -/
theorem in_of_has {x e : E} {a : Int} (hx : hasE x a = true) (he : hasE e a = true) : inB e.1 e.2.1 x.1 x.2.1 = decide (x.2.1 ≤ e.2.1) := by
  have ox := ((hasB_iff _ _ _).1 hx).1
  have oe := ((hasB_iff _ _ _).1 he).1
  rw [Bool.eq_iff_iff, decide_eq_true_eq]
  constructor
  · intro h; exact ((inB_iff _ _ _ _).1 h).2.2
  · intro h
    exact (in_iff oe ox).2 (nest oe ox h a he hx)
theorem has_of_in {x e : E} {a : Int} (hi : inB e.1 e.2.1 x.1 x.2.1 = true) (he : hasE e a = true) : hasE x a = true := by
  have oe := ((inB_iff _ _ _ _).1 hi).1
  have ox := ((hasB_iff _ _ _).1 ((inB_iff _ _ _ _).1 hi).2.1).1
  have k := (in_iff oe ox).1 hi
  have h1 := (hasE_iff oe a).1 he
  exact (hasE_iff ox a).2 ⟨by omega, by omega⟩
theorem good_lt {T : List E} (hT : Good T) {i j : Nat} {x y : E} (hx : T[i]? = some x) (hy : T[j]? = some y) (h : i < j) : ltE x y := by
  obtain ⟨i1, e1⟩ := List.getElem?_eq_some_iff.1 hx
  obtain ⟨i2, e2⟩ := List.getElem?_eq_some_iff.1 hy
  have := List.pairwise_iff_getElem.1 hT.2 i j i1 i2 h
  rwa [e1, e2] at this
/-- in a table a later entry that has the address has other bits -/
theorem bits_ne {T : List E} (hT : Good T) {i j : Nat} {x y : E} {a : Int} (hx : T[i]? = some x) (hy : T[j]? = some y) (h : i < j) (h1 : hasE x a = true) (h2 : hasE y a = true) : x.2.1 ≠ y.2.1 := fun e => by
  have h3 := has_same h1 h2 e
  have := good_lt hT hx hy h
  unfold ltE at this; omega

/-! putting -/
def smallB (T : List E) (e : E) (a : Int) : Bool := T.any fun t => (!decide (t.1 = e.1 ∧ t.2.1 = e.2.1) && inB t.1 t.2.1 e.1 e.2.1) && hasE t a
theorem small_iff (T : List E) (e : E) (a : Int) : smallB T e a = true ↔ ∃ t ∈ T, ¬ (t.1 = e.1 ∧ t.2.1 = e.2.1) ∧ inB t.1 t.2.1 e.1 e.2.1 = true ∧ hasE t a = true := by
  unfold smallB
  rw [List.any_eq_true]
  constructor
  · rintro ⟨t, ht, h⟩
    simp only [Bool.and_eq_true, Bool.not_eq_true', decide_eq_false_iff_not] at h
    exact ⟨t, ht, h.1.1, h.1.2, h.2⟩
  · rintro ⟨t, ht, h1, h2, h3⟩
    exact ⟨t, ht, by simp only [Bool.and_eq_true, Bool.not_eq_true', decide_eq_false_iff_not]; exact ⟨⟨h1, h2⟩, h3⟩⟩
theorem find_put {T : List E} (hT : Good T) {e : E} (he : entOk e = true) (a : Int) :
    findM (putM T e) a = if hasE e a = true ∧ smallB T e a = false then e.2.2 else findM T a := by
  have hU := good_put hT he
  by_cases h1 : hasE e a = true
  · cases h2 : smallB T e a with
    | false =>
      rw [if_pos ⟨h1, rfl⟩]
      refine (find_eq hU (.inr ⟨e, (mem_put hT.2 e e).2 (.inl rfl), h1, fun x hx hxa => ?_, rfl⟩)).symm
      rcases (mem_put hT.2 e x).1 hx with rfl | ⟨k1, k2⟩
      · exact Int.le_refl _
      · by_cases hb : x.2.1 ≤ e.2.1
        · exact hb
        · exfalso
          have : smallB T e a = true := (small_iff T e a).2 ⟨x, k1, k2, by rw [in_of_has h1 hxa, decide_eq_true_eq]; omega, hxa⟩
          rw [h2] at this; cases this
    | true =>
      rw [if_neg (by simp)]
      obtain ⟨t, ht, k1, k2, k3⟩ := (small_iff T e a).1 h2
      have hbits : e.2.1 < t.2.1 := by
        have := ((inB_iff _ _ _ _).1 k2).2.2
        by_cases hb : t.2.1 = e.2.1
        · exact absurd ⟨has_same k3 h1 hb, hb⟩ k1
        · omega
      refine (find_eq hU ?_).symm
      rcases find_is T a with ⟨_, z⟩ | ⟨y, y1, y2, y3, y4⟩
      · rw [z t ht] at k3; cases k3
      · have hy := y3 t ht k3
        refine .inr ⟨y, (mem_put hT.2 e y).2 (.inr ⟨y1, by omega⟩), y2, fun x hx hxa => ?_, y4⟩
        rcases (mem_put hT.2 e x).1 hx with rfl | ⟨k, _⟩
        · omega
        · exact y3 x k hxa
  · rw [if_neg (fun h => h1 h.1)]
    refine (find_congr hU fun x hxa => ?_).symm
    rw [mem_put hT.2]
    constructor
    · intro k
      refine .inr ⟨k, fun h => h1 ?_⟩
      have : hasE x a = hasE e a := by unfold hasE; rw [h.1, h.2]
      rw [← this]; exact hxa
    · rintro (rfl | ⟨k, _⟩)
      · exact absurd hxa h1
      · exact k
theorem put_put_same {T : List E} (hT : Good T) {e f : E} (he : entOk e = true) (hf : entOk f = true) (h : f.1 = e.1 ∧ f.2.1 = e.2.1) : putM (putM T e) f = putM T f := by
  refine sorted_eq (good_put (good_put hT he) hf).2 (good_put hT hf).2 fun x => ?_
  rw [mem_put (good_put hT he).2, mem_put hT.2, mem_put hT.2]
  constructor
  · rintro (rfl | ⟨rfl | ⟨k1, k2⟩, k3⟩)
    · exact .inl rfl
    · exact absurd ⟨h.1.symm, h.2.symm⟩ k3
    · exact .inr ⟨k1, k3⟩
  · rintro (rfl | ⟨k1, k2⟩)
    · exact .inl rfl
    · exact .inr ⟨.inr ⟨k1, by omega⟩, k2⟩
theorem put_put_swap {T : List E} (hT : Good T) {e f : E} (he : entOk e = true) (hf : entOk f = true) (h : ¬ (f.1 = e.1 ∧ f.2.1 = e.2.1)) : putM (putM T e) f = putM (putM T f) e := by
  refine sorted_eq (good_put (good_put hT he) hf).2 (good_put (good_put hT hf) he).2 fun x => ?_
  rw [mem_put (good_put hT he).2, mem_put hT.2, mem_put (good_put hT hf).2, mem_put hT.2]
  constructor
  · rintro (rfl | ⟨rfl | ⟨k1, k2⟩, k3⟩)
    · exact .inr ⟨.inl rfl, h⟩
    · exact .inl rfl
    · exact .inr ⟨.inr ⟨k1, k3⟩, k2⟩
  · rintro (rfl | ⟨rfl | ⟨k1, k2⟩, k3⟩)
    · exact .inr ⟨.inl rfl, fun k => h ⟨k.1.symm, k.2.symm⟩⟩
    · exact .inl rfl
    · exact .inr ⟨.inr ⟨k1, k3⟩, k2⟩
theorem put_again {T : List E} (hT : Good T) {e : E} (he : entOk e = true) : putM (putM T e) e = putM T e := put_put_same hT he he ⟨rfl, rfl⟩

/-! dropping -/
theorem put_drop {T : List E} (hT : Good T) {e : E} (he : e ∈ T) : putM (dropM T e.1 e.2.1) e = T := by
  have hD := good_drop hT e.1 e.2.1
  refine sorted_eq (good_put hD (hT.1 e he)).2 hT.2 fun x => ?_
  rw [mem_put hD.2, mem_drop]
  constructor
  · rintro (rfl | ⟨⟨k, _⟩, _⟩)
    · exact he
    · exact k
  · intro k
    by_cases h : x.1 = e.1 ∧ x.2.1 = e.2.1
    · exact .inl (hT.same k he h.1 h.2)
    · exact .inr ⟨⟨k, h⟩, h⟩
theorem drop_none {T : List E} {f b : Int} (h : ∀ x ∈ T, ¬ (x.1 = f ∧ x.2.1 = b)) : dropM T f b = T := by
  unfold dropM
  rw [List.filter_eq_self]
  intro x hx
  rw [Bool.not_eq_true', decide_eq_false_iff_not]; exact h x hx
theorem drop_one {T : List E} (hT : Good T) {e : E} (he : e ∈ T) : (dropM T e.1 e.2.1).length + 1 = T.length := by
  have h1 : (dropM T e.1 e.2.1).length < T.length := (drop_lt T e.1 e.2.1).2 ⟨e, he, rfl, rfl⟩
  have h2 := put_len (good_drop hT e.1 e.2.1) e
  rw [put_drop hT he] at h2
  omega
/-- to drop an entry that has not the address turns nothing there -/
theorem find_drop_far {T : List E} (hT : Good T) {f b a : Int} (h : hasE (f, b, 0) a = false) : findM (dropM T f b) a = findM T a :=
  find_congr hT fun x hxa => by
    rw [mem_drop]
    refine ⟨fun k => k.1, fun k => ⟨k, fun e => ?_⟩⟩
    have : hasE x a = hasE (f, b, 0) a := by unfold hasE; rw [e.1, e.2]
    rw [this, h] at hxa; cases hxa
/-- nor to drop one that a longer one stands before -/
theorem find_drop_under {T : List E} (hT : Good T) {f b a : Int} {y : E} (hy : y ∈ T) (hya : hasE y a = true) (hb : b < y.2.1) : findM (dropM T f b) a = findM T a := by
  refine find_eq hT ?_
  have hm : ∀ x, x ∈ T → b < x.2.1 → x ∈ dropM T f b := fun x hx hxb => (mem_drop T f b x).2 ⟨hx, by omega⟩
  rcases find_is (dropM T f b) a with ⟨_, z⟩ | ⟨x, x1, x2, x3, x4⟩
  · rw [z y (hm y hy hb)] at hya; cases hya
  · have hxy := x3 y (hm y hy hb) hya
    refine .inr ⟨x, ((mem_drop _ _ _ _).1 x1).1, x2, fun e he hea => ?_, x4⟩
    by_cases heb : b < e.2.1
    · exact x3 e (hm e he heb) hea
    · omega

/-! the same at each address -/
theorem same_refl (A : List E) : sameM A A = true := (sameM_iff A A).2 fun _ _ _ => rfl
theorem same_symm (A B : List E) : sameM A B = sameM B A := by
  rw [Bool.eq_iff_iff, sameM_iff, sameM_iff]
  exact ⟨fun h a a0 a1 => (h a a0 a1).symm, fun h a a0 a1 => (h a a0 a1).symm⟩

/-! what can be left out -/
theorem find_drop_ne {U : List E} (hU : Good U) {e : E} {a : Int} (h : findM (dropM U e.1 e.2.1) a ≠ findM U a) : hasE e a = true ∧ ∀ x ∈ U, hasE x a = true → x.2.1 ≤ e.2.1 := by
  constructor
  · by_cases hh : hasE e a = true
    · exact hh
    · exact absurd (find_drop_far hU (f := e.1) (b := e.2.1) (by simpa [hasE] using hh)) h
  · intro x hx hxa
    by_cases hb : x.2.1 ≤ e.2.1
    · exact hb
    · exact absurd (find_drop_under hU hx hxa (by omega)) h
theorem less_least {T : List E} (hT : Good T) {e : E} (he : e ∈ lessM T) : sameM (dropM (lessM T) e.1 e.2.1) T = false := by
  have heT : e ∈ T := lessF_sub he
  obtain ⟨k, hk⟩ := List.mem_iff_getElem?.1 heT
  have hkl : k < T.length := (List.getElem?_eq_some_iff.1 hk).1
  have hX : lessM T = (T.drop (k + 1)).foldl lessStep (outK T (k + 1)) := by
    unfold lessM outK
    rw [← List.foldl_append, List.take_append_drop]
  have gk := outK_good hT k
  have gX : Good (lessM T) := good_lessF hT
  have hne : sameM (dropM (outK T k) e.1 e.2.1) (outK T k) = false := by
    cases hs : sameM (dropM (outK T k) e.1 e.2.1) (outK T k) with
    | false => rfl
    | true =>
      exfalso
      rw [hX] at he
      have h1 := lessF_sub he
      rw [outK_succ hk] at h1
      unfold lessStep at h1
      rw [if_pos hs] at h1
      exact ((mem_drop _ _ _ _).1 h1).2 ⟨rfl, rfl⟩
  have hex : ∃ a : Int, 0 ≤ a ∧ a ≤ 255 ∧ findM (dropM (outK T k) e.1 e.2.1) a ≠ findM (outK T k) a := by
    apply Classical.byContradiction
    intro hc
    have : sameM (dropM (outK T k) e.1 e.2.1) (outK T k) = true := (sameM_iff _ _).2 fun a a0 a1 => by
      apply Classical.byContradiction
      intro h; exact hc ⟨a, a0, a1, h⟩
    rw [hne] at this; cases this
  obtain ⟨a, a0, a1, ha⟩ := hex
  obtain ⟨hea, hbest⟩ := find_drop_ne gk ha
  have hsame : ∀ y, hasE y a = true → (y ∈ outK T k ↔ y ∈ lessM T) := fun y hya => by
    constructor
    · intro hy
      by_cases hye : y.1 = e.1 ∧ y.2.1 = e.2.1
      · rw [hT.same (lessF_sub hy) heT hye.1 hye.2]; exact he
      · have hyT : y ∈ T := lessF_sub hy
        obtain ⟨j, hj⟩ := List.mem_iff_getElem?.1 hyT
        have hjk : j < k := by
          apply Classical.byContradiction
          intro hn
          have hjk' : k < j ∨ j = k := by omega
          rcases hjk' with h | h
          · have hl := good_lt hT hk hj h
            have hb := hbest y hy hya
            have n1 := nest (hT.ok heT) (hT.ok hyT) hb a hea hya
            have hb2 := bits_ne hT hk hj h hea hya
            unfold ltE at hl; omega
          · subst h; rw [hk] at hj; exact hye (by simp at hj; rw [hj]; exact ⟨rfl, rfl⟩)
        rw [hX]
        refine lessF_keep ?_ fun z hz hs => ?_
        · rw [outK_succ hk]; exact lessStep_keep _ _ _ hy hye
        · obtain ⟨i, hi⟩ := List.mem_iff_getElem?.1 hz
          rw [List.getElem?_drop] at hi
          have := good_lt hT hj hi (by omega)
          unfold ltE at this; omega
    · intro hy
      have h2 : outK T T.length = (T.drop k).foldl lessStep (outK T k) := by
        unfold outK
        rw [← List.foldl_append, List.take_append_drop, List.take_length]
      rw [← outK_all, h2] at hy
      exact lessF_sub hy
  have f1 : findM (outK T k) a = findM (lessM T) a := find_congr gX hsame
  have f2 : findM (dropM (outK T k) e.1 e.2.1) a = findM (dropM (lessM T) e.1 e.2.1) a := find_congr (good_drop gX _ _) fun y hya => by
    rw [mem_drop, mem_drop, hsame y hya]
  rw [← Bool.not_eq_true, sameM_iff]
  intro h
  have h3 := h a a0 a1
  rw [← f2] at h3
  rw [show findM T a = findM (outK T k) a from (outK_find k a0 a1).symm] at h3
  exact ha h3
theorem less_same (T : List E) : sameM (lessM T) T = true := (sameM_iff _ _).2 fun _ a0 a1 => find_lessF a0 a1
theorem less_good {T : List E} (hT : Good T) : Good (lessM T) := good_lessF hT
theorem less_len' (T : List E) : (lessM T).length ≤ T.length := lessF_len
theorem less_sub {T : List E} {x : E} (h : x ∈ lessM T) : x ∈ T := lessF_sub h
theorem less_least' {T : List E} (hT : Good T) {e : E} (he : e ∈ lessM T) : sameM (dropM (lessM T) e.1 e.2.1) (lessM T) = false := by
  rw [← less_least hT he]
  exact sameM_right fun a a0 a1 => find_lessF a0 a1
theorem less_twice {T : List E} (hT : Good T) : lessM (lessM T) = lessM T := by
  have key : ∀ (L : List E), (∀ e ∈ L, e ∈ lessM T) → L.foldl lessStep (lessM T) = lessM T := by
    intro L
    induction L with
    | nil => intro _; rfl
    | cons e l ih =>
      intro h
      rw [List.foldl_cons]
      have hs : lessStep (lessM T) e = lessM T := by
        unfold lessStep
        rw [if_neg (by rw [less_least' hT (h e (by simp))]; simp)]
      rw [hs]
      exact ih fun x hx => h x (by simp [hx])
  exact key (lessM T) fun _ h => h

/-! a range of all -/
theorem put_full {T : List E} (hT : Good T) (hl : T.length ≤ 12) {e : E} (h : ¬ (putM T e).length ≤ 12) : T.length = 12 := by
  have := put_len hT e; omega
theorem all_has {a : Int} (a0 : 0 ≤ a) (a1 : a ≤ 255) (v : Int) : hasE (0, 0, v) a = true := (hasE_iff (e := (0, 0, v)) ok_all a).2 ⟨a0, by simp [sz]; omega⟩
theorem find_all {T : List E} (hT : Good T) {a : Int} (a0 : 0 ≤ a) (a1 : a ≤ 255) :
    (findM (dropM T 0 0) a = 0 → findM (putM T (0, 0, 9)) a = 9) ∧ (0 < findM (dropM T 0 0) a → findM (putM T (0, 0, 9)) a = findM (dropM T 0 0) a) := by
  have he : entOk (0, 0, 9) = true := by rw [entOk_iff]; exact ⟨ok_all, (by decide : (1 : Int) ≤ 9), (by decide : (9 : Int) ≤ 9)⟩
  have hU := good_put hT he
  have hD := good_drop hT 0 0
  have hpos : ∀ x ∈ dropM T 0 0, 0 < x.2.1 := fun x hx => by
    obtain ⟨k1, k2⟩ := (mem_drop _ _ _ _).1 hx
    obtain ⟨b0, b8, f0, f1, hm⟩ := (okB_iff _ _).1 (hT.ok k1)
    by_cases hb : x.2.1 = 0
    · exfalso
      rw [hb] at hm
      simp [sz] at hm
      exact k2 ⟨by omega, hb⟩
    · omega
  rcases find_is (dropM T 0 0) a with ⟨z1, z2⟩ | ⟨y, y1, y2, y3, y4⟩
  · refine ⟨fun _ => ?_, fun h => by omega⟩
    refine (find_eq hU (.inr ⟨(0, 0, 9), (mem_put hT.2 _ _).2 (.inl rfl), all_has a0 a1 9, fun x hx hxa => ?_, rfl⟩)).symm
    rcases (mem_put hT.2 _ _).1 hx with rfl | ⟨k1, k2⟩
    · exact Int.le_refl _
    · rw [z2 x ((mem_drop _ _ _ _).2 ⟨k1, k2⟩)] at hxa; cases hxa
  · refine ⟨fun h => ?_, fun _ => ?_⟩
    · have := hD.via y1; omega
    · have hyT := (mem_drop _ _ _ _).1 y1
      refine (find_eq hU (.inr ⟨y, (mem_put hT.2 _ _).2 (.inr hyT), y2, fun x hx hxa => ?_, y4⟩)).symm
      rcases (mem_put hT.2 _ _).1 hx with rfl | ⟨k1, k2⟩
      · have := hpos y y1; show (0 : Int) ≤ _; omega
      · exact y3 x ((mem_drop _ _ _ _).2 ⟨k1, k2⟩) hxa

/-! a range that no other one is in -/
theorem find_alone {T : List E} (hT : Good T) {k : Nat} {r : E} (hk : T[k]? = some r) (h : ∀ i x, T[i]? = some x → i ≠ k → inB x.1 x.2.1 r.1 r.2.1 = false) {a : Int} (ha : hasE r a = true) : findM T a = r.2.2 := by
  refine (find_eq hT (.inr ⟨r, mem_at hk, ha, fun x hx hxa => ?_, rfl⟩)).symm
  by_cases hb : x.2.1 ≤ r.2.1
  · exact hb
  · exfalso
    obtain ⟨i, hi⟩ := List.mem_iff_getElem?.1 hx
    by_cases hik : i = k
    · subst hik; rw [hk] at hi; simp at hi; subst hi; omega
    · have := h i x hi hik
      rw [in_of_has ha hxa] at this
      simp at this; omega

/-! halves -/
theorem half_has {f b a : Int} (ok : okB f b = true) (h8 : b < 8) (h : hasB f b a = true) : hasB f (b + 1) a = true ∨ hasB (f + sz (b + 1)) (b + 1) a = true := by
  obtain ⟨b0, _, _⟩ := (okB_iff f b).1 ok
  have k := (hasB_iff' ok).1 h
  have s := sz_half b0 h8
  rw [hasB_iff' (ok_lower ok h8), hasB_iff' (ok_upper ok h8)]
  omega
theorem half_not {f b a : Int} (ok : okB f b = true) (h8 : b < 8) (h : hasB f b a = false) : hasB f (b + 1) a = false ∧ hasB (f + sz (b + 1)) (b + 1) a = false := by
  obtain ⟨b0, _, _⟩ := (okB_iff f b).1 ok
  have s := sz_half b0 h8
  have sp := sz_bd (b := b + 1) (by omega) (by omega)
  have k : ¬ (f ≤ a ∧ a < f + sz b) := fun k => by rw [(hasB_iff' ok).2 k] at h; cases h
  rw [← Bool.not_eq_true, ← Bool.not_eq_true, hasB_iff' (ok_lower ok h8), hasB_iff' (ok_upper ok h8)]
  omega
/-- a table in which both halves of a range lie: without the range all is as it was -/
theorem same_halves {Z : List E} (hZ : Good Z) {f b v1 v2 : Int} (ok : okB f b = true) (h8 : b < 8) (m1 : (f, b + 1, v1) ∈ Z) (m2 : (f + sz (b + 1), b + 1, v2) ∈ Z) : sameM (dropM Z f b) Z = true := by
  rw [sameM_iff]
  intro a a0 a1
  cases h : hasB f b a with
  | false => exact find_drop_far hZ h
  | true =>
    rcases half_has ok h8 h with k | k
    · exact find_drop_under hZ m1 k (by simp only; omega)
    · exact find_drop_under hZ m2 k (by simp only; omega)
/-- a range parted in two halves -/
theorem same_split {T : List E} (hT : Good T) {f b v : Int} (hr : (f, b, v) ∈ T) (h8 : b < 8) (n1 : ∀ x ∈ T, ¬ (x.1 = f ∧ x.2.1 = b + 1)) (n2 : ∀ x ∈ T, ¬ (x.1 = f + sz (b + 1) ∧ x.2.1 = b + 1)) :
    sameM (putM (putM (dropM T f b) (f, b + 1, v)) (f + sz (b + 1), b + 1, v)) T = true := by
  have ok := hT.ok hr
  have okl : okB f (b + 1) = true := ok_lower ok h8
  have oku : okB (f + sz (b + 1)) (b + 1) = true := ok_upper ok h8
  have hv := hT.via hr
  have hD := good_drop hT f b
  have e1 : entOk (f, b + 1, v) = true := (entOk_iff _).2 ⟨okl, hv.1, hv.2⟩
  have e2 : entOk (f + sz (b + 1), b + 1, v) = true := (entOk_iff _).2 ⟨oku, hv.1, hv.2⟩
  have hY1 := good_put hD e1
  have hY := good_put hY1 e2
  have mem : ∀ x, x ∈ putM (putM (dropM T f b) (f, b + 1, v)) (f + sz (b + 1), b + 1, v) ↔ x = (f + sz (b + 1), b + 1, v) ∨ ((x = (f, b + 1, v) ∨ ((x ∈ T ∧ ¬ (x.1 = f ∧ x.2.1 = b)) ∧ ¬ (x.1 = f ∧ x.2.1 = b + 1))) ∧ ¬ (x.1 = f + sz (b + 1) ∧ x.2.1 = b + 1)) := fun x => by
    rw [mem_put hY1.2, mem_put hD.2, mem_drop]
  have sp := sz_bd (b := b + 1) (by have := (okB_iff _ _).1 ok; simp only at this; omega) (by omega)
  rw [sameM_iff]
  intro a a0 a1
  cases h : hasB f b a with
  | false =>
    obtain ⟨k1, k2⟩ := half_not ok h8 h
    refine find_congr hT fun x hxa => ?_
    rw [mem]
    constructor
    · rintro (rfl | ⟨rfl | ⟨⟨k, _⟩, _⟩, _⟩)
      · have : hasB (f + sz (b + 1)) (b + 1) a = true := hxa
        rw [k2] at this; cases this
      · have : hasB f (b + 1) a = true := hxa
        rw [k1] at this; cases this
      · exact k
    · intro k
      refine .inr ⟨.inr ⟨⟨k, fun e => ?_⟩, n1 x k⟩, n2 x k⟩
      have : hasE x a = hasB f b a := by unfold hasE; rw [e.1, e.2]
      rw [this, h] at hxa; cases hxa
  | true =>
    obtain ⟨hf, hhf, hhm⟩ : ∃ g, hasB g (b + 1) a = true ∧ (g, b + 1, v) ∈ putM (putM (dropM T f b) (f, b + 1, v)) (f + sz (b + 1), b + 1, v) ∧ (g = f ∨ g = f + sz (b + 1)) := by
      rcases half_has ok h8 h with k | k
      · exact ⟨f, k, (mem _).2 (.inr ⟨.inl rfl, fun e => by simp only at e; omega⟩), .inl rfl⟩
      · exact ⟨f + sz (b + 1), k, (mem _).2 (.inl rfl), .inr rfl⟩
    rcases find_is T a with ⟨_, z⟩ | ⟨y, y1, y2, y3, y4⟩
    · have := z _ hr
      rw [show hasE (f, b, v) a = hasB f b a from rfl, h] at this; cases this
    · have hby := y3 _ hr h
      simp only at hby
      by_cases hyr : y.2.1 = b
      · have hyf : y.1 = f := has_same (x := y) (y := (f, b, v)) y2 h hyr
        obtain rfl : y = (f, b, v) := hT.same y1 hr hyf hyr
        rw [y4]
        refine (find_eq hY (.inr ⟨(hf, b + 1, v), hhm.1, hhf, fun x hx hxa => ?_, rfl⟩)).symm
        rcases (mem x).1 hx with rfl | ⟨rfl | ⟨⟨k, _⟩, _⟩, _⟩
        · exact Int.le_refl _
        · exact Int.le_refl _
        · have := y3 x k hxa; simp only at this ⊢; omega
      · have hy2 : b + 1 < y.2.1 := by
          by_cases hh : y.2.1 = b + 1
          · exfalso
            have hyf : y.1 = hf := has_same (x := y) (y := (hf, b + 1, v)) y2 hhf hh
            rcases hhm.2 with e | e
            · exact n1 y y1 ⟨by rw [hyf, e], hh⟩
            · exact n2 y y1 ⟨by rw [hyf, e], hh⟩
          · omega
        rw [y4]
        refine (find_eq hY (.inr ⟨y, (mem y).2 (.inr ⟨.inr ⟨⟨y1, by omega⟩, by omega⟩, by omega⟩), y2, fun x hx hxa => ?_, rfl⟩)).symm
        rcases (mem x).1 hx with rfl | ⟨rfl | ⟨⟨k, _⟩, _⟩, _⟩
        · simp only; omega
        · simp only; omega
        · exact y3 x k hxa

/-! the form of a table -/
theorem take_good {T : List E} (hT : Good T) (k : Nat) : Good (T.take k) := ⟨fun e he => hT.1 e (List.mem_of_mem_take he), hT.2.take⟩
end Go.Proofs.Ytnabcffpficgcaa
