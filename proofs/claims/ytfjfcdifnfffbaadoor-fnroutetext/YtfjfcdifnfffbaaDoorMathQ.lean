/-
  Plain arithmetic of reading a path: what a text is read as; its words. No Go in sight.
-/
import Derived.Lib.SplitLaws
import Derived.Lib.AtoiAllCases
import Derived.Test.YtfjfcdifnfffbaaDoorMathP
namespace Go.Proofs.YtfjfcdifnfffbaaDoor

/-- every second byte, unless the text is a point -/
def preadL (s : ByteArray) : List Int := if s = ⟨#[46]⟩ then [] else evens s.data.toList
/-- what a text is read as -/
def pread (s : ByteArray) : List Int × Bool := if s.size = 0 ∨ 9 < s.size ∨ ptext (preadL s) ≠ s then ([], false) else (preadL s, true)
theorem dgt_ne {h : Int} (h1 : 1 ≤ h) (h5 : h ≤ 5) (c : UInt8) (hc : c.toNat < 49) : dgt h ≠ c := fun e => by
  have := congrArg UInt8.toNat e
  rw [dgt_toNat h1 h5] at this
  omega
theorem ptext_nil : ptext [] = ⟨#[46]⟩ := by rw [ptext_yes Path.nil]; rfl
theorem ptext_cons {h : Int} {l : List Int} (hp : Path (h :: l)) : ptext (h :: l) = ⟨(dgt h :: strk l).toArray⟩ := by rw [ptext_yes hp, ptxt_cons]
theorem ptext_point {L : List Int} (hp : Path L) (e : ptext L = ⟨#[46]⟩) : L = [] := ptext_inj hp Path.nil (e.trans ptext_nil.symm)
theorem preadL_yes {L : List Int} (hp : Path L) : preadL (ptext L) = L := by
  cases L with
  | nil => rw [ptext_nil]; rfl
  | cons h l =>
    unfold preadL
    rw [if_neg (fun e => by have := ptext_point hp e; cases this), ptext_cons hp]
    exact evens_txt l h hp.1
theorem pread_yes {L : List Int} (hp : Path L) : pread (ptext L) = (L, true) := by
  unfold pread
  rw [preadL_yes hp, if_neg]
  have := ptext_size hp
  have := ptext_pos hp
  rintro (h | h | h)
  · omega
  · omega
  · exact h rfl
theorem pread_no {s : ByteArray} (h : ∀ L, Path L → s ≠ ptext L) : pread s = ([], false) := by
  unfold pread
  rw [if_pos]
  by_cases k : ptext (preadL s) = s
  · refine .inl ?_
    by_cases hp : Path (preadL s)
    · exact (h _ hp k.symm).elim
    · rw [← k, ptext_no (pOk_no hp)]; rfl
  · exact .inr (.inr k)
theorem pread_or (s : ByteArray) : (∃ L, Path L ∧ s = ptext L ∧ pread s = (L, true)) ∨ ((∀ L, Path L → s ≠ ptext L) ∧ pread s = ([], false)) := by
  by_cases h : ∃ L, Path L ∧ s = ptext L
  · obtain ⟨L, hp, rfl⟩ := h
    exact .inl ⟨L, hp, rfl, pread_yes hp⟩
  · have h' : ∀ L, Path L → s ≠ ptext L := fun L hp e => h ⟨L, hp, e⟩
    exact .inr ⟨h', pread_no h'⟩
theorem pread_len (s : ByteArray) : (pread s).1.length ≤ 5 := by
  rcases pread_or s with ⟨L, hp, _, e⟩ | ⟨_, e⟩
  · rw [e]; exact hp.len
  · rw [e]; simp

/-! words -/
theorem evens_step (l : List UInt8) : ∀ (k : Nat) (c : UInt8), l[2 * k]? = some c → evens (l.take (2 * k + 2)) = evens (l.take (2 * k)) ++ [(c.toNat : Int) - 48] := by
  intro k
  induction k generalizing l with
  | zero =>
    intro c h
    match l, h with
    | [a], h => simp at h; subst h; simp [evens]
    | a :: b :: l, h => simp at h; subst h; simp [evens]
  | succ k ih =>
    intro c h
    match l, h with
    | [], h => simp at h
    | [a], h => simp at h
    | a :: b :: l, h =>
      have h' : l[2 * k]? = some c := by
        have e : 2 * (k + 1) = (2 * k) + 1 + 1 := by omega
        rw [e, List.getElem?_cons_succ, List.getElem?_cons_succ] at h
        exact h
      have ih' := ih l c h'
      have e1 : 2 * (k + 1) + 2 = (2 * k + 2) + 1 + 1 := by omega
      have e2 : 2 * (k + 1) = (2 * k) + 1 + 1 := by omega
      rw [e1, e2, List.take_succ_cons, List.take_succ_cons, List.take_succ_cons, List.take_succ_cons, evens, evens, ih', List.cons_append]
theorem evens_len : ∀ l : List UInt8, (evens l).length ≤ l.length
  | [] => by simp [evens]
  | [a] => by simp [evens]
  | a :: b :: l => by have := evens_len l; simp only [evens, List.length_cons]; omega

theorem strk_count : ∀ l : List Int, (∀ g ∈ l, 1 ≤ g ∧ g ≤ 5) → (strk l).count 45 = l.length
  | [], _ => rfl
  | h :: l, k => by
    have h1 := k h (List.mem_cons_self ..)
    have ih := strk_count l (fun x hx => k x (List.mem_cons_of_mem _ hx))
    have hd := dgt_ne h1.1 h1.2 45 (by decide)
    rw [strk, List.count_cons_self, List.count_cons_of_ne (by simpa using hd), ih, List.length_cons]
theorem spl_txt : ∀ (l : List Int) (h : Int), (∀ g ∈ h :: l, 1 ≤ g ∧ g ≤ 5) → Lib.splitK [45] 0 l.length (dgt h :: strk l) = (h :: l).map fun g => [dgt g]
  | [], h, _ => rfl
  | g :: l, h, k => by
    have h1 := k h (List.mem_cons_self ..)
    have ih := spl_txt l g (fun x hx => k x (List.mem_cons_of_mem _ hx))
    have hd := dgt_ne h1.1 h1.2 45 (by decide)
    have hi : Lib.index (dgt h :: strk (g :: l)) [45] = 1 := by
      rw [Lib.index_one]
      simp [strk, Lib.indexByte, hd]
    rw [List.length_cons, Lib.splitK, hi]
    simp only [strk, List.map_cons] at ih ⊢
    simpa using ih
theorem words_yes {L : List Int} (hp : Path L) (hne : L ≠ []) : Lib.splitB ⟨#[45]⟩ 0 (Lib.countB (ptext L) ⟨#[45]⟩) (ptext L) = L.map fun h => (⟨#[dgt h]⟩ : ByteArray) := by
  cases L with
  | nil => exact (hne rfl).elim
  | cons h l =>
    have hc : Lib.countB (ptext (h :: l)) ⟨#[45]⟩ = l.length := by
      have h1 := hp.1 h (List.mem_cons_self ..)
      have hd := dgt_ne h1.1 h1.2 45 (by decide)
      have : Lib.countB (ptext (h :: l)) ⟨#[45]⟩ = Lib.count (dgt h :: strk l) [45] := by rw [ptext_cons hp]
      rw [this, Lib.count_one, List.count_cons_of_ne (by simpa using hd), strk_count l (fun x hx => hp.1 x (List.mem_cons_of_mem _ hx))]
    have inj : ∀ a b : ByteArray, a.data.toList = b.data.toList → a = b := fun a b e => ByteArray.ext (by simpa using e)
    refine (List.map_inj_right inj).1 ?_
    rw [Lib.splitB_data, hc, ptext_cons hp]
    have := spl_txt l h hp.1
    rw [List.map_map]
    exact this
theorem atoi_dgt : ∀ n, n < 6 → 1 ≤ n → Lib.atoiAll [UInt8.ofNat (48 + n)] = .ok (n : Int) := by decide +kernel
theorem atoi_house {h : Int} (h1 : 1 ≤ h) (h5 : h ≤ 5) : Lib.atoiAll [dgt h] = .ok h := by
  have := atoi_dgt h.toNat (by omega) (by omega)
  rw [Int.toNat_of_nonneg (by omega)] at this
  exact this
/-- the words of a text -/
def wordsB (s : ByteArray) : List ByteArray := Lib.splitB ⟨#[45]⟩ 0 (Lib.countB s ⟨#[45]⟩) s
theorem words_len (s : ByteArray) : (wordsB s).length = Lib.countB s ⟨#[45]⟩ + 1 := Lib.splitB_all _ (by decide) 0 _ s rfl
theorem words_many (s : ByteArray) : (wordsB s).length ≤ s.size + 1 := by
  rw [words_len]; have := Lib.countB_le ⟨#[45]⟩ (by decide) s.size s (Nat.le_refl _); omega
theorem splitB_sizes (sep : ByteArray) : ∀ (k : Nat) (s x : ByteArray), x ∈ Lib.splitB sep 0 k s → x.size ≤ s.size
  | 0, s, x, h => by simp [Lib.splitB] at h; subst h; exact Nat.le_refl _
  | k + 1, s, x, h => by
    unfold Lib.splitB at h
    split at h
    · simp at h; subst h; exact Nat.le_refl _
    · rcases List.mem_cons.1 h with rfl | h
      · rw [ByteArray.size_extract]; omega
      · have := splitB_sizes sep k _ x h
        rw [ByteArray.size_extract] at this; omega
theorem words_size {s x : ByteArray} (h : x ∈ wordsB s) : x.size ≤ s.size := splitB_sizes _ _ s x h
theorem words_of {L : List Int} {s : ByteArray} (hp : Path L) (hs : s = ptext L) (hd : s ≠ ⟨#[46]⟩) : wordsB s = L.map fun h => (⟨#[dgt h]⟩ : ByteArray) := by
  subst hs
  exact words_yes hp (fun e => hd (by rw [e]; exact ptext_nil))
/-- a word that is no number: no path has the text -/
theorem word_bad {s x : ByteArray} (hd : s ≠ ⟨#[46]⟩) (hx : x ∈ wordsB s) (hb : ∀ v, Lib.atoiAll x.data.toList ≠ .ok v) : ∀ L, Path L → s ≠ ptext L := fun L hp e => by
  rw [words_of hp e hd] at hx
  obtain ⟨h, hh, rfl⟩ := List.mem_map.1 hx
  exact hb h (atoi_house (hp.1 h hh).1 (hp.1 h hh).2)
/-- the numbers of the first k words -/
def Vals (s : ByteArray) (k : Nat) (M : List Int) : Prop := M.length = k ∧ ∀ (j : Nat) (x : ByteArray), j < k → (wordsB s)[j]? = some x → ∃ v, M[j]? = some v ∧ Lib.atoiAll x.data.toList = .ok v
theorem Vals.nil (s : ByteArray) : Vals s 0 [] := ⟨rfl, fun j x h => by omega⟩
theorem Vals.snoc {s x : ByteArray} {k : Nat} {M : List Int} {v : Int} (h : Vals s k M) (hx : (wordsB s)[k]? = some x) (hv : Lib.atoiAll x.data.toList = .ok v) : Vals s (k + 1) (M ++ [v]) := by
  refine ⟨by simp [h.1], fun j y hj hy => ?_⟩
  by_cases e : j = k
  · subst e
    rw [hx] at hy
    obtain rfl : x = y := Option.some.inj hy
    exact ⟨v, by rw [List.getElem?_append_right (by rw [h.1]; exact Nat.le_refl _), h.1]; simp, hv⟩
  · obtain ⟨u, h1, h2⟩ := h.2 j y (by omega) hy
    exact ⟨u, by rw [List.getElem?_append_left (by rw [h.1]; omega)]; exact h1, h2⟩
theorem Vals.is {s : ByteArray} {L M : List Int} (h : Vals s (wordsB s).length M) (hp : Path L) (hs : s = ptext L) (hd : s ≠ ⟨#[46]⟩) : M = L := by
  have hw := words_of hp hs hd
  have hl : M.length = L.length := by rw [h.1, hw]; simp
  refine List.ext_getElem? fun j => ?_
  by_cases hj : j < L.length
  · have e : (wordsB s)[j]? = some ⟨#[dgt L[j]]⟩ := by rw [hw]; simp [hj]
    obtain ⟨v, h1, h2⟩ := h.2 j _ (by rw [hw]; simpa using hj) e
    have h3 := atoi_house (hp.1 L[j] (List.getElem_mem hj)).1 (hp.1 L[j] (List.getElem_mem hj)).2
    have h4 : (Lib.NumEnd.ok v : Lib.NumEnd Int) = .ok L[j] := h2.symm.trans h3
    have h5 : v = L[j] := by injection h4
    rw [h1, h5, List.getElem?_eq_getElem hj]
  · rw [List.getElem?_eq_none (by omega), List.getElem?_eq_none (by omega)]
theorem bytes_ne {a b : ByteArray} (h : a ≠ b) : (a.toList == b.toList) = false := by rw [text_eq]; exact decide_eq_false h
theorem bytes_eq (a : ByteArray) : (a.toList == a.toList) = true := by simp
end Go.Proofs.YtfjfcdifnfffbaaDoor
