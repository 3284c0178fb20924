/-
  Plain arithmetic of paths: houses, each once; their texts; their order. No Go in sight.
-/
import Derived.Lib.Join
import Derived.Lib.ItoaNum
namespace Go.Proofs.YthkaaamgkmmeeaaDoor

def isH (h : Int) : Bool := decide (1 ≤ h ∧ h ≤ 5)
theorem isH_iff (h : Int) : isH h = true ↔ 1 ≤ h ∧ h ≤ 5 := by simp [isH]
theorem isH_no {h : Int} (k : isH h = false) : ¬ (1 ≤ h ∧ h ≤ 5) := by simpa [isH] using k

/-- a path: houses, each once -/
def Path (L : List Int) : Prop := (∀ h ∈ L, 1 ≤ h ∧ h ≤ 5) ∧ L.Nodup
instance (L : List Int) : Decidable (Path L) := inferInstanceAs (Decidable (_ ∧ _))
def pOk (L : List Int) : Bool := decide (Path L)
theorem pOk_iff (L : List Int) : pOk L = true ↔ Path L := by simp [pOk]
theorem pOk_yes {L : List Int} (h : Path L) : pOk L = true := (pOk_iff L).2 h
theorem pOk_no {L : List Int} (h : ¬ Path L) : pOk L = false := by simp [pOk, h]
theorem Path.nil : Path [] := ⟨fun _ h => (by cases h), List.nodup_nil⟩
theorem path_cons {h : Int} {L : List Int} : Path (h :: L) ↔ (1 ≤ h ∧ h ≤ 5) ∧ h ∉ L ∧ Path L := by
  unfold Path
  rw [List.nodup_cons]
  constructor
  · rintro ⟨a, b, c⟩
    exact ⟨a h (List.mem_cons_self ..), b, fun x hx => a x (List.mem_cons_of_mem _ hx), c⟩
  · rintro ⟨a, b, c, d⟩
    refine ⟨fun x hx => ?_, b, d⟩
    rcases List.mem_cons.1 hx with rfl | hx
    · exact a
    · exact c x hx
theorem path_snoc {h : Int} {L : List Int} : Path (L ++ [h]) ↔ Path L ∧ (1 ≤ h ∧ h ≤ 5) ∧ h ∉ L := by
  unfold Path
  rw [List.nodup_append]
  constructor
  · rintro ⟨a, b, c, d⟩
    exact ⟨⟨fun x hx => a x (by simp [hx]), b⟩, a h (by simp), fun hh => d h hh h (by simp) rfl⟩
  · rintro ⟨⟨a, b⟩, c, d⟩
    refine ⟨fun x hx => ?_, b, by simp, fun x hx y hy => ?_⟩
    · rcases List.mem_append.1 hx with hx | hx
      · exact a x hx
      · simp at hx; subst hx; exact c
    · simp at hy; subst hy; rintro rfl; exact d hx
theorem Path.sub {L M : List Int} (h : Path L) (k : M.Sublist L) : Path M := ⟨fun x hx => h.1 x (k.subset hx), h.2.sublist k⟩
theorem Path.take {L : List Int} (h : Path L) (k : Nat) : Path (L.take k) := h.sub (List.take_sublist k L)
theorem Path.drop {L : List Int} (h : Path L) (k : Nat) : Path (L.drop k) := h.sub (List.drop_sublist k L)
theorem path_take_all {L : List Int} : (∀ k, k < L.length → Path (L.take (k + 1))) → Path L := by
  intro h
  cases hl : L.length with
  | zero => rw [List.eq_nil_of_length_eq_zero hl]; exact Path.nil
  | succ n => have := h n (by omega); rwa [List.take_of_length_le (by omega)] at this

/-- how many of the houses 1 to n are on a path -/
def cntH (L : List Int) : Nat → Nat
  | 0 => 0
  | n + 1 => cntH L n + if ((n + 1 : Nat) : Int) ∈ L then 1 else 0
theorem cntH_same {L M : List Int} : ∀ n : Nat, (∀ x : Int, x ≤ n → (x ∈ L ↔ x ∈ M)) → cntH L n = cntH M n
  | 0, _ => rfl
  | n + 1, h => by
    have ih := cntH_same n (L := L) (M := M) (fun x hx => h x (by omega))
    have e := h ((n + 1 : Nat) : Int) (Int.le_refl _)
    simp only [cntH, ih, e]
theorem cntH_len : ∀ (n : Nat) (L : List Int), (∀ h ∈ L, 1 ≤ h ∧ h ≤ n) → L.Nodup → cntH L n = L.length
  | 0, L, h, _ => by
    cases L with
    | nil => rfl
    | cons a l => have := h a (List.mem_cons_self ..); omega
  | n + 1, L, h, hn => by
    by_cases hm : ((n + 1 : Nat) : Int) ∈ L
    · have ih := cntH_len n (L.erase ((n + 1 : Nat) : Int)) (fun x hx => by
        have h1 := h x (List.mem_of_mem_erase hx)
        have h2 : x ≠ ((n + 1 : Nat) : Int) := fun e => by subst e; exact (hn.not_mem_erase) hx
        omega) (hn.erase _)
      rw [List.length_erase_of_mem hm] at ih
      have e : cntH L n = cntH (L.erase ((n + 1 : Nat) : Int)) n := cntH_same n fun x hx => by
        rw [List.mem_erase_of_ne (by omega)]
      have hl := List.length_pos_of_mem hm
      simp only [cntH, if_pos hm, e, ih]
      omega
    · have ih := cntH_len n L (fun x hx => by
        have h1 := h x hx
        have h2 : x ≠ ((n + 1 : Nat) : Int) := fun e => by subst e; exact hm hx
        omega) hn
      simp only [cntH, if_neg hm, ih]
      omega
theorem cntH_le (L : List Int) : ∀ n, cntH L n ≤ n
  | 0 => Nat.le_refl _
  | n + 1 => by have := cntH_le L n; simp only [cntH]; split <;> omega
theorem Path.count {L : List Int} (h : Path L) : cntH L 5 = L.length := cntH_len 5 L h.1 h.2
theorem Path.len {L : List Int} (h : Path L) : L.length ≤ 5 := by rw [← h.count]; exact cntH_le L 5

/-- is a house on a path -/
def pHas (L : List Int) (h : Int) : Bool := pOk L && decide (h ∈ L)
theorem pHas_yes {L : List Int} (h : Path L) (x : Int) : pHas L x = decide (x ∈ L) := by simp [pHas, pOk_yes h]

/-- the bits of the houses on a path -/
def bitsH : List Int → Nat
  | [] => 0
  | h :: L => bitsH L ||| 1 <<< h.toNat
theorem bits_step : ∀ m, m < 64 → ∀ h, h < 6 → m ||| 1 <<< h < 64 := by decide +kernel
theorem bits_lt : ∀ {L : List Int}, (∀ h ∈ L, 1 ≤ h ∧ h ≤ 5) → bitsH L < 64
  | [], _ => by decide
  | h :: L, k => by
    have h1 := k h (List.mem_cons_self ..)
    exact bits_step _ (bits_lt (L := L) fun x hx => k x (List.mem_cons_of_mem _ hx)) _ (by omega)
theorem bits_on : ∀ m, m < 64 → ∀ h, h < 6 → ∀ g, g < 6 → (m ||| 1 <<< h).testBit g = (m.testBit g || decide (h = g)) := by decide +kernel
theorem bits_has : ∀ {L : List Int}, (∀ h ∈ L, 1 ≤ h ∧ h ≤ 5) → ∀ {g : Int}, 1 ≤ g → g ≤ 5 → (bitsH L).testBit g.toNat = decide (g ∈ L)
  | [], _, g, _, _ => by simp [bitsH]
  | h :: L, k, g, g1, g5 => by
    have h1 := k h (List.mem_cons_self ..)
    have k' : ∀ h ∈ L, 1 ≤ h ∧ h ≤ 5 := fun x hx => k x (List.mem_cons_of_mem _ hx)
    rw [bitsH, bits_on _ (bits_lt k') _ (by omega) _ (by omega), bits_has k' g1 g5]
    by_cases e : g = h
    · subst e; simp
    · have : ¬ h.toNat = g.toNat := by omega
      simp [e, this]

/-! texts -/
def dgt (h : Int) : UInt8 := UInt8.ofNat (48 + h.toNat)
def ptxt (L : List Int) : List UInt8 := if L = [] then [46] else Lib.join (L.map fun h => [dgt h]) [45]
def ptext (L : List Int) : ByteArray := if pOk L = true then ⟨(ptxt L).toArray⟩ else ⟨#[]⟩
theorem dgt_toNat {h : Int} (h1 : 1 ≤ h) (h5 : h ≤ 5) : (dgt h).toNat = 48 + h.toNat := by
  unfold dgt
  rw [UInt8.toNat_ofNat']
  omega
theorem dgt_inj {h g : Int} (h1 : 1 ≤ h) (h5 : h ≤ 5) (g1 : 1 ≤ g) (g5 : g ≤ 5) (e : dgt h = dgt g) : h = g := by
  have := congrArg UInt8.toNat e
  rw [dgt_toNat h1 h5, dgt_toNat g1 g5] at this
  omega
/-- every second byte is a house -/
def evens : List UInt8 → List Int
  | [] => []
  | [a] => [(a.toNat : Int) - 48]
  | a :: _ :: l => ((a.toNat : Int) - 48) :: evens l
def strk : List Int → List UInt8
  | [] => []
  | h :: l => 45 :: dgt h :: strk l
theorem joinTail_strk : ∀ L : List Int, Lib.joinTail [45] (L.map fun h => [dgt h]) = strk L
  | [] => rfl
  | h :: l => by
    have ih := joinTail_strk l
    simp only [Lib.joinTail, List.map_cons, List.flatten_cons] at ih ⊢
    rw [ih]
    rfl
theorem ptxt_cons (h : Int) (L : List Int) : ptxt (h :: L) = dgt h :: strk L := by
  unfold ptxt
  rw [if_neg (by simp), List.map_cons, Lib.join_cons, joinTail_strk]
  rfl
theorem strk_len : ∀ L : List Int, (strk L).length = 2 * L.length
  | [] => rfl
  | h :: l => by have := strk_len l; simp only [strk, List.length_cons, this]; omega
theorem evens_txt : ∀ (L : List Int) (h : Int), (∀ g ∈ h :: L, 1 ≤ g ∧ g ≤ 5) → evens (dgt h :: strk L) = h :: L
  | [], h, k => by
    have h1 := k h (List.mem_cons_self ..)
    simp only [strk, evens, dgt_toNat h1.1 h1.2]
    congr 1; omega
  | g :: l, h, k => by
    have h1 := k h (List.mem_cons_self ..)
    have ih := evens_txt l g (fun x hx => k x (List.mem_cons_of_mem _ hx))
    simp only [strk, evens, dgt_toNat h1.1 h1.2]
    rw [ih]
    congr 1; omega
theorem ptxt_len {L : List Int} (h : Path L) : (ptxt L).length ≤ 9 := by
  cases L with
  | nil => simp [ptxt]
  | cons a l =>
    have := h.len
    rw [ptxt_cons, List.length_cons, strk_len]
    simp at this; omega
theorem ptxt_pos (L : List Int) : 0 < (ptxt L).length := by
  cases L with
  | nil => simp [ptxt]
  | cons a l => rw [ptxt_cons]; simp
theorem ptxt_inj {L M : List Int} (hL : Path L) (hM : Path M) (e : ptxt L = ptxt M) : L = M := by
  have pt : ∀ h : Int, 1 ≤ h → h ≤ 5 → dgt h ≠ 46 := fun h h1 h5 e => by
    have := congrArg UInt8.toNat e
    rw [dgt_toNat h1 h5] at this
    simp at this; omega
  cases L with
  | nil =>
    cases M with
    | nil => rfl
    | cons b m =>
      rw [ptxt_cons] at e
      have h1 := hM.1 b (List.mem_cons_self ..)
      simp only [ptxt, if_true, List.cons.injEq] at e
      exact (pt b h1.1 h1.2 e.1.symm).elim
  | cons a l =>
    cases M with
    | nil =>
      rw [ptxt_cons] at e
      have h1 := hL.1 a (List.mem_cons_self ..)
      simp only [ptxt, if_true, List.cons.injEq] at e
      exact (pt a h1.1 h1.2 e.1).elim
    | cons b m =>
      rw [ptxt_cons, ptxt_cons] at e
      rw [← evens_txt l a hL.1, ← evens_txt m b hM.1, e]
theorem ptext_yes {L : List Int} (h : Path L) : ptext L = ⟨(ptxt L).toArray⟩ := by simp [ptext, pOk_yes h]
theorem ptext_no {L : List Int} (h : pOk L = false) : ptext L = ⟨#[]⟩ := by simp [ptext, h]
theorem ptext_size {L : List Int} (h : Path L) : (ptext L).size ≤ 9 := by
  rw [ptext_yes h]
  have := ptxt_len h
  show (ptxt L).toArray.size ≤ 9
  simpa using this
theorem ptext_pos {L : List Int} (h : Path L) : 0 < (ptext L).size := by
  rw [ptext_yes h]
  have := ptxt_pos L
  show 0 < (ptxt L).toArray.size
  simpa using this
theorem ptext_inj {L M : List Int} (hL : Path L) (hM : Path M) (e : ptext L = ptext M) : L = M := by
  rw [ptext_yes hL, ptext_yes hM] at e
  refine ptxt_inj hL hM ?_
  have := congrArg (fun b => b.data.toList) e
  simpa using this
theorem text_eq {a b : ByteArray} : (a.toList == b.toList) = decide (a = b) := by
  rw [Bool.eq_iff_iff, beq_iff_eq, decide_eq_true_eq]
  constructor
  · intro k; exact ByteArray.ext (by simpa [ByteArray.toList_eq] using k)
  · rintro rfl; rfl
theorem ptexts_eq {L M : List Int} (hL : Path L) (hM : Path M) : decide (ptext L = ptext M) = decide (L = M) := by
  rw [Bool.eq_iff_iff, decide_eq_true_eq, decide_eq_true_eq]
  exact ⟨ptext_inj hL hM, fun e => by rw [e]⟩

/-! order -/
def cmpL : List Int → List Int → Int
  | a :: l, b :: m => if a < b then -1 else if b < a then 1 else cmpL l m
  | _, _ => 0
def lcmp (L M : List Int) : Int := if L.length < M.length then -1 else if M.length < L.length then 1 else cmpL L M
def pcmp (L M : List Int) : Int := if pOk L && pOk M then lcmp L M else 0
theorem cmpL_neg : ∀ L M : List Int, cmpL M L = - cmpL L M
  | [], [] => rfl
  | [], _ :: _ => rfl
  | _ :: _, [] => rfl
  | a :: l, b :: m => by
    have ih := cmpL_neg l m
    simp only [cmpL]
    split <;> split <;> first | omega | (split <;> omega) | skip
    all_goals first | omega | rfl | (exact ih)
theorem cmpL_zero : ∀ L M : List Int, L.length = M.length → (cmpL L M = 0 ↔ L = M)
  | [], [], _ => by simp [cmpL]
  | [], _ :: _, h => by simp at h
  | _ :: _, [], h => by simp at h
  | a :: l, b :: m, h => by
    have ih := cmpL_zero l m (by simpa using h)
    simp only [cmpL, List.cons.injEq]
    split
    · constructor
      · intro k; omega
      · rintro ⟨k, _⟩; omega
    · split
      · constructor
        · intro k; omega
        · rintro ⟨k, _⟩; omega
      · rw [ih]
        constructor
        · intro k; exact ⟨by omega, k⟩
        · rintro ⟨_, k⟩; exact k
theorem cmpL_trans : ∀ A B C : List Int, A.length = B.length → B.length = C.length → cmpL A B = -1 → cmpL B C = -1 → cmpL A C = -1
  | [], [], _, _, _, h, _ => by simp [cmpL] at h
  | [], _ :: _, _, h, _, _, _ => by simp at h
  | _ :: _, [], _, h, _, _, _ => by simp at h
  | _ :: _, _ :: _, [], _, h, _, _ => by simp at h
  | a :: l, b :: m, c :: n, h1, h2, k1, k2 => by
    have ih := cmpL_trans l m n (by simpa using h1) (by simpa using h2)
    simp only [cmpL] at k1 k2 ⊢
    by_cases e1 : a < b
    · by_cases e2 : b < c
      · rw [if_pos (by omega)]
      · rw [if_neg e2] at k2
        by_cases e3 : c < b
        · rw [if_pos e3] at k2; omega
        · rw [if_pos (by omega)]
    · rw [if_neg e1] at k1
      by_cases e3 : b < a
      · rw [if_pos e3] at k1; omega
      · rw [if_neg e3] at k1
        by_cases e2 : b < c
        · rw [if_pos (by omega)]
        · rw [if_neg e2] at k2
          by_cases e4 : c < b
          · rw [if_pos e4] at k2; omega
          · rw [if_neg e4] at k2
            rw [if_neg (by omega), if_neg (by omega)]
            exact ih k1 k2
theorem cmpL_vals : ∀ L M : List Int, cmpL L M = -1 ∨ cmpL L M = 0 ∨ cmpL L M = 1
  | [], _ => .inr (.inl (by cases ‹List Int› <;> rfl))
  | _ :: _, [] => .inr (.inl rfl)
  | a :: l, b :: m => by
    have ih := cmpL_vals l m
    simp only [cmpL]
    split
    · exact .inl rfl
    · split
      · exact .inr (.inr rfl)
      · exact ih
theorem lcmp_vals (L M : List Int) : lcmp L M = -1 ∨ lcmp L M = 0 ∨ lcmp L M = 1 := by
  unfold lcmp
  split
  · exact .inl rfl
  · split
    · exact .inr (.inr rfl)
    · exact cmpL_vals L M
theorem lcmp_neg (L M : List Int) : lcmp M L = - lcmp L M := by
  unfold lcmp
  have := cmpL_neg L M
  split <;> split <;> first | omega | (split <;> omega) | skip
  all_goals first | omega | exact this
theorem lcmp_lt {L M : List Int} (h : L.length < M.length) : lcmp L M = -1 := by simp [lcmp, h]
theorem lcmp_zero (L M : List Int) : lcmp L M = 0 ↔ L = M := by
  unfold lcmp
  split
  · constructor
    · intro k; omega
    · rintro rfl; omega
  · split
    · constructor
      · intro k; omega
      · rintro rfl; omega
    · exact cmpL_zero L M (by omega)
theorem lcmp_cons (h : Int) (L M : List Int) : lcmp (h :: L) (h :: M) = lcmp L M := by
  simp [lcmp, cmpL]
theorem lcmp_trans {A B C : List Int} (h1 : lcmp A B = -1) (h2 : lcmp B C = -1) : lcmp A C = -1 := by
  unfold lcmp at *
  by_cases a : A.length < B.length
  · by_cases b : B.length < C.length
    · rw [if_pos (by omega)]
    · rw [if_neg b] at h2
      by_cases c : C.length < B.length
      · rw [if_pos c] at h2; omega
      · rw [if_pos (by omega)]
  · rw [if_neg a] at h1
    by_cases d : B.length < A.length
    · rw [if_pos d] at h1; omega
    · rw [if_neg d] at h1
      by_cases b : B.length < C.length
      · rw [if_pos (by omega)]
      · rw [if_neg b] at h2
        by_cases c : C.length < B.length
        · rw [if_pos c] at h2; omega
        · rw [if_neg c] at h2
          rw [if_neg (by omega), if_neg (by omega)]
          exact cmpL_trans A B C (by omega) (by omega) h1 h2
theorem pcmp_yes {L M : List Int} (hL : Path L) (hM : Path M) : pcmp L M = lcmp L M := by simp [pcmp, pOk_yes hL, pOk_yes hM]
end Go.Proofs.YthkaaamgkmmeeaaDoor
