/-
  The text of a path as a seal's key writes it: each number, and a space behind it: two paths have two texts.
-/
import Derived.Lib.ItoaLen
namespace Go.Proofs.YtnnmgbgkgnejlaaDoor
open Go.Lib (itoa decDigits)
set_option linter.unusedSimpArgs false
set_option linter.unusedVariables false

def dval (l : List UInt8) : Nat := l.foldl (fun a c => a * 10 + (c.toNat - 48)) 0
theorem dec_small {u : Nat} (h : u < 10) : decDigits u = [UInt8.ofNat (48 + u)] := by rw [decDigits, dif_pos h]
theorem dec_more {u : Nat} (h : ¬ u < 10) : decDigits u = decDigits (u / 10) ++ [UInt8.ofNat (48 + u % 10)] := by
  conv => lhs; rw [decDigits, dif_neg h]
theorem dig_nat {k : Nat} (h : k < 10) : (UInt8.ofNat (48 + k)).toNat = 48 + k := by
  rw [UInt8.toNat_ofNat']; omega
theorem dec_all : ∀ (n u : Nat), u ≤ n → dval (decDigits u) = u ∧ ∀ c ∈ decDigits u, 48 ≤ c.toNat := by
  intro n
  induction n with
  | zero =>
    intro u hu
    rw [dec_small (by omega)]
    refine ⟨?_, fun c hc => ?_⟩
    · simp only [dval, List.foldl_cons, List.foldl_nil]; rw [dig_nat (by omega)]; omega
    · simp only [List.mem_singleton] at hc; subst hc; rw [dig_nat (by omega)]; omega
  | succ n ih =>
    intro u hu
    by_cases h : u < 10
    · rw [dec_small h]
      refine ⟨?_, fun c hc => ?_⟩
      · simp only [dval, List.foldl_cons, List.foldl_nil]; rw [dig_nat h]; omega
      · simp only [List.mem_singleton] at hc; subst hc; rw [dig_nat h]; omega
    · have hi := ih (u / 10) (by omega)
      rw [dec_more h]
      refine ⟨?_, fun c hc => ?_⟩
      · have e := hi.1
        unfold dval at e ⊢
        rw [List.foldl_append, e]
        simp only [List.foldl_cons, List.foldl_nil]
        rw [dig_nat (by omega)]; omega
      · rcases List.mem_append.1 hc with k | k
        · exact hi.2 c k
        · simp only [List.mem_singleton] at k; subst k; rw [dig_nat (by omega)]; omega
theorem dec_val (u : Nat) : dval (decDigits u) = u := (dec_all u u (Nat.le_refl _)).1
theorem dec_ge {u : Nat} {c : UInt8} (h : c ∈ decDigits u) : 48 ≤ c.toNat := (dec_all u u (Nat.le_refl _)).2 c h
theorem dec_inj {u v : Nat} (h : decDigits u = decDigits v) : u = v := by rw [← dec_val u, h, dec_val]
theorem itoa_cases (z : Int) : (z < 0 ∧ itoa z = 45 :: decDigits z.natAbs) ∨ (0 ≤ z ∧ itoa z = decDigits z.natAbs) := by
  unfold itoa
  by_cases h : z < 0
  · exact .inl ⟨h, by rw [if_pos h]⟩
  · exact .inr ⟨by omega, by rw [if_neg h, show z.toNat = z.natAbs by omega]⟩
theorem dec_no45 (u : Nat) (l : List UInt8) : decDigits u ≠ 45 :: l := fun e => by
  have h := dec_ge (u := u) (c := 45) (by rw [e]; exact List.mem_cons_self)
  revert h; decide
theorem itoa_inj {x y : Int} (h : itoa x = itoa y) : x = y := by
  rcases itoa_cases x with ⟨hx, ex⟩ | ⟨hx, ex⟩ <;> rcases itoa_cases y with ⟨hy, ey⟩ | ⟨hy, ey⟩ <;> rw [ex, ey] at h
  · have := dec_inj (List.cons.inj h).2; omega
  · exact (dec_no45 _ _ h.symm).elim
  · exact (dec_no45 _ _ h).elim
  · have := dec_inj h; omega
theorem itoa_no32 (x : Int) : (32 : UInt8) ∉ itoa x := fun h => by
  have no : ∀ u, (32 : UInt8) ∉ decDigits u := fun u k => by have := dec_ge k; revert this; decide
  rcases itoa_cases x with ⟨hx, ex⟩ | ⟨hx, ex⟩ <;> rw [ex] at h
  · rcases List.mem_cons.1 h with k | k
    · revert k; decide
    · exact no _ k
  · exact no _ h
theorem cut_at {c : UInt8} : ∀ {l m r s : List UInt8}, c ∉ l → c ∉ m → l ++ c :: r = m ++ c :: s → l = m ∧ r = s := by
  intro l
  induction l with
  | nil =>
    intro m r s hl hm e
    cases m with
    | nil => exact ⟨rfl, (List.cons.inj e).2⟩
    | cons x m => have := (List.cons.inj e).1; subst this; exact (hm List.mem_cons_self).elim
  | cons y l ih =>
    intro m r s hl hm e
    cases m with
    | nil => have := (List.cons.inj e).1; subst this; exact (hl List.mem_cons_self).elim
    | cons x m =>
      obtain ⟨e1, e2⟩ := List.cons.inj e
      obtain ⟨a, b⟩ := ih (fun k => hl (List.mem_cons_of_mem _ k)) (fun k => hm (List.mem_cons_of_mem _ k)) e2
      exact ⟨by rw [e1, a], b⟩
def pkey : List Int → List UInt8
  | [] => []
  | x :: P => itoa x ++ 32 :: pkey P
theorem pkey_inj : ∀ {P Q : List Int}, pkey P = pkey Q → P = Q
  | [], [], _ => rfl
  | [], y :: Q, h => by exfalso; unfold pkey at h; have := congrArg List.length h; simp at this
  | x :: P, [], h => by exfalso; unfold pkey at h; have := congrArg List.length h; simp at this
  | x :: P, y :: Q, h => by
    unfold pkey at h
    obtain ⟨a, b⟩ := cut_at (itoa_no32 x) (itoa_no32 y) h
    rw [itoa_inj a, pkey_inj b]
theorem pkey_snoc : ∀ (P : List Int) (x : Int), pkey (P ++ [x]) = pkey P ++ (itoa x ++ [32])
  | [], x => by simp [pkey]
  | y :: P, x => by simp only [List.cons_append, pkey, pkey_snoc P x, List.append_assoc]
theorem pkey_len : ∀ (P : List Int), (∀ x ∈ P, -9223372036854775808 ≤ x ∧ x ≤ 9223372036854775807) → (pkey P).length ≤ P.length * 22
  | [], _ => by simp [pkey]
  | x :: P, h => by
    have h1 := Lib.itoa_length_le x (h x List.mem_cons_self).1 (h x List.mem_cons_self).2
    have h2 := pkey_len P (fun y hy => h y (List.mem_cons_of_mem _ hy))
    simp only [pkey, List.length_append, List.length_cons]
    omega
end Go.Proofs.YtnnmgbgkgnejlaaDoor
