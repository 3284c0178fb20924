/-
  Two matrices of one's own, all apart: a row more, a number turned.
-/
import Derived.Test.YtnljcppefnaapaaHoDk
namespace Go.Proofs.Ytnljcppefnaapaa
open Go.RowKit
set_option linter.unusedSimpArgs false
set_option linter.unusedVariables false

theorem MaR.keptJ {W W' : World} {R : Nat} {v : Value} {L : List IR} {row : Option Nat} (h : MaR W R v L) (hg : W.grownBy W' row) (hr : ∀ x ∈ L, x.v.ownBlock = none ∨ x.v.ownBlock ≠ row) (hv : v.ownBlock = none ∨ v.ownBlock ≠ row) : MaR W' R v L :=
  ⟨World.ownsRow.kept h.row hg hv, fun x hx => World.ownsRow.kept (h.own x hx) hg (hr x hx), h.ap⟩
structure Two (W : World) (R : Nat) (va vb : Value) (A B : List IR) : Prop where
  ma : MaR W R va A
  mb : MaR W R vb B
  ap : ∀ x ∈ A, ∀ y ∈ B, x.ap y
  sl : va.ownBlock = none ∨ va.ownBlock ≠ vb.ownBlock
  oa : ∀ x ∈ A, x.v.ownBlock ≠ none
  ob : ∀ x ∈ B, x.v.ownBlock ≠ none
  za : A = [] → ∃ o, va = .slice o 0 0
  zb : B = [] → ∃ o, vb = .slice o 0 0
theorem apart_comm {a b : Option Nat} (h : a = none ∨ a ≠ b) : b = none ∨ b ≠ a := by
  cases b with
  | none => exact .inl rfl
  | some k => exact .inr (fun q => by rcases h with h | h; (rw [h] at q; cases q); exact h q.symm)
theorem Two.symm {W : World} {R : Nat} {va vb : Value} {A B : List IR} (h : Two W R va vb A B) : Two W R vb va B A :=
  ⟨h.mb, h.ma, fun x hx y hy => (h.ap y hy x hx).symm', apart_comm h.sl, h.ob, h.oa, h.zb, h.za⟩
theorem Two.later {W W' : World} {R : Nat} {va vb : Value} {A B : List IR} (h : Two W R va vb A B) (k : Below W.heap.size W W') : Two W' R va vb A B :=
  ⟨h.ma.later k, h.mb.later k, h.ap, h.sl, h.oa, h.ob, h.za, h.zb⟩
/-- two own slices of rows with one block: one capacity, one first row -/
theorem ownm_same {W : World} {R R' : Nat} {v v' : Value} {L L' : List IR} (h : OwnM W R v L) (h' : OwnM W R' v' L') {g : Nat} (e : v.ownBlock = some g) (e' : v'.ownBlock = some g) :
    (∀ o m, v' = .slice o m 0 → L = []) ∧ (∀ x y, L[0]? = some x → L'[0]? = some y → x.v = y.v) := by
  rcases h.2 with ⟨e0, _⟩ | ⟨g1, c1, u1, rfl, _, hg1, hn1, _, hs1, ht1⟩
  · rw [e0] at e; simp [Value.ownBlock] at e
  rcases h'.2 with ⟨e0, _⟩ | ⟨g2, c2, u2, rfl, _, hg2, hn2, _, hs2, ht2⟩
  · rw [e0] at e'; simp [Value.ownBlock] at e'
  obtain rfl : g1 = g := by simpa [Value.ownBlock] using e
  obtain rfl : g2 = g1 := by simpa [Value.ownBlock] using e'
  rw [hg1] at hg2
  obtain rfl : u1 = u2 := by simpa using hg2
  refine ⟨fun o m q => ?_, fun x y hx hy => ?_⟩
  · injection q with q1 q2 q3
    exact List.eq_nil_of_length_eq_zero (by omega)
  · have k1 : (cellsR L)[0]? = some x.v := cellsR_at hx
    have k2 : (cellsR L')[0]? = some y.v := cellsR_at hy
    have p1 := (List.getElem?_eq_some_iff.1 hx).1
    have p2 := (List.getElem?_eq_some_iff.1 hy).1
    rw [← ht1, List.getElem?_take, if_pos (by omega)] at k1
    rw [← ht2, List.getElem?_take, if_pos (by omega)] at k2
    rw [k1] at k2
    simpa using k2
/-- a row more -/
theorem Two.app {W W' : World} {R N : Nat} {va va' vb : Value} {A B : List IR} {y : IR} (h : Two W R va vb A B) (hR : R ≤ N) (hA : ∀ x ∈ A, ∀ k, x.v.ownBlock = some k → k < N) (hB : ∀ x ∈ B, ∀ k, x.v.ownBlock = some k → k < N)
    (hy : OwnI W N y.v y.P) (hyo : y.v.ownBlock ≠ none) (own : OwnM W' R va' (A ++ [y])) (grow : W.grownBy W' va.ownBlock) : Two W' R va' vb (A ++ [y]) B := by
  have ma' := MaR.app h.ma hR hA hy own grow
  have mb' := MaR.keptJ h.mb grow (fun x hx => mrows_apart (h.mb.own x hx) h.ma.row (by decide)) (apart_comm h.sl)
  have ap' : ∀ x ∈ A ++ [y], ∀ z ∈ B, x.ap z := fun x hx z hz => by
    rcases List.mem_append.1 hx with q | q
    · exact h.ap x q z hz
    · obtain rfl : x = y := by simpa using q
      intro k hk hk2
      have h1 := (hy.lt k hk).1
      have h2 := hB z hz k hk2
      omega
  have oa' : ∀ x ∈ A ++ [y], x.v.ownBlock ≠ none := fun x hx => by
    rcases List.mem_append.1 hx with q | q
    · exact h.oa x q
    · obtain rfl : x = y := by simpa using q
      exact hyo
  refine ⟨ma', mb', ap', ?_, oa', h.ob, fun q => by simp at q, h.zb⟩
  cases e : va'.ownBlock with
  | none => exact .inl rfl
  | some g =>
    refine .inr (fun q => ?_)
    obtain ⟨k1, k2⟩ := ownm_same own mb'.row e q.symm
    cases hBn : B with
    | nil =>
      obtain ⟨o, ho⟩ := h.zb hBn
      have := k1 o 0 ho
      simp at this
    | cons z zs =>
      obtain ⟨x, hx⟩ : ∃ x, (A ++ [y])[0]? = some x := ⟨_, List.getElem?_eq_getElem (by simp)⟩
      have hv := k2 x z hx (by rw [hBn]; rfl)
      have hxm := List.mem_of_getElem? hx
      have hzm : z ∈ B := by rw [hBn]; simp
      cases e2 : x.v.ownBlock with
      | none => exact oa' x hxm e2
      | some b => exact ap' x hxm z hzm b e2 (by rw [← hv]; exact e2)
theorem own_has {W : World} {R : Nat} {x : IR} (h : OwnI W R x.v x.P) (hp : 0 < x.P.length) : x.v.ownBlock ≠ none := by
  obtain ⟨g, hg⟩ := own_some h hp
  rw [IR.v, hg]; simp [Value.ownBlock]
/-- a number of a row of the first is turned: what the other is stays -/
theorem Two.other {W W' : World} {R : Nat} {va vb : Value} {A B : List IR} {k : Nat} {x : IR} (h : Two W R va vb A B) (hx : A[k]? = some x) (hg : W.grownBy W' x.v.ownBlock) : MaR W' R vb B := by
  have hxm := List.mem_of_getElem? hx
  refine MaR.keptJ h.mb hg (fun y hy => ?_) (mrows_apart h.mb.row (h.ma.own x hxm) (by decide))
  cases e : y.v.ownBlock with
  | none => exact .inl rfl
  | some b => exact .inr (fun q => h.ap x hxm y hy b q.symm e)
theorem Two.start (w : World) : Two ((w.alloc (.cells #[] 33)).alloc (.cells #[] 33)) w.heap.size (.slice (some ⟨w.heap.size, 0, none⟩) 0 0) (.slice (some ⟨w.heap.size + 1, 0, none⟩) 0 0) [] [] := by
  refine ⟨(mar_empty w w.heap.size (Nat.le_refl _)).alloc _, ?_, fun x hx => (by cases hx), .inr (by simp [Value.ownBlock]), fun x hx => (by cases hx), fun x hx => (by cases hx), fun _ => ⟨_, rfl⟩, fun _ => ⟨_, rfl⟩⟩
  have := mar_empty (w.alloc (.cells #[] 33)) w.heap.size (by simp)
  simp only [World.size_alloc] at this
  exact this
/-! what a turned matrix is -/
theorem matP_setR {L : List IR} {k : Nat} {y : IR} : matP (L.set k y) = (matP L).set k y.P := by simp [matP, List.map_set]
theorem mAt_set {M : Mat} {i j : Nat} {v : Int} (hi : i < M.length) (hj : j < (M.getD i []).length) : mAt (M.set i ((M.getD i []).set j v)) i j = v := by
  unfold mAt
  have e1 : (M.set i ((M.getD i []).set j v)).getD i [] = (M.getD i []).set j v := by simp [List.getD, List.getElem?_set_self hi]
  rw [e1]
  simp only [List.getD] at hj ⊢
  rw [List.getElem?_set_self hj]; rfl
theorem mAt_setNe {M : Mat} {i r c : Nat} {P : List Int} (h : r ≠ i) : mAt (M.set i P) r c = mAt M r c := by
  unfold mAt
  have e1 : (M.set i P).getD r [] = M.getD r [] := by simp only [List.getD]; rw [List.getElem?_set_ne (fun e => h e.symm)]
  rw [e1]
theorem form_a {M : Mat} (hg : RelsGood M) {k j : Nat} (hk : k < M.length) (hj : j < M.length) (hkj : k ≠ j) : relsOk (M.set k ((M.getD k []).set j ((mAt M k j + 1) % 4))) = false := by
  rw [← Bool.not_eq_true, relsOk_iff]
  intro h
  have hl : (M.set k ((M.getD k []).set j ((mAt M k j + 1) % 4))).length = M.length := List.length_set
  have h1 := h.back k j (by omega) (by omega)
  rw [mAt_set (i := k) (j := j) hk (by rw [hg.sq k hk]; exact hj), mAt_setNe (fun e => hkj e.symm), hg.back k j hk hj] at h1
  obtain ⟨r0, r3⟩ := hg.ran k j hk hj
  generalize mAt M k j = r at *
  obtain rfl | rfl | rfl | rfl : r = 0 ∨ r = 1 ∨ r = 2 ∨ r = 3 := by omega
  all_goals (revert h1; decide)
theorem form_b {M : Mat} (hg : RelsGood M) {k : Nat} (hk : k < M.length) : relsOk (M.set k ((M.getD k []).set k 2)) = false := by
  rw [← Bool.not_eq_true, relsOk_iff]
  intro h
  have hl : (M.set k ((M.getD k []).set k 2)).length = M.length := List.length_set
  have h1 := h.diag k (by omega)
  rw [mAt_set (i := k) (j := k) hk (by rw [hg.sq k hk]; exact hk)] at h1
  exact absurd h1 (by decide)
end Go.Proofs.Ytnljcppefnaapaa
