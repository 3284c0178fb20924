/-
  A whole element of an own row is stored: the world behind it is a letter.
-/
import Derived.Test.YtnnmgbgkgnejlaaDoorSlAt
namespace Go.Proofs.YtnnmgbgkgnejlaaDoor
open Go.RowKit
set_option linter.unusedSimpArgs false
set_option linter.unusedVariables false

theorem rw_full {w : World} {R g n cap : Nat} {e : TypeId} {z : Nat} {xs : List Value} (h : w.ownsRow R e z (.slice (some ⟨g, 0, none⟩) n cap) n xs) :
    ∃ zs, zs.length = cap * z ∧ zs.take (n * z) = xs ∧ n ≤ cap ∧ cap ≤ maxLen ∧ w.ownsRow R e z (.slice (some ⟨g, 0, none⟩) cap cap) cap zs := by
  rcases h.2 with ⟨e0, _⟩ | ⟨g', cap', cur, e0, hb, hg, hn, hm, hs, ht⟩
  · cases e0
  · injection e0 with e1 _ e3
    injection e1 with e1
    injection e1 with e1
    subst e1; subst e3
    exact ⟨cur.toList, by simpa using hs, ht, hn, hm, by simpa using hs, .inr ⟨g, cap, cur, rfl, hb, hg, Nat.le_refl _, hm, hs, List.take_of_length_le (by simp [hs])⟩⟩
theorem rw_cut {w : World} {R g k cap : Nat} {e : TypeId} {z : Nat} {zs : List Value} (h : w.ownsRow R e z (.slice (some ⟨g, 0, none⟩) cap cap) cap zs) (hk : k ≤ cap) :
    w.ownsRow R e z (.slice (some ⟨g, 0, none⟩) k cap) k (zs.take (k * z)) := by
  have hl := h.1
  rcases h.2 with ⟨e0, _⟩ | ⟨g', cap', cur, e0, hb, hg, hn, hm, hs, ht⟩
  · cases e0
  · injection e0 with e1 _ e3
    injection e1 with e1
    injection e1 with e1
    subst e1; subst e3
    have hkz : k * z ≤ cap * z := Nat.mul_le_mul_right z hk
    refine ⟨by rw [List.length_take]; omega, .inr ⟨g, cap, cur, rfl, hb, hg, hk, hm, hs, ?_⟩⟩
    rw [← ht, List.take_take, Nat.min_eq_left hkz]
theorem rw_mid {α : Type} (x : α) : ∀ (zs : List α) (j : Nat), j < zs.length → zs.set j x = zs.take j ++ x :: zs.drop (j + 1)
  | [], j, h => by simp at h
  | a :: l, 0, _ => rfl
  | a :: l, j + 1, h => by simp only [List.set_cons_succ, List.take_succ_cons, List.drop_succ_cons, List.cons_append]; rw [rw_mid x l j (by simpa using h)]
theorem rw_cells {R g cap : Nat} {e : TypeId} {z : Nat} : ∀ (vs : List Value) (w : World) (zs : List Value) (j : Nat), w.ownsRow R e z (.slice (some ⟨g, 0, none⟩) cap cap) cap zs → j + vs.length ≤ zs.length →
    (w.setCells g j vs).ownsRow R e z (.slice (some ⟨g, 0, none⟩) cap cap) cap (zs.take j ++ vs ++ zs.drop (j + vs.length)) ∧ w.grownBy (w.setCells g j vs) (some g)
  | [], w, zs, j, h, _ => by simp only [World.setCells, List.append_nil, List.length_nil, Nat.add_zero, List.take_append_drop]; exact ⟨h, World.grownBy.refl _ _⟩
  | v :: r, w, zs, j, h, hl => by
    simp only [List.length_cons] at hl
    have h1 := World.ownsRow.stored h j v
    have hj : j < zs.length := by omega
    obtain ⟨h2, h3⟩ := rw_cells r _ _ (j + 1) h1.1 (by rw [List.length_set]; omega)
    refine ⟨?_, only_on h1.2 h3⟩
    rw [World.setCells]
    have e1 : (zs.set j v).take (j + 1) = zs.take j ++ [v] := by
      rw [rw_mid v zs j hj, List.take_append, List.length_take, Nat.min_eq_left (by omega), List.take_of_length_le (by rw [List.length_take]; omega), show j + 1 - j = 1 by omega]; rfl
    have e2 : (zs.set j v).drop (j + 1 + r.length) = zs.drop (j + 1 + r.length) := by
      rw [rw_mid v zs j hj, List.drop_append, List.length_take, Nat.min_eq_left (by omega), List.drop_eq_nil_of_le (by rw [List.length_take]; omega), show j + 1 + r.length - j = r.length + 1 by omega, List.drop_succ_cons, List.drop_drop, List.nil_append]
    have e : (zs.set j v).take (j + 1) ++ r ++ (zs.set j v).drop (j + 1 + r.length) = zs.take j ++ v :: r ++ zs.drop (j + (v :: r).length) := by
      rw [e1, e2, List.length_cons, show j + (r.length + 1) = j + 1 + r.length by omega]
      simp
    rw [← e]; exact h2
theorem rw_take {α : Type} (zs vs : List α) (j m : Nat) (h1 : j + vs.length ≤ m) (h2 : m ≤ zs.length) :
    (zs.take j ++ vs ++ zs.drop (j + vs.length)).take m = (zs.take m).take j ++ vs ++ (zs.take m).drop (j + vs.length) := by
  have hj : (zs.take j).length = j := by rw [List.length_take]; omega
  rw [List.take_append, List.length_append, hj, List.take_of_length_le (by rw [List.length_append, hj]; omega), List.take_take, Nat.min_eq_left (by omega), List.drop_take]
/-- a struct is stored into an own row -/
theorem wpList_stRw {P : Program} {ops : Array Oper} {rest : List Oper} {op : Oper} {a : Act} {w : World} {Q : Exit → Act → World → Prop} (hgd : op.guard = none) (ty : TypeId) (x y : Operand) (ho : op.op = .store ty x y)
    (R g cap n z : Nat) (e : TypeId) (xs : List Value) (hO : w.ownsRow R e z (.slice (some ⟨g, 0, none⟩) n cap) n xs) (o : Nat) (cells : Array Value) (hx : a.eval x = .pointer (some ⟨g, o, none⟩)) (hy : a.eval y = .agg cells)
    (h1 : cells.all (·.oneCell') = true) (hi : (P.info? ty).map (·.size) = some cells.size) (hle : o + cells.size ≤ xs.length)
    (h : ∀ w', w'.ownsRow R e z (.slice (some ⟨g, 0, none⟩) n cap) n (xs.take o ++ cells.toList ++ xs.drop (o + cells.size)) → w.grownBy w' (some g) → wpList P ops Q rest (a.put op.dst undef) w') : wpList P ops Q (op :: rest) a w := by
  refine wpList_plain hgd fun K hK => ?_
  have ht : w.there g o cells.size := fun j hj => by
    have hj' : o + j < xs.length := by omega
    have c := World.ownsRow.cells hO (g := g) rfl (o + j) _ (List.getElem?_eq_getElem hj')
    rw [Addr.add_mid, Nat.zero_add] at c
    exact ⟨by rw [c]; rfl, World.ownsRow.frozenAt hO (o + j)⟩
  obtain ⟨zs, hzl, hzt, hn, hm, hf⟩ := rw_full hO
  have hxl : xs.length = n * z := hO.1
  have hnz : n * z ≤ cap * z := Nat.mul_le_mul_right z hn
  obtain ⟨h2, h3⟩ := rw_cells cells.toList w zs o hf (by simp; omega)
  refine Go.wp_store_mid ty x y ho g o cells hx hy ht hi h1 (hK _ _ (h _ ?_ h3))
  have h4 := rw_cut h2 (k := n) hn
  rw [rw_take _ _ _ _ (by simp; omega) (by omega), hzt] at h4
  simpa using h4
/-- element k of a list of equal widths is exchanged -/
theorem flat_set {α : Type} (f : α → List Value) (m : Nat) (hf : ∀ x, (f x).length = m) (q : α) : ∀ {L : List α} {i : Nat}, i < L.length → (L.set i q).flatMap f = (L.flatMap f).take (i * m) ++ f q ++ (L.flatMap f).drop (i * m + m)
  | [], i, h => by simp at h
  | p :: L, 0, _ => by
    rw [List.set_cons_zero, List.flatMap_cons, List.flatMap_cons, Nat.zero_mul, List.take_zero, List.nil_append, Nat.zero_add, List.drop_left' (hf _)]
  | p :: L, i + 1, h => by
    rw [List.set_cons_succ, List.flatMap_cons, List.flatMap_cons, flat_set f m hf q (by simpa using h)]
    have e1 : (f p ++ L.flatMap f).take ((i + 1) * m) = f p ++ (L.flatMap f).take (i * m) := by
      rw [show (i + 1) * m = (f p).length + i * m by rw [hf, Nat.add_mul]; omega]; exact List.take_length_add_append _
    have e2 : (f p ++ L.flatMap f).drop ((i + 1) * m + m) = (L.flatMap f).drop (i * m + m) := by
      rw [show (i + 1) * m + m = (f p).length + (i * m + m) by rw [hf, Nat.add_mul]; omega]; exact List.drop_length_add_append _
    rw [e1, e2]
    simp
end Go.Proofs.YtnnmgbgkgnejlaaDoor
