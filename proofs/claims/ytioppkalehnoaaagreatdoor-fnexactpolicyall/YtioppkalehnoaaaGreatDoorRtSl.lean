/-
  The library's slices.Clone, BinarySearch, Delete, Insert, on slices of ints of the call's own.
-/
import Derived.Test.YtioppkalehnoaaaGreatDoorRtMk
import Derived.Test.YtioppkalehnoaaaGreatDoorShelf
import Derived.Lib.OwnBridge
import Derived.Shelf.Spec.SlicesInsertGrow
namespace Go.Proofs.YtioppkalehnoaaaGreatDoor
open Go.RowKit
set_option linter.unusedSimpArgs false
set_option linter.unusedVariables false

/-! rows as wholes -/
/-- an own row, seen with all its capacity -/
theorem own_full {w : World} {R g n cap : Nat} {e : TypeId} {z : Nat} {xs : List Value} (h : w.ownsRow R e z (.slice (some ⟨g, 0, none⟩) n cap) n xs) :
    ∃ zs, zs.length = cap * z ∧ zs.take (n * z) = xs ∧ n ≤ cap ∧ cap ≤ maxLen ∧ w.ownsRow R e z (.slice (some ⟨g, 0, none⟩) cap cap) cap zs := by
  rcases h.2 with ⟨e0, _⟩ | ⟨g', cap', cur, e0, hb, hg, hn, hm, hs, ht⟩
  · cases e0
  · injection e0 with e1 _ e3
    injection e1 with e1
    injection e1 with e1
    subst e1; subst e3
    exact ⟨cur.toList, by simpa using hs, ht, hn, hm, by simpa using hs, .inr ⟨g, cap, cur, rfl, hb, hg, Nat.le_refl _, hm, hs, List.take_of_length_le (by simp [hs])⟩⟩
/-- a row cut to fewer elements -/
theorem own_cut {w : World} {R g k cap : Nat} {e : TypeId} {z : Nat} {zs : List Value} (h : w.ownsRow R e z (.slice (some ⟨g, 0, none⟩) cap cap) cap zs) (hk : k ≤ cap) :
    w.ownsRow R e z (.slice (some ⟨g, 0, none⟩) k cap) k (zs.take (k * z)) := by
  have hl := h.1
  rcases h.2 with ⟨e0, _⟩ | ⟨g', cap', cur, e0, hb, hg, hn, hm, hs, ht⟩
  · cases e0
  · injection e0 with e1 _ e3
    injection e1 with e1
    injection e1 with e1
    subst e1; subst e3
    have hkz : k * z ≤ cap * z := Nat.mul_le_mul_right z hk
    refine ⟨by rw [List.length_take]; omega, .inr ⟨g, cap, cur, rfl, hb, hg, hk, hm, hs, ?_⟩⟩
    rw [← ht, List.take_take, Nat.min_eq_left hkz]
theorem set_mid {α : Type} (x : α) : ∀ (zs : List α) (j : Nat), j < zs.length → zs.set j x = zs.take j ++ x :: zs.drop (j + 1)
  | [], j, h => by simp at h
  | a :: l, 0, _ => rfl
  | a :: l, j + 1, h => by simp only [List.set_cons_succ, List.take_succ_cons, List.drop_succ_cons, List.cons_append]; rw [set_mid x l j (by simpa using h)]
/-- cells of a row are written -/
theorem own_cells {R g cap : Nat} {e : TypeId} {z : Nat} : ∀ (vs : List Value) (w : World) (zs : List Value) (j : Nat), w.ownsRow R e z (.slice (some ⟨g, 0, none⟩) cap cap) cap zs → j + vs.length ≤ zs.length →
    (w.setCells g j vs).ownsRow R e z (.slice (some ⟨g, 0, none⟩) cap cap) cap (zs.take j ++ vs ++ zs.drop (j + vs.length)) ∧ w.grownBy (w.setCells g j vs) (some g)
  | [], w, zs, j, h, _ => by simp only [World.setCells, List.append_nil, List.length_nil, Nat.add_zero, List.take_append_drop]; exact ⟨h, World.grownBy.refl _ _⟩
  | v :: r, w, zs, j, h, hl => by
    simp only [List.length_cons] at hl
    have h1 := World.ownsRow.stored h j v
    have hj : j < zs.length := by omega
    obtain ⟨h2, h3⟩ := own_cells r _ _ (j + 1) h1.1 (by rw [List.length_set]; omega)
    refine ⟨?_, only_on h1.2 h3⟩
    rw [World.setCells]
    have e1 : (zs.set j v).take (j + 1) = zs.take j ++ [v] := by
      rw [set_mid v zs j hj, List.take_append, List.length_take, Nat.min_eq_left (by omega), List.take_of_length_le (by rw [List.length_take]; omega), show j + 1 - j = 1 by omega]; rfl
    have e2 : (zs.set j v).drop (j + 1 + r.length) = zs.drop (j + 1 + r.length) := by
      rw [set_mid v zs j hj, List.drop_append, List.length_take, Nat.min_eq_left (by omega), List.drop_eq_nil_of_le (by rw [List.length_take]; omega), show j + 1 + r.length - j = r.length + 1 by omega, List.drop_succ_cons, List.drop_drop, List.nil_append]
    have e : (zs.set j v).take (j + 1) ++ r ++ (zs.set j v).drop (j + 1 + r.length) = zs.take j ++ v :: r ++ zs.drop (j + (v :: r).length) := by
      rw [e1, e2, List.length_cons, show j + (r.length + 1) = j + 1 + r.length by omega]
      simp
    rw [← e]; exact h2

/-! the library's functions -/
theorem clone_is {L : List Int} (a : Option Addr) (cap n : Nat) (w : World) (hn : n = L.length) (hL : IntA w a L) (hl : L.length ≤ 2000000) :
    Calls Tryz.prog 93 #[.slice a n cap] w (OwnL w L) := by
  subst hn
  rcases hL with rfl | ⟨b, off, rfl, h⟩
  · cases a with
    | none => exact (Tryz.slices_Clone_int_nil 0 cap w).mono fun e w' ⟨h1, h2⟩ => ⟨_, h1, owni_nil _ _, by rw [h2]; exact Below.refl _ _⟩
    | some ad => exact (Tryz.slices_Clone_int_zero ad cap w).mono fun e w' ⟨v, h1, h2, _, h3⟩ => ⟨v, h1, h2, h3⟩
  · refine (Tryz.slices_Clone_int b off L.length cap L w (Nat.le_refl _) (by omega) (fun j hj => ?_)).mono fun e w' ⟨v, h1, h2, _, h3⟩ => ⟨v, h1, by simpa [OwnI, cellsI] using h2, h3⟩
    have e : L[j]? = some L[j] := List.getElem?_eq_getElem hj
    rw [h j _ e]; simp [List.getD, e]
theorem asc_le {M : List Int} (h : M.Pairwise (· < ·)) : M.Pairwise (· ≤ ·) := h.imp fun h => by omega
theorem bsearch_is {M : List Int} {m : Int} (hp : M.Pairwise (· < ·)) (a : Option Addr) (cap n : Nat) (w : World) (hn : n = M.length) (hL : IntA w a M) (hl : M.length ≤ 2000000) :
    Calls Tryz.prog 94 #[.slice a n cap, .int .i64 m] w fun e w' => e = .returned (.tuple #[.int .i64 ((M.countP (fun x => decide (x < m)) : Nat) : Int), .bool (decide (m ∈ M))]) ∧ Below w.heap.size w w' := by
  subst hn
  rcases hL with rfl | ⟨b, off, rfl, h⟩
  · exact (Tryz.slices_BinarySearch_int_empty a cap m w).mono fun e w' ⟨h1, h2⟩ => ⟨by rw [h1]; simp, by rw [h2]; exact Below.refl _ _⟩
  · refine (Tryz.slices_BinarySearch_int b off M.length cap M m w (Nat.le_refl _) (by omega) (fun j hj => ?_) (by rw [List.take_length]; exact asc_le hp)).mono fun e w' ⟨h1, q, h2⟩ => ⟨?_, by rw [h2]; exact below_drewN (Below.refl _ _) q⟩
    · have e : M[j]? = some M[j] := List.getElem?_eq_getElem hj
      rw [h j _ e]; simp [List.getD, e]
    · rw [h1, List.take_length]
      simp [List.contains_iff_mem]
theorem grown_putRow {w : World} {g q : Nat} {d : Array Int} : w.grownBy (Sort.putRow (Value.int .i64) (Sort.ahead w q) g 0 d) (some g) :=
  ⟨rfl, rfl, rfl, by simp [Sort.putRow, Sort.mapBlock, Sort.ahead], fun k hk hne => by
    have : g ≠ k := fun e => hne (by rw [e])
    simp [Sort.putRow, Sort.mapBlock, Sort.ahead, Array.getElem?_modify, this]⟩
theorem delete_is {M : List Int} {i : Nat} (v : Value) (R : Nat) (w : World) (ho : OwnI w R v M) (hi : i < M.length) (hl : M.length ≤ 2000000) :
    Calls Tryz.prog 96 #[v, .int .i64 (i : Int), .int .i64 ((i + 1 : Nat) : Int)] w fun e w' => ∃ v', e = .returned v' ∧ OwnI w' R v' (M.take i ++ M.drop (i + 1)) ∧ w.grownBy w' v.ownBlock ∧ v'.ownBlock = v.ownBlock := by
  have hv : v ≠ .slice none 0 0 := fun e => by
    subst e
    rcases ho.2 with ⟨_, h0⟩ | ⟨g, cap, cur, e0, _⟩
    · omega
    · cases e0
  obtain ⟨g, cap, rfl, hb, hg, hn, hm, _, hH⟩ := Lib.holds_of_ownsRow (enc := Value.int .i64) (zs := M) ho hv
  refine (Tryz.slices_Delete_int g 0 cap i (i + 1) M w hH hn (by unfold maxLen at hm; omega) (by omega) (by omega)).mono fun e w' ⟨h1, q, h2⟩ => ⟨_, h1, ?_, ?_, rfl⟩
  · have := Lib.ownsRow_putRow (enc := Value.int .i64) (q := q) (k := M.length - (i + 1 - i)) (ys := M.take i ++ M.drop (i + 1) ++ List.replicate (i + 1 - i) 0) ho (by simp; omega) (by omega)
    rw [h2]
    rw [List.take_left' (by simp; omega)] at this
    rw [OwnI, show (M.take i ++ M.drop (i + 1)).length = M.length - (i + 1 - i) by simp; omega]
    exact this
  · rw [h2]; exact grown_putRow
end Go.Proofs.YtioppkalehnoaaaGreatDoor
