/-
  Routes in a slice, and places of routes in a heap, as they lie in memory; the heap's own order.
-/
import Derived.Test.YtioppkalehnoaaaGreatDoorRtCmp
import Derived.Test.YtioppkalehnoaaaGreatDoorRtSl
import Derived.Handy
namespace Go.Proofs.YtioppkalehnoaaaGreatDoor
open Go.RowKit
set_option linter.unusedSimpArgs false
set_option linter.unusedVariables false

/-- a route's value with its slices' places -/
structure RV where
  f : Int
  b : Int
  a : Option Addr
  c : Nat
  P : List Int
  l : Int
  d : Option Addr
  e : Nat
  M : List Int
def RV.rt (v : RV) : Rt := (v.f, v.b, v.P, v.l, v.M)
def RV.cells (v : RV) : List Value := [.int .i64 v.f, .int .i64 v.b, .slice v.a v.P.length v.c, .int .i64 v.l, .slice v.d v.M.length v.e]
def RV.m (v : RV) (w : World) : Prop := RtM w v.a v.c v.P v.d v.e v.M
def zRV : RV := ⟨0, 0, none, 0, [], 0, none, 0, []⟩
def rvAt (L : List RV) (p : Nat) : RV := L.getD p zRV
/-- a route and its place: six cells -/
def RV.six (v : RV) (p : Nat) : List Value := v.cells ++ [.int .i64 p]
def cells6 (L : List RV) (K : List Nat) : List Value := K.flatMap fun p => (rvAt L p).six p
theorem six_len (v : RV) (p : Nat) : (v.six p).length = 6 := rfl
theorem cells6_len (L : List RV) : ∀ K : List Nat, (cells6 L K).length = K.length * 6
  | [] => rfl
  | p :: K => by
    have := cells6_len L K
    simp only [cells6, List.flatMap_cons, List.length_append, six_len, List.length_cons] at this ⊢
    omega
theorem cells6_cons (L : List RV) (p : Nat) (K : List Nat) : cells6 L (p :: K) = (rvAt L p).six p ++ cells6 L K := rfl
theorem cells6_app (L : List RV) (K K' : List Nat) : cells6 L (K ++ K') = cells6 L K ++ cells6 L K' := by simp [cells6]
theorem cells6_at (L : List RV) : ∀ {K : List Nat} {k p j : Nat}, K[k]? = some p → j < 6 → (cells6 L K)[k * 6 + j]? = ((rvAt L p).six p)[j]?
  | [], k, p, j, h, _ => by simp at h
  | q :: K, 0, p, j, h, hj => by
    obtain rfl : q = p := by simpa using h
    rw [cells6_cons, Nat.zero_mul, Nat.zero_add, List.getElem?_append_left (by rw [six_len]; exact hj)]
  | q :: K, k + 1, p, j, h, hj => by
    rw [cells6_cons, List.getElem?_append_right (by rw [six_len]; omega), six_len, show (k + 1) * 6 + j - 6 = k * 6 + j by omega]
    exact cells6_at L (by simpa using h) hj
theorem cells6_set (L : List RV) (q : Nat) : ∀ {K : List Nat} {i : Nat}, i < K.length → cells6 L (K.set i q) = (cells6 L K).take (i * 6) ++ (rvAt L q).six q ++ (cells6 L K).drop (i * 6 + 6)
  | [], i, h => by simp at h
  | p :: K, 0, _ => by
    rw [List.set_cons_zero, cells6_cons, cells6_cons, Nat.zero_mul, List.take_zero, List.nil_append, Nat.zero_add, List.drop_left' (six_len _ _)]
  | p :: K, i + 1, h => by
    rw [List.set_cons_succ, cells6_cons, cells6_cons, cells6_set L q (by simpa using h)]
    have e1 : ((rvAt L p).six p ++ cells6 L K).take ((i + 1) * 6) = (rvAt L p).six p ++ (cells6 L K).take (i * 6) := by
      rw [show (i + 1) * 6 = ((rvAt L p).six p).length + i * 6 by rw [six_len]; omega]; exact List.take_length_add_append _
    have e2 : ((rvAt L p).six p ++ cells6 L K).drop ((i + 1) * 6 + 6) = (cells6 L K).drop (i * 6 + 6) := by
      rw [show (i + 1) * 6 + 6 = ((rvAt L p).six p).length + (i * 6 + 6) by rw [six_len]; omega]; exact List.drop_length_add_append _
    rw [e1, e2]
    simp
theorem mid_take {α : Type} (zs vs : List α) (j m : Nat) (h1 : j + vs.length ≤ m) (h2 : m ≤ zs.length) :
    (zs.take j ++ vs ++ zs.drop (j + vs.length)).take m = (zs.take m).take j ++ vs ++ (zs.take m).drop (j + vs.length) := by
  have hj : (zs.take j).length = j := by rw [List.length_take]; omega
  rw [List.take_append, List.length_append, hj, List.take_of_length_le (by rw [List.length_append, hj]; omega), List.take_take, Nat.min_eq_left (by omega), List.drop_take]

/-- the six cells of one element -/
def At6 (w : World) (g o : Nat) (v : RV) (p : Nat) : Prop :=
  (w.cell? ⟨g, o, none⟩ = some (.int .i64 v.f) ∧ w.cell? ⟨g, o + 1, none⟩ = some (.int .i64 v.b) ∧ w.cell? ⟨g, o + 2, none⟩ = some (.slice v.a v.P.length v.c) ∧ w.cell? ⟨g, o + 3, none⟩ = some (.int .i64 v.l) ∧ w.cell? ⟨g, o + 4, none⟩ = some (.slice v.d v.M.length v.e) ∧ w.cell? ⟨g, o + 5, none⟩ = some (.int .i64 p)) ∧
  w.frozen? ⟨g, o, none⟩ = false ∧ w.frozen? ⟨g, o + 1, none⟩ = false ∧ w.frozen? ⟨g, o + 2, none⟩ = false ∧ w.frozen? ⟨g, o + 3, none⟩ = false ∧ w.frozen? ⟨g, o + 4, none⟩ = false ∧ w.frozen? ⟨g, o + 5, none⟩ = false
/-- an element is written over -/
def set6 (w : World) (g o : Nat) (v : RV) (p : Nat) : World :=
  (((((w.setCell ⟨g, o, none⟩ (.int .i64 v.f)).setCell ⟨g, o + 1, none⟩ (.int .i64 v.b)).setCell ⟨g, o + 2, none⟩ (.slice v.a v.P.length v.c)).setCell ⟨g, o + 3, none⟩ (.int .i64 v.l)).setCell ⟨g, o + 4, none⟩ (.slice v.d v.M.length v.e)).setCell ⟨g, o + 5, none⟩ (.int .i64 p)
theorem two_intA (W : World) (x y : Int) : IntA (W.alloc (.cells #[.int .i64 x, .int .i64 y] 3)) (some ⟨W.heap.size, 0, none⟩) [x, y] := by
  refine .inr ⟨W.heap.size, 0, rfl, fun i z h => ?_⟩
  match i, h with
  | 0, h => simp at h; subst h; simp
  | 1, h => simp at h; subst h; simp
  | n + 2, h => simp at h
/-- the heap's order, as the program reckons it -/
theorem hless_or {a b : Rt} {p q : Nat} {x : Bool} (h : decide (rtCmp0 a b = -1 ∨ rtCmp0 a b = 0 ∧ p < q) = x) : decide (firstNZ [rtCmp0 a b, sgn (p : Int) (q : Int)] < 0) = x := by
  rw [← h, Bool.eq_iff_iff, decide_eq_true_eq, decide_eq_true_eq]
  simp only [firstNZ, sgn]
  rcases rtCmp0_vals a b with c | c | c
  · rw [c]; simp
  · rw [c]
    repeat' split
    all_goals omega
  · rw [c]; simp

end Go.Proofs.YtioppkalehnoaaaGreatDoor
