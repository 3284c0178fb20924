/-
  The program's RouteBest.
-/
import Derived.Test.YtioppkalehnoaaaGreatDoorRtHu
import Derived.Test.YtioppkalehnoaaaGreatDoorRtMem
namespace Go.Proofs.YtioppkalehnoaaaGreatDoor
open Go.RowKit
set_option linter.unusedSimpArgs false
set_option linter.unusedVariables false

/-- a slice of routes in memory -/
def RsA (w : World) (a : Option Addr) (L : List RV) : Prop :=
  (L = [] ∨ ∃ b off, a = some ⟨b, off, none⟩ ∧ ∀ (i : Nat) v, L[i]? = some v → w.cell? ⟨b, off + i * 5, none⟩ = some (.int .i64 v.f) ∧ w.cell? ⟨b, off + i * 5 + 1, none⟩ = some (.int .i64 v.b) ∧ w.cell? ⟨b, off + i * 5 + 2, none⟩ = some (.slice v.a v.P.length v.c) ∧ w.cell? ⟨b, off + i * 5 + 3, none⟩ = some (.int .i64 v.l) ∧ w.cell? ⟨b, off + i * 5 + 4, none⟩ = some (.slice v.d v.M.length v.e)) ∧
  ∀ v ∈ L, v.m w
theorem RsA.below {w w' : World} {a : Option Addr} {L : List RV} (h : RsA w a L) (k : Below w.heap.size w w') : RsA w' a L := by
  refine ⟨?_, fun v hv => (h.2 v hv).below k⟩
  rcases h.1 with h | ⟨b, off, e, h⟩
  · exact .inl h
  · refine .inr ⟨b, off, e, fun i v hi => ?_⟩
    obtain ⟨h0, h1, h2, h3, h4⟩ := h i v hi
    exact ⟨cell_later k h0, cell_later k h1, cell_later k h2, cell_later k h3, cell_later k h4⟩
theorem RsA.at {w : World} {a : Option Addr} {L : List RV} (h : RsA w a L) {k : Nat} {v : RV} (hk : L[k]? = some v) :
    ∃ b off, a = some ⟨b, off, none⟩ ∧ (w.cell? ⟨b, off + k * 5, none⟩ = some (.int .i64 v.f) ∧ w.cell? ⟨b, off + k * 5 + 1, none⟩ = some (.int .i64 v.b) ∧ w.cell? ⟨b, off + k * 5 + 2, none⟩ = some (.slice v.a v.P.length v.c) ∧ w.cell? ⟨b, off + k * 5 + 3, none⟩ = some (.int .i64 v.l) ∧ w.cell? ⟨b, off + k * 5 + 4, none⟩ = some (.slice v.d v.M.length v.e)) ∧ v.m w := by
  have hm := h.2 v (List.mem_of_getElem? hk)
  rcases h.1 with rfl | ⟨b, off, e, h⟩
  · simp at hk
  · exact ⟨b, off, e, h k v hk, hm⟩
theorem rvAt_is {L : List RV} {k : Nat} {v : RV} (h : L[k]? = some v) : rvAt L k = v := by
  unfold rvAt; rw [List.getD_eq_getElem?_getD, h]; rfl
theorem best_no {l : List Rt} {z : Int} (hz : BestIs l z) {r : Rt} (hr : r ∈ l) (ho : rtOk r = false) : -1 = z := BestIs.same (.inr ⟨.inr ⟨r, hr, ho⟩, rfl⟩) hz
theorem best_yes {l : List Rt} {z : Int} (hz : BestIs l z) (hne : l ≠ []) (hok : ∀ r ∈ l, rtOk r = true) {K : List Nat} {t : Nat} (ht : K[0]? = some t) (hT : ∀ (k : Nat) y, K[k]? = some y → hless l y t = false) (hK : ∀ y, y ∈ K ↔ y < l.length) : (t : Int) = z := by
  refine BestIs.same (.inl ⟨hne, hok, t, rfl, hmin_best ((hK t).1 (List.mem_of_getElem? ht)) (fun k hk => ?_) (fun k hk => (hK k).2 hk)⟩) hz
  obtain ⟨i, hi⟩ := List.mem_iff_getElem?.1 hk
  exact hT i k hi
theorem all_good {L : List RV} (h : ∀ y, y < L.length → RtGood (rvAt L y).rt) : ∀ r ∈ L.map RV.rt, rtOk r = true := fun r hr => by
  obtain ⟨v, hv, rfl⟩ := List.mem_map.1 hr
  obtain ⟨i, hi⟩ := List.mem_iff_getElem?.1 hv
  have := h i (List.getElem?_eq_some_iff.1 hi).1
  rw [rvAt_is hi] at this
  exact (rtOk_iff _).2 this

end Go.Proofs.YtioppkalehnoaaaGreatDoor
