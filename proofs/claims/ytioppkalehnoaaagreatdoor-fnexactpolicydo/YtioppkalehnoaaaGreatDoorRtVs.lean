/-
  The law on one route more behind a list: the walk.
-/
import Derived.Test.YtioppkalehnoaaaGreatDoorRtLi
import Derived.Test.YtioppkalehnoaaaGreatDoorRtDd
import Derived.Test.YtioppkalehnoaaaGreatDoorRtMem
namespace Go.Proofs.YtioppkalehnoaaaGreatDoor
open Go.RowKit
set_option linter.unusedSimpArgs false
set_option linter.unusedVariables false

/-- 'append(own, xs...)' on routes, in a region that draws its order -/
theorem wp_appV {o : Oper} {act : Act} {w : World} {Kc : Act → World → Prop} {Q : Exit → Act → World → Prop} (s x : Operand)
    (hop : o.op = .call { callee := .builtin .append, args := #[s, x], argTypes := #[45, 45] })
    (R g cap : Nat) (L : List RV) (n : Nat) (hn : n = L.length) (hs : act.eval s = .slice (some ⟨g, 0, none⟩) n cap) (hown : OwnW w R g cap L)
    (D m c : Nat) (M : List RV) (hm : m = M.length) (hx : act.eval x = .slice (some ⟨D, 0, none⟩) m c) (hM : ∀ (j : Nat) u, (cells5 M)[j]? = some u → w.cell? ⟨D, j, none⟩ = some u) (hlen : L.length + M.length ≤ 2000000) (hR : R ≤ w.heap.size)
    (h : ∀ g' cap' w', OwnW w' R g' cap' (L ++ M) → w.grownBy w' (some g) → Kc (act.put o.dst (.slice (some ⟨g', 0, none⟩) (L ++ M).length cap')) w') : o.wp Tryz.prog act w Kc Q := by
  subst hn hm
  obtain ⟨i0, hi, hz0, hz1, hz2⟩ := info_parts infoR
  refine wp_append_own w s x 45 hop R 32 i0 (.agg #[.int .i64 0, .int .i64 0, .slice none 0 0, .int .i64 0, .slice none 0 0]) 5 72 Tryz.underlying45 hi hz0 hz1 hz2 rfl (by decide) _ L.length (cells5 L) hs hown ⟨D, 0, none⟩ M.length c (cells5 M) hx (cells5_len M) ?_ (one5 M) (by unfold maxLen; omega) (by omega) hR ?_
  · intro j u hu
    have := hM j u hu
    by_cases hj : j = 0
    · subst hj; simpa [Addr.add] using this
    · simpa [Addr.add, hj] using this
  · intro v' w' h2 h3 h4
    have h5 : w'.ownsRow R 32 5 v' (L ++ M).length (cells5 (L ++ M)) := by rw [List.length_append, cells5_app]; exact h2
    rcases h5.2 with ⟨e0, _⟩ | ⟨g', cap', cur, e0, _⟩
    · rw [h4] at e0; cases e0.1
    · subst e0
      exact h g' cap' w' h5 (by simpa [Value.ownBlock] using h3)
theorem bestu_app {l : List Rt} {n k : Nat} (r : Rt) (h : BestU l n k) (hn : n ≤ l.length) : BestU (l ++ [r]) n k := by
  obtain ⟨x, h1, h2, h3, h4⟩ := h
  have up : ∀ (j : Nat), j < l.length → (l ++ [r])[j]? = l[j]? := fun j hj => List.getElem?_append_left hj
  exact ⟨x, by rw [up k (by omega)]; exact h1, h2, fun j y hj hy => h3 j y hj (by rw [← up j (by omega)]; exact hy), fun j y hj hy => h4 j y hj (by rw [← up j (by omega)]; exact hy)⟩
theorem isbest_u {l : List Rt} {k : Nat} (h : IsBest l k) : BestU l l.length k := by
  obtain ⟨r, h1, h2, h3⟩ := h
  exact ⟨r, h1, (List.getElem?_eq_some_iff.1 h1).1, fun j x _ hx => h2 j x hx, h3⟩
/-- one route more: it is the best one if it is better than the best one so far -/
theorem best_more {l : List Rt} {t : Nat} {u r : Rt} (h : IsBest l t) (hu : l[t]? = some u) (hok : ∀ x ∈ l, rtOk x = true) (hr : rtOk r = true) : BestIs (l ++ [r]) (if rtCmp0 r u < 0 then (l.length : Int) else (t : Int)) := by
  have hx : (l ++ [r])[l.length]? = some r := by rw [List.getElem?_append_right (Nat.le_refl _)]; simp
  have ht := (List.getElem?_eq_some_iff.1 hu).1
  have hu' : (l ++ [r])[t]? = some u := by rw [List.getElem?_append_left ht]; exact hu
  have hU := bestu_app r (isbest_u h) (Nat.le_refl _)
  have hok' : ∀ x ∈ l ++ [r], rtOk x = true := fun x hx => by
    rcases List.mem_append.1 hx with k | k
    · exact hok x k
    · obtain rfl : x = r := by simpa using k
      exact hr
  have v := rtCmp0_vals r u
  split
  · exact .inl ⟨by simp, hok', l.length, rfl, BestU.all (by rw [List.length_append]; exact hU.turn hu' hx (by omega))⟩
  · exact .inl ⟨by simp, hok', t, rfl, BestU.all (by rw [List.length_append]; exact hU.stay hu' hx (by omega))⟩

theorem ownw_e1 (w : World) (o : Obj) : OwnW ((w.alloc o).alloc (.cells #[] 32)) w.heap.size (w.heap.size + 1) 0 [] := by
  have := ownw_empty (w.alloc o) w.heap.size (by simp)
  rw [World.size_alloc] at this
  exact this
theorem RtsO.m6 {w : World} {R g cap : Nat} {L : List RV} (h : RtsO w R g cap L) (v : RV) (hv : v ∈ L) : v.m w := (h.2 v hv).1.m (by have := (h.2 v hv).2.1; omega) (by have := (h.2 v hv).2.2; omega)
theorem RV.m.below {v : RV} {w w' : World} (h : v.m w) (k : Below w.heap.size w w') : v.m w' := RtM.below h k
theorem vcell_far {B : Nat} {w w' : World} (h : Below B w w') {a : Addr} {v : Value} (ha : a.block < B) (hc : w.cell? a = some v) : w'.cell? a = some v := by rw [h.cell ha]; exact hc

end Go.Proofs.YtioppkalehnoaaaGreatDoor
