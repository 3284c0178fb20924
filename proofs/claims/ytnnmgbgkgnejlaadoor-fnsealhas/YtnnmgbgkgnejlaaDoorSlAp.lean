/-
  Seals that lie somewhere; an append of any seals.
-/
import Derived.Test.YtnnmgbgkgnejlaaDoorSlMem
namespace Go.Proofs.YtnnmgbgkgnejlaaDoor
open Go.RowKit
set_option linter.unusedSimpArgs false
set_option linter.unusedVariables false

/-- seals that lie somewhere, one behind the other -/
def SlL (w : World) (a : Option Addr) (M : List SV) : Prop := M = [] ∨ ∃ b off, a = some ⟨b, off, none⟩ ∧ ∀ (j : Nat) u, (cellsSl M)[j]? = some u → w.cell? ⟨b, off + j, none⟩ = some u
theorem SlL.below {w w' : World} {a : Option Addr} {M : List SV} (h : SlL w a M) (k : Below w.heap.size w w') : SlL w' a M := by
  rcases h with h | ⟨b, off, e, h⟩
  · exact .inl h
  · exact .inr ⟨b, off, e, fun j u hj => cell_later k (h j u hj)⟩
theorem OwnSl.lies {w : World} {R n c : Nat} {a : Option Addr} {L : List SV} (h : OwnSl w R (.slice a n c) L) : SlL w a L := by
  rcases h.2 with ⟨e0, h0⟩ | ⟨g, cap, cur, e0, _⟩
  · exact .inl (List.eq_nil_of_length_eq_zero h0)
  · injection e0 with e1 e2 e3
    subst e1
    refine .inr ⟨g, 0, rfl, fun j u hu => ?_⟩
    have := World.ownsRow.cells h (g := g) rfl j u hu
    rwa [Addr.add_mid] at this
theorem cellsSl_take : ∀ (L : List SV) (k : Nat), cellsSl (L.take k) = (cellsSl L).take (k * 5)
  | [], k => by simp [cellsSl]
  | v :: L, 0 => by simp [cellsSl]
  | v :: L, k + 1 => by
    have e : v.cells.take ((k + 1) * 5) = v.cells := List.take_of_length_le (by rw [sl_five]; omega)
    rw [List.take_succ_cons, cellsSl_cons, cellsSl_take L k, cellsSl_cons, List.take_append, sl_five, e, show (k + 1) * 5 - 5 = k * 5 by omega]
theorem cellsSl_drop : ∀ (L : List SV) (k : Nat), cellsSl (L.drop k) = (cellsSl L).drop (k * 5)
  | [], k => by simp [cellsSl]
  | v :: L, 0 => by simp
  | v :: L, k + 1 => by
    have e : v.cells.drop ((k + 1) * 5) = [] := List.drop_eq_nil_of_le (by rw [sl_five]; omega)
    rw [List.drop_succ_cons, cellsSl_drop L k, cellsSl_cons, List.drop_append, sl_five, e, show (k + 1) * 5 - 5 = k * 5 by omega, List.nil_append]
theorem SlL.take {w : World} {a : Option Addr} {L : List SV} (h : SlL w a L) (k : Nat) : SlL w a (L.take k) := by
  rcases h with rfl | ⟨b, off, e, h⟩
  · exact .inl (by simp)
  · refine .inr ⟨b, off, e, fun j u hu => h j u ?_⟩
    rw [cellsSl_take, List.getElem?_take] at hu
    split at hu
    · exact hu
    · cases hu
theorem SlL.drop {w : World} {b off : Nat} {L : List SV} (h : SlL w (some ⟨b, off, none⟩) L) (k : Nat) : SlL w (some ⟨b, off + k * 5, none⟩) (L.drop k) := by
  rcases h with rfl | ⟨b', off', e, h⟩
  · exact .inl (by simp)
  · obtain ⟨rfl, rfl⟩ : b = b' ∧ off = off' := by simpa using e
    refine .inr ⟨b, off + k * 5, rfl, fun j u hu => ?_⟩
    rw [cellsSl_drop, List.getElem?_drop] at hu
    rw [Nat.add_assoc]
    exact h _ u hu
/-- 'append(own, xs...)', whatever xs -/
theorem wp_appS {o : Oper} {act : Act} {w : World} {K : Act → World → Prop} {Q : Exit → Act → World → Prop} (s x : Operand)
    (ho : o.op = .call { callee := .builtin .append, args := #[s, x], argTypes := #[30, 30] })
    (R : Nat) (v : Value) (L : List SV) (hs : act.eval s = v) (hown : OwnSl w R v L)
    (a : Option Addr) (m c : Nat) (M : List SV) (hm : m = M.length) (hx : act.eval x = .slice a m c) (hM : SlL w a M) (hc : m ≤ c)
    (hlen : L.length + M.length ≤ 2000000) (hR : R ≤ w.heap.size)
    (h : ∀ v' w', OwnSl w' R v' (L ++ M) → w.grownBy w' v.ownBlock → K (act.put o.dst v') w') : o.wp Tryd.prog act w K Q := by
  subst hm
  obtain ⟨i0, hi, hz0, hz1, hz2⟩ := info_parts infoSl
  rcases hM with rfl | ⟨b, off, rfl, hM⟩
  · obtain ⟨a0, cap0, rfl, hc0⟩ := OwnSl.tab hown
    have hr := run_append_nothing (P := Tryd.prog) w 30 30 o.type 34 i0 Tryd.underlying30 hi a0 L.length cap0 hc0 (.slice a 0 c) (by
      cases a with
      | none => exact Src.ofNil w Tryd.underlying30 c
      | some ad => exact Src.ofSlice w Tryd.underlying30 ad 0 c [] (by simp) (fun j u h => by simp at h) (fun u h => by cases h))
    unfold Oper.wp execOp
    simp only [ho, resolve, invoke, builtin, Sem.run_bind, Sem.run_pure, Result.andThen_ok, List.map_toArray, List.map_cons, List.map_nil, hs, hx, List.length_nil, hr]
    exact h _ _ (by simpa using hown) (World.grownBy.refl _ _)
  · refine wp_append_own w s x 30 ho R 34 i0 (.agg #[.int .i64 0, .int .i64 0, .int .i64 0, .int .i64 0, .slice none 0 0]) 5 56 Tryd.underlying30 hi hz0 hz1 hz2 rfl (by decide) v L.length (cellsSl L) hs hown ⟨b, off, none⟩ M.length c (cellsSl M) hx (cellsSl_len M) (fun j u hj => by rw [Addr.add_mid]; exact hM j u hj) (oneSl M) (by unfold maxLen; omega) (by omega) hR ?_
    intro v' w' h2 h3 _
    exact h v' w' (by rw [OwnSl, List.length_append, cellsSl_app]; exact h2) h3
end Go.Proofs.YtnnmgbgkgnejlaaDoor
