/-
  Own slices of seals, more than one appended; what lies below a mark stays.
-/
import Derived.Test.YtnnmgbgkgnejlaaDoorSlDr
import Derived.Test.YtnnmgbgkgnejlaaDoorSlAp
namespace Go.Proofs.YtnnmgbgkgnejlaaDoor
open Go.RowKit
set_option linter.unusedSimpArgs false
set_option linter.unusedVariables false

/-- 'append(own, holding)' -/
theorem wp_appH {o : Oper} {act : Act} {w : World} {K : Act → World → Prop} {Q : Exit → Act → World → Prop} (s x : Operand)
    (ho : o.op = .call { callee := .builtin .append, args := #[s, x], argTypes := #[40, 40] })
    (R : Nat) (v : Value) (L : List HV) (hs : act.eval s = v) (hown : OwnHv w R v L)
    (D m c : Nat) (M : List HV) (hm : m = M.length) (hx : act.eval x = .slice (some ⟨D, 0, none⟩) m c) (hM : ∀ (j : Nat) u, (cellsHv M)[j]? = some u → w.cell? ⟨D, j, none⟩ = some u) (hlen : L.length + M.length ≤ 2000000) (hR : R ≤ w.heap.size)
    (h : ∀ v' w', OwnHv w' R v' (L ++ M) → w.grownBy w' v.ownBlock → K (act.put o.dst v') w') : o.wp Tryd.prog act w K Q := by
  subst hm
  obtain ⟨i0, hi, hz0, hz1, hz2⟩ := info_parts infoHv
  refine wp_append_own w s x 40 ho R 48 i0 (.agg #[.int .i64 0, .int .i64 0, .int .i64 0]) 3 24 Tryd.underlying40 hi hz0 hz1 hz2 rfl (by decide) v L.length (cellsHv L) hs hown ⟨D, 0, none⟩ M.length c (cellsHv M) hx (cellsHv_len M) (fun j u hj => by rw [Addr.add_mid, Nat.zero_add]; exact hM j u hj) (oneHv M) (by unfold maxLen; omega) (by omega) hR ?_
  intro v' w' h2 h3 _
  exact h v' w' (by rw [OwnHv, List.length_append, cellsHv_app]; exact h2) h3
/-- seals of one's own, and their paths -/
def SlO (w : World) (R : Nat) (v : Value) (L : List SV) : Prop := OwnSl w R v L ∧ ∀ x ∈ L, OwnI w R x.s x.P
theorem SlR.slo {w : World} {R : Nat} {v : Value} {L : List SV} (h : SlR w R v L) : SlO w R v L := ⟨h.row, h.own⟩
section
variable {w w' : World} {R : Nat} {v v' : Value} {L M : List SV}
theorem SlO.later (h : SlO w R v L) (k : Below w.heap.size w w') : SlO w' R v L := ⟨ownsl_later h.1 k, fun x hx => owni_later (h.2 x hx) k⟩
theorem SlO.mono {R' : Nat} (h : SlO w R v L) (k : R' ≤ R) : SlO w R' v L := ⟨World.ownsRow.mono h.1 k, fun x hx => owni_mono (h.2 x hx) k⟩
/-- a block below was written -/
theorem SlO.pick {B : Nat} (h : SlO w R v L) (hg : w.grownBy w' (some B)) (hB : B < R) : SlO w' R v L :=
  ⟨World.ownsRow.kept h.1 hg (by
    cases e : v.ownBlock with
    | none => exact .inl rfl
    | some k => exact .inr (fun h2 => by have := (World.ownsRow.lt h.1 k e).1; simp at h2; omega)), fun x hx => owni_pick (h.2 x hx) hg hB⟩
/-- a row of holdings was written -/
theorem SlO.held {R2 : Nat} {v2 : Value} {H : List HV} (h : SlO w R v L) (h2 : OwnHv w R2 v2 H) (hg : w.grownBy w' v2.ownBlock) : SlO w' R v L :=
  ⟨World.ownsRow.kept h.1 hg (slrows_apart h.1 h2 (by decide)), fun x hx => World.ownsRow.kept (h.2 x hx) hg (slrows_apart (h.2 x hx) h2 (by decide))⟩
/-- more seals -/
theorem SlO.app (h : SlO w R v L) (h2 : ∀ x ∈ M, OwnI w R x.s x.P) (own : OwnSl w' R v' (L ++ M)) (grow : w.grownBy w' v.ownBlock) : SlO w' R v' (L ++ M) :=
  ⟨own, fun x hx => by
    have : OwnI w R x.s x.P := (List.mem_append.1 hx).elim (h.2 x) (h2 x)
    exact World.ownsRow.kept this grow (slrows_apart this h.1 (by decide))⟩
theorem SlO.lt (h : SlO w R v L) : ∀ k, v.ownBlock = some k → R ≤ k := fun k hk => (World.ownsRow.lt h.1 k hk).1
end
/-- holdings stay where seals are written -/
theorem OwnHv.seals {w w' : World} {R R2 : Nat} {v v2 : Value} {H : List HV} {L : List SV} (h : OwnHv w R v H) (h2 : OwnSl w R2 v2 L) (hg : w.grownBy w' v2.ownBlock) : OwnHv w' R v H := World.ownsRow.kept h hg (slrows_apart h h2 (by decide))
/-- ints stay where seals, or holdings, are written -/
theorem OwnI.seals {w w' : World} {R R2 : Nat} {v v2 : Value} {P : List Int} {L : List SV} (h : OwnI w R v P) (h2 : OwnSl w R2 v2 L) (hg : w.grownBy w' v2.ownBlock) : OwnI w' R v P := World.ownsRow.kept h hg (slrows_apart h h2 (by decide))
theorem OwnI.helds {w w' : World} {R R2 : Nat} {v v2 : Value} {P : List Int} {L : List HV} (h : OwnI w R v P) (h2 : OwnHv w R2 v2 L) (hg : w.grownBy w' v2.ownBlock) : OwnI w' R v P := World.ownsRow.kept h hg (slrows_apart h h2 (by decide))
end Go.Proofs.YtnnmgbgkgnejlaaDoor
