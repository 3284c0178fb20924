/-
  Appends of seals and of holdings at a walk; what the new slices are.
-/
import Derived.Test.YtnnmgbgkgnejlaaDoorSlDn
import Derived.Test.YtnnmgbgkgnejlaaDoorSlOw
namespace Go.Proofs.YtnnmgbgkgnejlaaDoor
open Go.RowKit
set_option linter.unusedSimpArgs false
set_option linter.unusedVariables false

/-- holdings that lie somewhere, one behind the other -/
def HvL (w : World) (a : Option Addr) (M : List HV) : Prop := M = [] ∨ ∃ b off, a = some ⟨b, off, none⟩ ∧ ∀ (j : Nat) u, (cellsHv M)[j]? = some u → w.cell? ⟨b, off + j, none⟩ = some u
theorem HvL.below {w w' : World} {a : Option Addr} {M : List HV} (h : HvL w a M) (k : Below w.heap.size w w') : HvL w' a M := by
  rcases h with h | ⟨b, off, e, h⟩
  · exact .inl h
  · exact .inr ⟨b, off, e, fun j u hj => cell_later k (h j u hj)⟩
theorem OwnHv.lies {w : World} {R n c : Nat} {a : Option Addr} {L : List HV} (h : OwnHv w R (.slice a n c) L) : HvL w a L := by
  rcases h.2 with ⟨e0, h0⟩ | ⟨g, cap, cur, e0, _⟩
  · exact .inl (List.eq_nil_of_length_eq_zero h0)
  · injection e0 with e1 e2 e3
    subst e1
    refine .inr ⟨g, 0, rfl, fun j u hu => ?_⟩
    have := World.ownsRow.cells h (g := g) rfl j u hu
    rwa [Addr.add_mid] at this
theorem hvl_one (w : World) (h f b : Int) : HvL (w.alloc (.cells #[.int .i64 h, .int .i64 f, .int .i64 b] 48)) (some ⟨w.heap.size, 0, none⟩) [⟨h, f, b⟩] :=
  .inr ⟨_, 0, rfl, fun j u hj => by
    match j, hj with
    | 0, hj | 1, hj | 2, hj => simp [cellsHv, HV.cells] at hj; subst hj; simp
    | n + 3, hj => simp [cellsHv, HV.cells] at hj⟩
theorem sll_one (w : World) (y t f b : Int) (a : Option Addr) (c : Nat) (P : List Int) : SlL (w.alloc (.cells #[.int .i64 y, .int .i64 t, .int .i64 f, .int .i64 b, .slice a P.length c] 34)) (some ⟨w.heap.size, 0, none⟩) [⟨y, t, f, b, a, c, P⟩] :=
  .inr ⟨_, 0, rfl, fun j u hj => by
    have h5 := AtY.new5 w (.int .i64 y) (.int .i64 t) (.int .i64 f) (.int .i64 b) (.slice a P.length c) 34
    rw [Nat.zero_add]; exact (h5 j u (by simpa [cellsSl, SV.cells] using hj)).1⟩
theorem ownsl_one (w : World) (R : Nat) (hR : R ≤ w.heap.size) (y t f b : Int) (a : Option Addr) (c : Nat) (P : List Int) : OwnSl (w.alloc (.cells #[.int .i64 y, .int .i64 t, .int .i64 f, .int .i64 b, .slice a P.length c] 34)) R (.slice (some ⟨w.heap.size, 0, none⟩) 1 1) [⟨y, t, f, b, a, c, P⟩] :=
  World.ownsRow_lit w #[.int .i64 y, .int .i64 t, .int .i64 f, .int .i64 b, .slice a P.length c] 1 hR (by unfold maxLen; omega) rfl
theorem ownhv_one (w : World) (R : Nat) (hR : R ≤ w.heap.size) (h f b : Int) : OwnHv (w.alloc (.cells #[.int .i64 h, .int .i64 f, .int .i64 b] 48)) R (.slice (some ⟨w.heap.size, 0, none⟩) 1 1) [⟨h, f, b⟩] :=
  World.ownsRow_lit w #[.int .i64 h, .int .i64 f, .int .i64 b] 1 hR (by unfold maxLen; omega) rfl
/-- 'append(own, holdings...)', whatever holdings -/
theorem wp_apH {o : Oper} {act : Act} {w : World} {K : Act → World → Prop} {Q : Exit → Act → World → Prop} (s x : Operand)
    (ho : o.op = .call { callee := .builtin .append, args := #[s, x], argTypes := #[40, 40] })
    (R : Nat) (v : Value) (L : List HV) (hs : act.eval s = v) (hown : OwnHv w R v L)
    (a : Option Addr) (m c : Nat) (M : List HV) (hm : m = M.length) (hx : act.eval x = .slice a m c) (hM : HvL w a M) (hc : m ≤ c)
    (hlen : L.length + M.length ≤ 2000000) (hR : R ≤ w.heap.size)
    (h : ∀ v' w', OwnHv w' R v' (L ++ M) → w.grownBy w' v.ownBlock → K (act.put o.dst v') w') : o.wp Tryd.prog act w K Q := by
  subst hm
  obtain ⟨i0, hi, hz0, hz1, hz2⟩ := info_parts infoHv
  rcases hM with rfl | ⟨b, off, rfl, hM⟩
  · obtain ⟨a0, cap0, rfl, hc0⟩ := OwnHv.tab hown
    have hr := run_append_nothing (P := Tryd.prog) w 40 40 o.type 48 i0 Tryd.underlying40 hi a0 L.length cap0 hc0 (.slice a 0 c) (by
      cases a with
      | none => exact Src.ofNil w Tryd.underlying40 c
      | some ad => exact Src.ofSlice w Tryd.underlying40 ad 0 c [] (by simp) (fun j u h => by simp at h) (fun u h => by cases h))
    unfold Oper.wp execOp
    simp only [ho, resolve, invoke, builtin, Sem.run_bind, Sem.run_pure, Result.andThen_ok, List.map_toArray, List.map_cons, List.map_nil, hs, hx, List.length_nil, hr]
    exact h _ _ (by simpa using hown) (World.grownBy.refl _ _)
  · refine wp_append_own w s x 40 ho R 48 i0 (.agg #[.int .i64 0, .int .i64 0, .int .i64 0]) 3 24 Tryd.underlying40 hi hz0 hz1 hz2 rfl (by decide) v L.length (cellsHv L) hs hown ⟨b, off, none⟩ M.length c (cellsHv M) hx (cellsHv_len M) (fun j u hj => by rw [Addr.add_mid]; exact hM j u hj) (oneHv M) (by unfold maxLen; omega) (by omega) hR ?_
    intro v' w' h2 h3 _
    exact h v' w' (by rw [OwnHv, List.length_append, cellsHv_app]; exact h2) h3
theorem wpList_apH {ops : Array Oper} {rest : List Oper} {o : Oper} {act : Act} {w : World} {Q : Exit → Act → World → Prop} (hgd : o.guard = none) (s x : Operand)
    (ho : o.op = .call { callee := .builtin .append, args := #[s, x], argTypes := #[40, 40] })
    (R : Nat) (v : Value) (L : List HV) (hs : act.eval s = v) (hown : OwnHv w R v L)
    (a : Option Addr) (m c : Nat) (M : List HV) (hm : m = M.length) (hx : act.eval x = .slice a m c) (hM : HvL w a M) (hc : m ≤ c)
    (hlen : L.length + M.length ≤ 2000000) (hR : R ≤ w.heap.size)
    (h : ∀ v' w', OwnHv w' R v' (L ++ M) → w.grownBy w' v.ownBlock → wpList Tryd.prog ops Q rest (act.put o.dst v') w') : wpList Tryd.prog ops Q (o :: rest) act w :=
  wpList_plain hgd fun _ hK => wp_apH s x ho R v L hs hown a m c M hm hx hM hc hlen hR (fun v' w' h2 h3 => hK _ _ (h v' w' h2 h3))
theorem wpList_apS {ops : Array Oper} {rest : List Oper} {o : Oper} {act : Act} {w : World} {Q : Exit → Act → World → Prop} (hgd : o.guard = none) (s x : Operand)
    (ho : o.op = .call { callee := .builtin .append, args := #[s, x], argTypes := #[30, 30] })
    (R : Nat) (v : Value) (L : List SV) (hs : act.eval s = v) (hown : OwnSl w R v L)
    (a : Option Addr) (m c : Nat) (M : List SV) (hm : m = M.length) (hx : act.eval x = .slice a m c) (hM : SlL w a M) (hc : m ≤ c)
    (hlen : L.length + M.length ≤ 2000000) (hR : R ≤ w.heap.size)
    (h : ∀ v' w', OwnSl w' R v' (L ++ M) → w.grownBy w' v.ownBlock → wpList Tryd.prog ops Q rest (act.put o.dst v') w') : wpList Tryd.prog ops Q (o :: rest) act w :=
  wpList_plain hgd fun _ hK => wp_appS s x ho R v L hs hown a m c M hm hx hM hc hlen hR (fun v' w' h2 h3 => hK _ _ (h v' w' h2 h3))
/-- an append onto a row that is younger than a world leaves it as it was -/
theorem below_app {w w1 w2 : World} {v : Value} {R z n : Nat} {e : TypeId} {xs : List Value} (h : Below w.heap.size w w1) (ho : w1.ownsRow R e z v n xs) (hR : w.heap.size ≤ R) (hg : w1.grownBy w2 v.ownBlock) : Below w.heap.size w w2 :=
  h.grown hg h.size (fun k hk => Nat.le_trans hR (World.ownsRow.lt ho k hk).1)
/-- all that the laws lean on: holdings, seals and a route in a variable -/
structure Sg (w0 w : World) (p : Addr) (X : Nat) (f b : Int) (a : Option Addr) (c : Nat) (P : List Int) (l : Int) (d : Option Addr) (e : Nat) (M : List Int) (al : Option Addr) (L : List SV) (ah : Option Addr) (H : List HV) : Prop where
  sm : Sm w0 w p X f b a c P l d e M
  hv : HvA w ah H
  hl : HvL w ah H
  sl : SlA w al L
  ll : SlL w al L
theorem Sg.go {w0 w w' : World} {p : Addr} {X : Nat} {f b : Int} {a : Option Addr} {c : Nat} {P : List Int} {l : Int} {d : Option Addr} {e : Nat} {M : List Int} {al : Option Addr} {L : List SV} {ah : Option Addr} {H : List HV} (h : Sg w0 w p X f b a c P l d e M al L ah H) (k : Below w.heap.size w w') : Sg w0 w' p X f b a c P l d e M al L ah H :=
  ⟨h.sm.go k, h.hv.below k, h.hl.below k, h.sl.below k, h.ll.below k⟩
theorem Sg.mk' {w0 w1 w2 : World} {p : Addr} {f b : Int} {a : Option Addr} {c : Nat} {P : List Int} {l : Int} {d : Option Addr} {e : Nat} {M : List Int} {al : Option Addr} {cl : Nat} {L : List SV} {ah : Option Addr} {ch : Nat} {H : List HV} {o : Obj} (hb : Below w0.heap.size w0 w1) (hr : RtM w1 a c P d e M) (he : EV w0 p) (ht : PowS w0)
    (oH : OwnHv w1 w0.heap.size (.slice ah H.length ch) H) (oL : SlO w1 w0.heap.size (.slice al L.length cl) L) (sA : SlA w1 al L)
    (aa : AtY w2 w1.heap.size [.int .i64 f, .int .i64 b, .slice a P.length c, .int .i64 l, .slice d M.length e]) (gg : (w1.alloc o).grownBy w2 (some w1.heap.size)) : Sg w0 w2 p w1.heap.size f b a c P l d e M al L ah H := by
  obtain ⟨bb, hs⟩ := Sm.mk' (o := o) hb hr he ht aa gg
  exact ⟨hs, (OwnHv.hva oH).below bb, (OwnHv.lies oH).below bb, sA.below bb, (OwnSl.lies oL.1).below bb⟩
end Go.Proofs.YtnnmgbgkgnejlaaDoor
