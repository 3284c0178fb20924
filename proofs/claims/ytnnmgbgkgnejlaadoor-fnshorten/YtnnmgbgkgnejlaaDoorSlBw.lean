/-
  A route's variable among rows of ints.
-/
import Derived.Test.YtnnmgbgkgnejlaaDoorSlBv
namespace Go.Proofs.YtnnmgbgkgnejlaaDoor
open Go.RowKit
set_option linter.unusedSimpArgs false
set_option linter.unusedVariables false

abbrev zR5 : List Value := [.int .i64 0, .int .i64 0, .slice none 0 0, .int .i64 0, .slice none 0 0]
abbrev OwnRX (w : World) (R g : Nat) : Prop := w.ownsRow R 27 5 (.slice (some ⟨g, 0, none⟩) 1 1) 1 zR5
theorem rb_zero (w : World) (R : Nat) (hR : R ≤ w.heap.size) : OwnRX (w.alloc (.cells #[.int .i64 0, .int .i64 0, .slice none 0 0, .int .i64 0, .slice none 0 0] 27)) R w.heap.size := World.ownsRow_lit w #[.int .i64 0, .int .i64 0, .slice none 0 0, .int .i64 0, .slice none 0 0] 1 hR (by unfold maxLen; omega) rfl
theorem OwnRX.aty {w : World} {R g : Nat} (h : OwnRX w R g) : AtY w g zR5 := fun j u hj => by
  have c := World.ownsRow.cells h (g := g) rfl j u hj
  rw [Addr.add_mid, Nat.zero_add] at c
  exact ⟨c, World.ownsRow.frozenAt h j⟩
theorem OwnRX.later {w w' : World} {R g : Nat} (h : OwnRX w R g) (k : Below w.heap.size w w') : OwnRX w' R g := h.kept (row := none) ⟨k.os, k.tape, k.output, k.size, fun i hi _ => k.block i hi⟩ (.inr (by simp [Value.ownBlock]))
theorem OwnRX.app {w w' : World} {R g : Nat} {v : Value} {L : List Int} (h : OwnRX w R g) (o : OwnI w R v L) (gr : w.grownBy w' v.ownBlock) : OwnRX w' R g := World.ownsRow.kept h gr (slrows_apart h o (by decide))
/-- a route with another path was laid into its variable -/
def LessE (wk wx : World) (nb : Nat) (xa : Option Addr) (xc : Nat) (D3 : List Int) (f b : Int) (d : Option Addr) (e : Nat) (M : List Int) : Prop :=
  D3.length ≤ xc ∧ IntA wx xa D3 ∧ AtY wx nb [.int .i64 f, .int .i64 b, .slice xa D3.length xc, .int .i64 0, .slice d M.length e] ∧ Below wk.heap.size wk wx
theorem less_end {wk w1 wx : World} {nb : Nat} {xa : Option Addr} {xc : Nat} {D3 : List Int} {f b : Int} {d : Option Addr} {e : Nat} {M : List Int} (bb : Below wk.heap.size wk w1) (z : OwnRX w1 wk.heap.size nb) (o : OwnI w1 wk.heap.size (.slice xa D3.length xc) D3)
    (aa : AtY wx nb [.int .i64 f, .int .i64 b, .slice xa D3.length xc, .int .i64 0, .slice d M.length e]) (gg : w1.grownBy wx (some nb)) : LessE wk wx nb xa xc D3 f b d e M := by
  have o2 : OwnI wx wk.heap.size (.slice xa D3.length xc) D3 := World.ownsRow.kept o gg (slrows_apart o z (by decide))
  exact ⟨(OwnI.intA o).2.1, (OwnI.intA o2).2.2, aa, bb.grown gg bb.size (fun k hk => by cases hk; exact (World.ownsRow.lt z nb rfl).1)⟩
end Go.Proofs.YtnnmgbgkgnejlaaDoor
