/-
  The heap of a call's own: its variable and its row; Push and Pop.
-/
import Derived.Test.YtioppkalehnoaaaGreatDoorRtHq
import Derived.Lib.Builder
namespace Go.Proofs.YtioppkalehnoaaaGreatDoor
open Go.RowKit
set_option linter.unusedSimpArgs false
set_option linter.unusedVariables false

section
variable {w w' : World} {R H : Nat} {L : List RV} {hv : Value} {K : List Nat}
end
theorem At6.new (w : World) (v : RV) (p : Nat) (t : TypeId) : At6 (w.alloc (.cells #[.int .i64 v.f, .int .i64 v.b, .slice v.a v.P.length v.c, .int .i64 v.l, .slice v.d v.M.length v.e, .int .i64 p] t)) w.heap.size 0 v p :=
  ⟨⟨by simp, by simp, by simp, by simp, by simp, by simp⟩, by simp, by simp, by simp, by simp, by simp, by simp⟩
theorem At6.below {w w' : World} {g o : Nat} {v : RV} {p : Nat} (h : At6 w g o v p) (k : Below w.heap.size w w') : At6 w' g o v p := by
  have lt : g < w.heap.size := World.block_lt_of_cell? w _ h.1.1
  obtain ⟨⟨h0, h1, h2, h3, h4, h5⟩, k0, k1, k2, k3, k4, k5⟩ := h
  exact ⟨⟨cell_later k h0, cell_later k h1, cell_later k h2, cell_later k h3, cell_later k h4, cell_later k h5⟩, by rw [k.frozen (p := ⟨g, o, none⟩) lt]; exact k0, by rw [k.frozen (p := ⟨g, o + 1, none⟩) lt]; exact k1, by rw [k.frozen (p := ⟨g, o + 2, none⟩) lt]; exact k2, by rw [k.frozen (p := ⟨g, o + 3, none⟩) lt]; exact k3, by rw [k.frozen (p := ⟨g, o + 4, none⟩) lt]; exact k4, by rw [k.frozen (p := ⟨g, o + 5, none⟩) lt]; exact k5⟩
end Go.Proofs.YtioppkalehnoaaaGreatDoor
