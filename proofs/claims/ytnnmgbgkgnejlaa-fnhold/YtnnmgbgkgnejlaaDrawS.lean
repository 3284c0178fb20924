/-
  The draws of chapter 1's laws: whatever the bytes, small numbers come out, and nothing that was there turns.
-/
import Derived.Test.YtnnmgbgkgnejlaaDrawR
import Derived.Test.YtnnmgbgkgnejlaaJ1
namespace Go.Proofs.Ytnnmgbgkgnejlaa
open Go.RowKit
set_option linter.unusedSimpArgs false

def Small (f b : Int) : Prop := -2 ≤ f ∧ f ≤ 257 ∧ -1 ≤ b ∧ b ≤ 9
def Drawn1 (w : World) (e : Ending) (w' : World) : Prop := ∃ f b, Small f b ∧ e = .returned (.agg #[.int .i64 f, .int .i64 b]) ∧ Below w.heap.size w w'
def DrawnB (w : World) (e : Ending) (w' : World) : Prop := ∃ f b, ∃ u : Bool, Small f b ∧ e = .returned (.tuple #[.agg #[.int .i64 f, .int .i64 b], .bool u]) ∧ Below w.heap.size w w'
def DrawnA (w : World) (e : Ending) (w' : World) : Prop := ∃ f b a, Small f b ∧ (-2 ≤ a ∧ a ≤ 1000) ∧ e = .returned (.tuple #[.agg #[.int .i64 f, .int .i64 b], .int .i64 a]) ∧ Below w.heap.size w w'
def Drawn2 (w : World) (e : Ending) (w' : World) : Prop := ∃ f b g c, Small f b ∧ Small g c ∧ e = .returned (.tuple #[.agg #[.int .i64 f, .int .i64 b], .agg #[.int .i64 g, .int .i64 c]]) ∧ Below w.heap.size w w'

theorem isRow_alloc {w : World} {a : Option Addr} {len cap : Nat} {zs : List Int} (h : IsRow w a len cap zs) (o : Obj) : IsRow (w.alloc o) a len cap zs := by
  rcases h with h | ⟨x, rfl, h1, hm, hz, hc, hw⟩
  · exact .inl h
  · exact .inr ⟨x, rfl, h1, hm, hz, fun i hi => cellA (hc i hi) o, hw⟩

end Go.Proofs.Ytnnmgbgkgnejlaa
