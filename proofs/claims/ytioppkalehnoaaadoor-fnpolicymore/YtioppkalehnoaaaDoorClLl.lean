/-
  Laws on drawn policies: what they lean on.
-/
import Derived.Test.YtioppkalehnoaaaDoorClSd
import Derived.Test.YtioppkalehnoaaaDoorClDu
import Derived.Test.YtioppkalehnoaaaDoorRtLw
import Derived.Test.YtioppkalehnoaaaDoorRtTo
namespace Go.Proofs.YtioppkalehnoaaaDoor
open Go.RowKit
set_option linter.unusedSimpArgs false
set_option linter.unusedVariables false

theorem rin_c {f b g c : Int} {x : Bool} (h : inB f b g c = x) (w : World) :
    Calls Tryd.prog 21 #[.agg #[.int .i64 f, .int .i64 b], .agg #[.int .i64 g, .int .i64 c]] w fun e w' => e = .returned (.bool x) ∧ Below w.heap.size w w' := by
  rw [← h]; exact rin_any f b g c w
theorem OwnC.cs {w : World} {R n cap : Nat} {a : Option Addr} {L : List CL} (h : OwnC w R (.slice a n cap) L) : CsA w a L := by
  obtain ⟨a', c', e, _, h2⟩ := OwnC.tab h
  injection e with e1 _ _
  rw [e1]; exact h2

end Go.Proofs.YtioppkalehnoaaaDoor
