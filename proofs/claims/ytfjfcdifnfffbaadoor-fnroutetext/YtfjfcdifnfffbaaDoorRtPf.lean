/-
  What the list of laid variables gives: the error's variable and the table of powers of ten.
-/
import Derived.Test.YtfjfcdifnfffbaaDoorDoorC
import Derived.Test.YtfjfcdifnfffbaaDoorPOpen
namespace Go.Proofs.YtfjfcdifnfffbaaDoor
open Go.RowKit Go.Joins

theorem pow_fact {W : World} {text : List UInt8} {x y : String × DataW Unit} (h : laidMet Tryd.prog [x, y, ("internal/strconv.uint64pow10", Lib.tabData .u64 Lib.pow10Tab), ("loop.example/wayboard/impl.errNoPath", .iface "*errors.errorString" (.ptr (.agg [.lit (.string text)])))] W) : ∃ p, ErrIs W p ∧ Pow W := by
  have h2 := h.tail.tail
  have hp : Pow W := by
    obtain ⟨ps, hv, _⟩ := h2
    exact vars_tab gPow gPowType Tryd.underlying159 Tryd.underlying152 cellsU64 cellsPow hv
  obtain ⟨p, hq⟩ := err_fact h2.tail
  exact ⟨p, hq, hp⟩
end Go.Proofs.YtfjfcdifnfffbaaDoor
