/-
  What the lists of laid variables give: the error's variable and the table of powers of ten.
-/
import Derived.Test.YtnnmgbgkgnejlaaDoorSlKk
import Derived.Lib.LaidTab
import Derived.Test.YtnnmgbgkgnejlaaDoorPOpen
namespace Go.Proofs.YtnnmgbgkgnejlaaDoor
open Go.RowKit Go.Joins

theorem svars_tab {P : Program} {W : World} {name : String} {k : IntKind} {zs : List Int} {rest : List (String × DataW Unit)} {g : Nat} {t e : TypeId} {n : Nat} {ps : List MemPlace}
    (hg : P.globalNamed name = some g) (hty : (P.globals[g]?).map (·.type) = some t) (ht : P.underlying t = some (.array n e)) (he : P.underlying e = some (.int k)) (hce : P.cellsOf e = 1) (hct : P.cellsOf t = n)
    (h : DataW.LaidVars P W ((name, Lib.tabData k zs) :: rest) ps) : Lib.TabIs P W name k zs := by
  obtain ⟨g', t', cs, fuel, p, q, hg', ht', hvar, hd, _, _⟩ := h
  obtain rfl := Option.some.inj (hg.symm.trans hg')
  obtain rfl := Option.some.inj (hty.symm.trans ht')
  unfold Lib.TabIs
  rw [hvar, ← Lib.cells_of_tab ht he hce hct hd]
theorem sPowType : (Tryd.prog.globals[1]?).map (·.type) = some 161 := by kernel_rfl
theorem scellsPow : Tryd.prog.cellsOf 161 = 20 := by kernel_rfl
theorem scellsU64 : Tryd.prog.cellsOf 151 = 1 := by kernel_rfl
theorem pows_fact {W : World} {x y : String × DataW Unit} {r : List (String × DataW Unit)} (h : laidMet Tryd.prog (x :: y :: ("internal/strconv.uint64pow10", Lib.tabData .u64 Lib.pow10Tab) :: r) W) : PowS W := by
  have h2 := h.tail.tail
  obtain ⟨ps, hv, _⟩ := h2
  exact svars_tab gPowS sPowType Tryd.underlying161 Tryd.underlying151 scellsU64 scellsPow hv
theorem seal_fact {W : World} {text : List UInt8} {x y : String × DataW Unit} (h : laidMet Tryd.prog [x, y, ("internal/strconv.uint64pow10", Lib.tabData .u64 Lib.pow10Tab), ("loop.example/wayboard/impl.errNoPath", .iface "*errors.errorString" (.ptr (.agg [.lit (.string text)])))] W) : ∃ p, ErrIs W p ∧ PowS W := by
  obtain ⟨p, hq⟩ := err_fact h.tail.tail.tail
  exact ⟨p, hq, pows_fact h⟩
end Go.Proofs.YtnnmgbgkgnejlaaDoor
