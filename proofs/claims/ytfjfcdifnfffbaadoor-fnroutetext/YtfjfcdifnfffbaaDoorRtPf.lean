/-
  What the list of laid variables gives: the error's variable and the table of powers of ten.
-/
import Derived.Test.YtfjfcdifnfffbaaDoorDoorB
import Derived.Lib.LaidTab
import Derived.Test.YtfjfcdifnfffbaaDoorPOpen
namespace Go.Proofs.YtfjfcdifnfffbaaDoor
open Go.RowKit Go.Joins

theorem tvars_tab {P : Program} {W : World} {name : String} {k : IntKind} {zs : List Int} {rest : List (String × DataW Unit)} {g : Nat} {t e : TypeId} {n : Nat} {ps : List MemPlace}
    (hg : P.globalNamed name = some g) (hty : (P.globals[g]?).map (·.type) = some t) (ht : P.underlying t = some (.array n e)) (he : P.underlying e = some (.int k)) (hce : P.cellsOf e = 1) (hct : P.cellsOf t = n)
    (h : DataW.LaidVars P W ((name, Lib.tabData k zs) :: rest) ps) : Lib.TabIs P W name k zs := by
  obtain ⟨g', t', cs, fuel, p, q, hg', ht', hvar, hd, _, _⟩ := h
  obtain rfl := Option.some.inj (hg.symm.trans hg')
  obtain rfl := Option.some.inj (hty.symm.trans ht')
  unfold Lib.TabIs
  rw [hvar, ← Lib.cells_of_tab ht he hce hct hd]
theorem tgPowType : (Tryd.prog.globals[1]?).map (·.type) = some 159 := by kernel_rfl
theorem tcellsPow : Tryd.prog.cellsOf 159 = 20 := by kernel_rfl
theorem tcellsU64 : Tryd.prog.cellsOf 152 = 1 := by kernel_rfl

theorem pow_fact {W : World} {text : List UInt8} {x y : String × DataW Unit} (h : laidMet Tryd.prog [x, y, ("internal/strconv.uint64pow10", Lib.tabData .u64 Lib.pow10Tab), ("loop.example/wayboard/impl.errNoPath", .iface "*errors.errorString" (.ptr (.agg [.lit (.string text)])))] W) : ∃ p, ErrIs W p ∧ Pow W := by
  have h2 := h.tail.tail
  have hp : Pow W := by
    obtain ⟨ps, hv, _⟩ := h2
    exact tvars_tab gPow tgPowType Tryd.underlying159 Tryd.underlying152 tcellsU64 tcellsPow hv
  obtain ⟨p, hq⟩ := err_fact h2.tail
  exact ⟨p, hq, hp⟩
end Go.Proofs.YtfjfcdifnfffbaaDoor
