/-
  The door seat: what the list of five laid variables gives a walk; a world for the witness.
-/
import Derived.Test.YtglmoacgaacmeaaDoorDoorC
import Derived.Test.YtglmoacgaacmeaaDoorDoorE
import Derived.Stop.LaidErr
import Derived.LaidMore
namespace Go.Proofs.YtglmoacgaacmeaaDoor
open Go.RowKit

theorem gSynType : (Tryd.prog.globals[1]?).map (·.type) = some 46 := by kernel_rfl
theorem gRngType : (Tryd.prog.globals[2]?).map (·.type) = some 46 := by kernel_rfl
theorem cellsEs : Tryd.prog.cellsOf 98 = 1 := by kernel_rfl
theorem cellsStr : Tryd.prog.cellsOf 9 = 1 := by kernel_rfl
theorem star : "*" ++ "errors.errorString" = "*errors.errorString" := by decide
theorem rowEs (u : TypeId) (h : Tryd.prog.typeName? 3 u = some "*errors.errorString") : u = 96 :=
  typeName_ptr_named (nm := "errors.errorString") (by rw [star]; kernel_rfl) (by kernel_rfl) (by decide) u (by rw [star]; exact h)

/-- the heap that the program's own laying of its variables leaves -/
noncomputable def doorWorld (os : Os) : World := World.doorLaid Tryd.prog 62 os

theorem facts5 {W : World} {x y : String × DataW Unit} {ra sy : List UInt8}
    (h : laidMet Tryd.prog [x, y, ("internal/strconv.uint64pow10", Lib.tabData .u64 Lib.pow10Tab), ("strconv.ErrRange", .iface "*errors.errorString" (.ptr (.agg [.lit (.string ra)]))), ("strconv.ErrSyntax", .iface "*errors.errorString" (.ptr (.agg [.lit (.string sy)])))] W) : Errs W ∧ Pow W := by
  have h2 := h.tail.tail
  have hp : Pow W := by
    obtain ⟨ps, hv, _⟩ := h2
    exact vars_tab gPow gPowType Tryd.underlying88 Tryd.underlying74 cellsU64 cellsPow hv
  have h3 := h2.tail
  obtain ⟨a1, s1, v1, _⟩ := laid_sentinel h3 gRng gRngType Tryd.underlying46 rowEs Tryd.underlying96 Tryd.underlying98 rfl rfl Tryd.underlying9 cellsEs cellsStr
  obtain ⟨a2, s2, v2, _⟩ := laid_sentinel h3.tail gSyn gSynType Tryd.underlying46 rowEs Tryd.underlying96 Tryd.underlying98 rfl rfl Tryd.underlying9 cellsEs cellsStr
  exact ⟨⟨⟨_, _, v2⟩, _, _, v1⟩, hp⟩
end Go.Proofs.YtglmoacgaacmeaaDoor
