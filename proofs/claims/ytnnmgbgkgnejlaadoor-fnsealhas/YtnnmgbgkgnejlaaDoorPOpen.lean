/-
  A slice of ints as an argument: from what the statement reads to what the walks ask; what the laid variables give a walk.
-/
import Derived.Test.YtnnmgbgkgnejlaaDoorChecked
import Derived.Test.YtnnmgbgkgnejlaaDoorJ2
import Derived.ProofKit
import Derived.OpenShut
import Derived.ShutString
import Derived.ChangeOld
import Derived.Below
import Derived.Lib.SmallJoins
import Derived.Deep.Slices
import Derived.Stop.LaidErr
import Derived.LaidMore
namespace Go.Proofs.YtnnmgbgkgnejlaaDoor
open Go.ChangeShapes Go.WideShapes Go.ChangeAt Go.RowKit Go.Joins Go.Deep

theorem cellsInt : Tryd.prog.cellsOf 3 = 1 := by kernel_rfl
section
variable {H : Type} {enc : TypeId × Value → H} {W : World} {base : Nat} {spare : Nat → Bool} {held : Bool}
/-- a slice of ints that came in -/
theorem open_intS {a : Option Addr} {len cap : Nat} {d : DataW H} {p : List MemPlace} (h : DataW.Trod enc Tryd.prog W base spare held 25 (.slice a len cap) d p) :
    ∃ L : List Int, L.length = len ∧ IntA W a L ∧ len ≤ cap ∧ len ≤ 9223372036854775807 := by
  obtain ⟨fuel, hf⟩ := h
  rcases open_ints Tryd.underlying25 Tryd.underlying3 cellsInt hf with ⟨hcs, _⟩ | ⟨x, l, c, zs, hcs, _, hl, hm, hz, _, hcell, _⟩
  · simp [Value.cells] at hcs
    obtain ⟨rfl, rfl, rfl⟩ := hcs
    exact ⟨[], rfl, .inl rfl, Nat.le_refl _, by omega⟩
  · simp [Value.cells] at hcs
    obtain ⟨rfl, rfl, rfl⟩ := hcs
    have hlm : len ≤ zs.length := by rw [hz]; split <;> omega
    refine ⟨zs.take len, by rw [List.length_take]; omega, ?_, hl, by unfold maxLen at hm; omega⟩
    by_cases h0 : len = 0
    · subst h0; exact .inl (by simp)
    · obtain ⟨b, off, spot⟩ := x
      have hspot : spot = none := by simpa [Addr.add] using World.cell?_spot (hcell 0 (by omega))
      subst hspot
      refine .inr ⟨b, off, rfl, fun i e hi => ?_⟩
      rw [List.getElem?_take] at hi
      split at hi
      · obtain ⟨h1, h2⟩ := List.getElem?_eq_some_iff.1 hi
        have := hcell i h1
        rw [Addr.add_lit] at this
        rw [this, List.getD_eq_getElem?_getD, hi]
        rfl
      · cases hi
end

abbrev errName : String := "loop.example/wayboard/impl.errNoPath"
theorem gErr : Tryd.prog.globalNamed "loop.example/wayboard/impl.errNoPath" = some 0 := by kernel_rfl
theorem gErrType : (Tryd.prog.globals[0]?).map (·.type) = some 108 := by kernel_rfl
theorem cellsEs : Tryd.prog.cellsOf 192 = 1 := by kernel_rfl
theorem cellsStr : Tryd.prog.cellsOf 9 = 1 := by kernel_rfl
theorem star : "*" ++ "errors.errorString" = "*errors.errorString" := by decide
theorem rowEs (u : TypeId) (h : Tryd.prog.typeName? 3 u = some "*errors.errorString") : u = 168 :=
  typeName_ptr_named (nm := "errors.errorString") (by rw [star]; kernel_rfl) (by kernel_rfl) (by decide) u (by rw [star]; exact h)
/-- the heap that the program's own laying of its variables leaves -/
noncomputable def doorWorld (os : Os) : World := World.doorLaid Tryd.prog 43 os

/-- what the error's variable reads as -/
def ErrIs (W : World) (p : Addr) : Prop := W.var? Tryd.prog "loop.example/wayboard/impl.errNoPath" = some #[errV p]
theorem ErrIs.ev {W : World} {p : Addr} (h : ErrIs W p) : EV W p := by
  have := World.var?_cell gErr h 0
  simpa [EV] using this
theorem err_fact {W : World} {text : List UInt8} {r : List (String × DataW Unit)} (h : laidMet Tryd.prog (("loop.example/wayboard/impl.errNoPath", .iface "*errors.errorString" (.ptr (.agg [.lit (.string text)]))) :: r) W) : ∃ p, ErrIs W p := by
  obtain ⟨a1, s1, v1, _⟩ := laid_sentinel h gErr gErrType Tryd.underlying108 rowEs Tryd.underlying168 Tryd.underlying192 rfl rfl Tryd.underlying9 cellsEs cellsStr
  exact ⟨a1, v1⟩
theorem one_fact {W : World} {text : List UInt8} (h : laidMet Tryd.prog [("loop.example/wayboard/impl.errNoPath", .iface "*errors.errorString" (.ptr (.agg [.lit (.string text)])))] W) : ∃ p, ErrIs W p ∧ True := by
  obtain ⟨p, hp⟩ := err_fact h
  exact ⟨p, hp, trivial⟩
theorem text_fact {W : World} {text : List UInt8} {x y z : String × DataW Unit} (h : laidMet Tryd.prog [x, y, z, ("loop.example/wayboard/impl.errNoPath", .iface "*errors.errorString" (.ptr (.agg [.lit (.string text)])))] W) : ∃ p, ErrIs W p ∧ True := one_fact h.tail.tail.tail
end Go.Proofs.YtnnmgbgkgnejlaaDoor
