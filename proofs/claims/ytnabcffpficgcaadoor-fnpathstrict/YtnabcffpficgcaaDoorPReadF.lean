/-
  What the laid variables, and the world's shape, give the walks that read.
-/
import Derived.Test.YtnabcffpficgcaaDoorPOpen
import Derived.Test.YtnabcffpficgcaaDoorPLawG
import Derived.Lay
import Derived.Deep.DeepWitnessRowRef
namespace Go.Proofs.YtnabcffpficgcaaDoor
open Go.RowKit

theorem pgSynType : (Tryd.prog.globals[1]?).map (·.type) = some 48 := by kernel_rfl
theorem pgRngType : (Tryd.prog.globals[2]?).map (·.type) = some 48 := by kernel_rfl
theorem maxI_of {W : World} (h : W.ShapedOpen Tryd.prog) : MaxI W := Tryd.laysM146.s1_3 W h
theorem read_fact {W : World} {x y z u v : String × DataW Unit} {ra sy text : List UInt8}
    (h : laidMet Tryd.prog [x, y, z, u, ("strconv.ErrRange", .iface "*errors.errorString" (.ptr (.agg [.lit (.string ra)]))), ("strconv.ErrSyntax", .iface "*errors.errorString" (.ptr (.agg [.lit (.string sy)]))), ("loop.example/wayboard/impl.errNoPath", .iface "*errors.errorString" (.ptr (.agg [.lit (.string text)]))), v] W) (hs : W.ShapedOpen Tryd.prog) : ∃ p, ErrIs W p ∧ PErrs W ∧ MaxI W := by
  have h4 := h.tail.tail.tail.tail
  obtain ⟨a1, s1, v1, _⟩ := laid_sentinel h4 pgRng pgRngType Tryd.underlying48 rowEs Tryd.underlying131 Tryd.underlying133 rfl rfl Tryd.underlying9 cellsEs cellsStr
  obtain ⟨a2, s2, v2, _⟩ := laid_sentinel h4.tail pgSyn pgSynType Tryd.underlying48 rowEs Tryd.underlying131 Tryd.underlying133 rfl rfl Tryd.underlying9 cellsEs cellsStr
  obtain ⟨p, hp⟩ := err_fact h4.tail.tail
  exact ⟨p, hp, ⟨⟨_, _, v2⟩, _, _, v1⟩, maxI_of hs⟩
/-- a witness for a row, at a world whose shape is known -/
theorem witness_row_shaped {H : Type} {enc : TypeId × Value → H} {C : Checked} {os : Os} {f : FuncId} {fn : Func} {s : OpenSpec} {conds : List PathCond} {apart : Bool} {laid : List (String × DataW Unit)} (modest : Bool) (w0 : World) (args : Array Value) (hos : w0.os = os)
    (hsh : (w0.forCall (fun _ _ => 0) ⟨#[], args, []⟩).Shaped C.prog)
    (hok : Input.okWideB C.prog (w0.forCall (fun _ _ => 0) ⟨#[], args, []⟩) f ⟨#[], args, []⟩ = true)
    (hrow : s.preRow enc C.prog fn conds apart laid (w0.forCall (fun _ _ => 0) ⟨#[], args, []⟩).memory args) :
    ∃ (w : World) (tape : Tape) (i : Input), w.os = os ∧ (w.forCall tape i).Shaped C.prog ∧ i.vars = [] ∧ Input.okWide C.prog (w.forCall tape i) .any w.heap.size f i ∧
      s.preRow enc C.prog fn conds apart laid (w.forCall tape i).memory i.args ∧ ({ modest := modest } : Assume).holds C.prog (lone (Frame.enter C.prog f i.args .normal) [] (w.forCall tape i)) :=
  ⟨w0, fun _ _ => 0, ⟨#[], args, []⟩, hos, hsh, (Input.okWide_of_okWideB (base := 0) hok).1, (Input.okWide_of_okWideB hok).2, hrow, by
    simp only [Assume.holds]
    exact ⟨by simp, by simp, fun _ => Modest.zero, by simp, by simp⟩⟩
end Go.Proofs.YtnabcffpficgcaaDoor
