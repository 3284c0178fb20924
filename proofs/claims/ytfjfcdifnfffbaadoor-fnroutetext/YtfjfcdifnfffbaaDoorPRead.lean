/-
  Reading a path: what the model answers.
-/
import Derived.Test.YtfjfcdifnfffbaaDoorPText
import Derived.Test.YtfjfcdifnfffbaaDoorPDraw
import Derived.Test.YtfjfcdifnfffbaaDoorMathQ
namespace Go.Proofs.YtfjfcdifnfffbaaDoor
open Go.RowKit
set_option linter.unusedSimpArgs false
set_option linter.unusedVariables false

theorem pat_byte (s : ByteArray) (k : Nat) (h : k < s.size) : s.data.toList[k]? = some (s[k]'h) := by
  rw [List.getElem?_eq_getElem (by simpa using h)]; rfl
theorem bytes_nil {s : ByteArray} (h : s.size = 0) : s = ⟨#[]⟩ := ByteArray.ext (Array.eq_empty_of_size_eq_zero h)
theorem point_ne {s : ByteArray} (h : s ≠ ⟨#[46]⟩) : (s.toList == ([46] : List UInt8)) = false := by
  have := bytes_ne h
  rwa [show (⟨#[46]⟩ : ByteArray).toList = [46] from by rw [ByteArray.toList_eq]] at this
theorem empty_ne {s : ByteArray} (h : s.size ≠ 0) : (s.toList == ([] : List UInt8)) = false := by
  have := bytes_ne (a := s) (b := ⟨#[]⟩) (fun e => h (by rw [e]; rfl))
  rwa [show (⟨#[]⟩ : ByteArray).toList = [] from by rw [ByteArray.toList_eq]] at this

end Go.Proofs.YtfjfcdifnfffbaaDoor
