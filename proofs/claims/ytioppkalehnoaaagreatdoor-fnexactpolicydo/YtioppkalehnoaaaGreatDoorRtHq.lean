/-
  The heap's own methods: Len, Swap, Push, Pop; a call through the interface finds them.
-/
import Derived.Test.YtioppkalehnoaaaGreatDoorRtHp
namespace Go.Proofs.YtioppkalehnoaaaGreatDoor
open Go.RowKit
set_option linter.unusedSimpArgs false
set_option linter.unusedVariables false

theorem set_swap {K : List Nat} {i j p q : Nat} (hp : K[i]? = some p) (hq : K[j]? = some q) : (K.set j p).set i q = (K.set i q).set j p := by
  by_cases e : i = j
  · subst e
    rw [hp] at hq
    cases hq
    rfl
  · exact List.set_comm _ _ (fun h => e h.symm)
theorem grown_drew {w w' : World} {row : Option Nat} (h : w.grownBy w' row) : w.grownBy w'.drew row := ⟨h.os, h.tape, h.output, h.size, h.block⟩

theorem set_same {K : List Nat} {i j q : Nat} (hi : i < K.length) (hq : K[j]? = some q) : (K.set i q)[j]? = some q := by
  by_cases e : i = j
  · subst e; rw [List.getElem?_set_self hi]
  · rw [List.getElem?_set_ne e]; exact hq

end Go.Proofs.YtioppkalehnoaaaGreatDoor
