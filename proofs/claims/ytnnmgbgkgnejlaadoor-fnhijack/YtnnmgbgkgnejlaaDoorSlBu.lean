/-
  What lies in other blocks stays where a row is written; from a row to what walks ask.
-/
import Derived.Test.YtnnmgbgkgnejlaaDoorSlDp
namespace Go.Proofs.YtnnmgbgkgnejlaaDoor
open Go.RowKit
set_option linter.unusedSimpArgs false
set_option linter.unusedVariables false

theorem SlL.but {w w' : World} {a : Option Addr} {M : List SV} {row : Option Nat} (h : SlL w a M) (hg : w.grownBy w' row) (hb : ∀ b off, a = some ⟨b, off, none⟩ → some b ≠ row) : SlL w' a M := by
  rcases h with h | ⟨b, off, e, h⟩
  · exact .inl h
  · exact .inr ⟨b, off, e, fun j u hj => hg.cell (h j u hj) (hb b off e)⟩
theorem HvL.but {w w' : World} {a : Option Addr} {M : List HV} {row : Option Nat} (h : HvL w a M) (hg : w.grownBy w' row) (hb : ∀ b off, a = some ⟨b, off, none⟩ → some b ≠ row) : HvL w' a M := by
  rcases h with h | ⟨b, off, e, h⟩
  · exact .inl h
  · exact .inr ⟨b, off, e, fun j u hj => hg.cell (h j u hj) (hb b off e)⟩
/-- seals that another slice has, too, and can be read -/
theorem sla_cons {w : World} {R n c : Nat} {a : Option Addr} {L : List SV} (h : OwnSl w R (.slice a n c) L) (hm : ∀ v ∈ L, v.m w) : SlA w a L := OwnSl.sla (n := n) (c := c) h hm
theorem told_sla {w' : World} {R n c : Nat} {xa : Option Addr} {L L2 : List SV} {y : SV} (hL : L ++ [y] = L2) (own : OwnSl w' R (.slice xa n c) L2) (hl : ∀ v ∈ L, v.m w') (hy : y.m w') : SlA w' xa L2 := by
  subst hL
  exact OwnSl.sla own (fun x hx => by
    rcases List.mem_append.1 hx with q | q
    · exact hl x q
    · obtain rfl := List.mem_singleton.1 q
      exact hy)
theorem told_w {L L2 : List SV} {y : SV} (hL : L ++ [y] = L2) (hl : ∀ v ∈ L, SpW v.p) (hy : SpW y.p) : ∀ v ∈ L2, SpW v.p := by
  subst hL
  intro x hx
  rcases List.mem_append.1 hx with q | q
  · exact hl x q
  · obtain rfl := List.mem_singleton.1 q
    exact hy
end Go.Proofs.YtnnmgbgkgnejlaaDoor
