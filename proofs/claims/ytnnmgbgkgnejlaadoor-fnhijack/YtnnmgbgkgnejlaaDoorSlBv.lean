/-
  Two slices of seals one behind the other; an element of a path.
-/
import Derived.Test.YtnnmgbgkgnejlaaDoorSlBu
namespace Go.Proofs.YtnnmgbgkgnejlaaDoor
open Go.RowKit
set_option linter.unusedSimpArgs false
set_option linter.unusedVariables false

theorem app_sla {w' : World} {R n c : Nat} {xa : Option Addr} {L G L2 : List SV} (hL : L ++ G = L2) (own : OwnSl w' R (.slice xa n c) L2) (hl : ∀ v ∈ L, v.m w') (hg : ∀ v ∈ G, v.m w') : SlA w' xa L2 := by
  subst hL
  exact OwnSl.sla own (fun x hx => (List.mem_append.1 hx).elim (hl x) (hg x))
theorem app_w {L G L2 : List SV} (hL : L ++ G = L2) (hl : ∀ v ∈ L, SpW v.p) (hg : ∀ v ∈ G, SpW v.p) : ∀ v ∈ L2, SpW v.p := by
  subst hL
  exact fun x hx => (List.mem_append.1 hx).elim (hl x) (hg x)
theorem path_at {P : List Int} {w : World} {pb po J : Nat} (hI : IntA w (some ⟨pb, po, none⟩) P) (h0 : J < P.length) : w.cell? ⟨pb, po + J, none⟩ = some (.int .i64 (P.getD J 0)) := by
  obtain ⟨b, o, x, e, hx, cx⟩ := hI.at h0
  obtain ⟨rfl, rfl⟩ : pb = b ∧ po = o := by simpa using e
  rw [cx]; simp [List.getD, hx]
end Go.Proofs.YtnnmgbgkgnejlaaDoor
