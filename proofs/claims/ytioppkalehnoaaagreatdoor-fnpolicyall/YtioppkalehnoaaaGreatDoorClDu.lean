/-
  Drawn policies and routes: DrawPolicyDo, DrawClauseFits.
-/
import Derived.Test.YtioppkalehnoaaaGreatDoorClDs
import Derived.Test.YtioppkalehnoaaaGreatDoorClAp
import Derived.Test.YtioppkalehnoaaaGreatDoorRtDd
namespace Go.Proofs.YtioppkalehnoaaaGreatDoor
open Go.RowKit
set_option linter.unusedSimpArgs false
set_option linter.unusedVariables false

/-- a drawn policy and a route -/
def DnPR (w : World) (en : Ending) (w' : World) : Prop := ∃ (v : Value) (L : List CL) (f b l : Int) (P M : List Int) (pv mv : Value), en = .returned (.tuple #[v, .agg #[.int .i64 f, .int .i64 b, pv, .int .i64 l, mv]]) ∧ L.length ≤ 4 ∧ OwnC w' w.heap.size v L ∧ (P.length ≤ 6 ∧ M.length ≤ 11) ∧ (OwnI w' w.heap.size pv P ∧ OwnI w' w.heap.size mv M) ∧ Below w.heap.size w w'
theorem ownc_only {W W' : World} {A R : Nat} {v : Value} {L : List CL} (h : OwnC W A v L) (hg : W.grownBy W' (some R)) (hn : R < A) : OwnC W' A v L := ownc_pick h hg hn

/-- a drawn clause and a route -/
def DnCR (w : World) (en : Ending) (w' : World) : Prop := ∃ (u : CL) (f b l : Int) (P M : List Int) (pv mv : Value), en = .returned (.tuple #[clV u, .agg #[.int .i64 f, .int .i64 b, pv, .int .i64 l, mv]]) ∧ (P.length ≤ 6 ∧ M.length ≤ 11) ∧ (OwnI w' w.heap.size pv P ∧ OwnI w' w.heap.size mv M) ∧ Below w.heap.size w w'
end Go.Proofs.YtioppkalehnoaaaGreatDoor
