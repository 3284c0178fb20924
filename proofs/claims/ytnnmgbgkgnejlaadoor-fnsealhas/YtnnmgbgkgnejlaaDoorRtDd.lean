/-
  Drawn routes: DrawRouteText, DrawRouteOk, DrawRouteMark.
-/
import Derived.Test.YtnnmgbgkgnejlaaDoorRtDs
import Derived.Test.YtnnmgbgkgnejlaaDoorRtMs
import Derived.Test.YtnnmgbgkgnejlaaDoorPLawA
namespace Go.Proofs.YtnnmgbgkgnejlaaDoor
open Go.RowKit
set_option linter.unusedSimpArgs false
set_option linter.unusedVariables false

theorem rd_apart {v : Value} {A C B : Nat} (h : pBtw v A C) (hB : B < A) : v.ownBlock = none ∨ v.ownBlock ≠ some B := by
  cases e : v.ownBlock with
  | none => exact .inl rfl
  | some k => exact .inr fun q => by have := (h k e).1; simp at q; omega
theorem isrow_on {w w' : World} {a : Option Addr} {len cap : Nat} {zs : List Int} (h : IsRow w a len cap zs) (k : Below w.heap.size w w') : IsRow w' a len cap zs := isrow_later h k
/-- a drawn route; with a number; two of them -/
def DnR (w : World) (en : Ending) (w' : World) : Prop := ∃ (f b l : Int) (P M : List Int) (pv mv : Value), en = .returned (.agg #[.int .i64 f, .int .i64 b, pv, .int .i64 l, mv]) ∧ (P.length ≤ 6 ∧ M.length ≤ 11) ∧ (OwnI w' w.heap.size pv P ∧ OwnI w' w.heap.size mv M) ∧ Below w.heap.size w w'
def DnRM (w : World) (en : Ending) (w' : World) : Prop := ∃ (f b l : Int) (P M : List Int) (pv mv : Value) (m : Int), en = .returned (.tuple #[.agg #[.int .i64 f, .int .i64 b, pv, .int .i64 l, mv], .int .i64 m]) ∧ (P.length ≤ 6 ∧ M.length ≤ 11) ∧ (OwnI w' w.heap.size pv P ∧ OwnI w' w.heap.size mv M) ∧ Below w.heap.size w w'
def DnRR (w : World) (en : Ending) (w' : World) : Prop := ∃ (f b l : Int) (P M : List Int) (pv mv : Value) (f' b' l' : Int) (P' M' : List Int) (pv' mv' : Value), en = .returned (.tuple #[.agg #[.int .i64 f, .int .i64 b, pv, .int .i64 l, mv], .agg #[.int .i64 f', .int .i64 b', pv', .int .i64 l', mv']]) ∧ ((P.length ≤ 6 ∧ M.length ≤ 11) ∧ P'.length ≤ 6 ∧ M'.length ≤ 11) ∧ ((OwnI w' w.heap.size pv P ∧ OwnI w' w.heap.size mv M) ∧ OwnI w' w.heap.size pv' P' ∧ OwnI w' w.heap.size mv' M') ∧ Below w.heap.size w w'
/-- the answer's cells behind the last store -/
theorem dd_fin {w W : World} {Q R A B A' B' : Nat} {pv mv : Value} {P M : List Int} {z0' z1 z2 z3 z4 : Value} (x0 x1 x3 : Value) (hP : OwnI W R pv P) (bP : pBtw pv A B) (hM : OwnI W R mv M) (bM : pBtw mv A' B') (hA : At5 W Q z0' z1 z2 z3 z4)
    (hq : Q < A) (hq' : Q < A') (hB : Below w.heap.size w W) (hQ : w.heap.size ≤ Q) :
    At5 (set5 W Q x0 x1 pv x3 mv) Q x0 x1 pv x3 mv ∧ (OwnI (set5 W Q x0 x1 pv x3 mv) R pv P ∧ OwnI (set5 W Q x0 x1 pv x3 mv) R mv M) ∧ Below w.heap.size w (set5 W Q x0 x1 pv x3 mv) :=
  ⟨hA.put _ _ _ _ _, ⟨owni_set5 hP bP (.inl hq) _ _ _ _ _, owni_set5 hM bM (.inl hq') _ _ _ _ _⟩, below_set5 hB hQ _ _ _ _ _⟩

end Go.Proofs.YtnnmgbgkgnejlaaDoor
