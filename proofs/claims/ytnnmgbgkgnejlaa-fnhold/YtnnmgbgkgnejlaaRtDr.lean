/-
  Drawn routes: whatever the bytes, a route of small slices in memory of its own.
-/
import Derived.Test.YtnnmgbgkgnejlaaRtMk
import Derived.Test.YtnnmgbgkgnejlaaDrawR
namespace Go.Proofs.Ytnnmgbgkgnejlaa
open Go.RowKit
set_option linter.unusedSimpArgs false
set_option linter.unusedVariables false

def Markd (w : World) (B p : Nat) (e : Ending) (w' : World) : Prop :=
  ∃ (v : Value) (L : List Int) (p' : Nat), e = .returned v ∧ L.length ≤ 9 ∧ OwnI w' w.heap.size v L ∧ Rd w' B p' ∧ p' ≤ p + 9 ∧ w.grownBy w' (some B)

section
variable {w W W' : World} {B q R3 : Nat} {f b : Int} {pv : Value} {P : List Int} {l : Int} {mv : Value} {M : List Int}
/-- what the end asks -/
def Fz (w : World) (B q : Nat) (pv : Value) (P : List Int) (mv : Value) (M : List Int) (W : World) : Prop :=
  At5 W w.heap.size (.int .i64 0) (.int .i64 0) (.slice none 0 0) (.int .i64 0) (.slice none 0 0) ∧ OwnI W (w.heap.size + 1) pv P ∧ OwnI W (w.heap.size + 1) mv M ∧ (∃ q', Rd W B q' ∧ q' ≤ q) ∧ w.grownBy W (some B)
end
def Rted (w : World) (B p : Nat) (en : Ending) (w' : World) : Prop :=
  ∃ (f b l : Int) (P M : List Int) (pv mv : Value) (p' : Nat), en = .returned (.agg #[.int .i64 f, .int .i64 b, pv, .int .i64 l, mv]) ∧ (P.length ≤ 6 ∧ M.length ≤ 11) ∧ (OwnI w' w.heap.size pv P ∧ OwnI w' w.heap.size mv M) ∧ Rd w' B p' ∧ p' ≤ p + 50 ∧ w.grownBy w' (some B)
/-- the answer's cells behind the last store -/
theorem dr_fin {w W : World} {B q : Nat} {pv mv : Value} {P M : List Int} {z0' z1 z2 z3 z4 : Value} (x0 x1 x3 : Value) (hP : OwnI W (w.heap.size + 1) pv P) (hM : OwnI W (w.heap.size + 1) mv M) (hA : At5 W w.heap.size z0' z1 z2 z3 z4)
    (hr : Rd W B q) (hg : w.grownBy W (some B)) (lb : B < w.heap.size) :
    At5 (set5 W w.heap.size x0 x1 pv x3 mv) w.heap.size x0 x1 pv x3 mv ∧ (OwnI (set5 W w.heap.size x0 x1 pv x3 mv) w.heap.size pv P ∧ OwnI (set5 W w.heap.size x0 x1 pv x3 mv) w.heap.size mv M) ∧ Rd (set5 W w.heap.size x0 x1 pv x3 mv) B q ∧ w.grownBy (set5 W w.heap.size x0 x1 pv x3 mv) (some B) := by
  have lt : ∀ o, (⟨w.heap.size, o, none⟩ : Addr).block < w.heap.size + 1 := fun o => by show w.heap.size < w.heap.size + 1; omega
  have own : ∀ {v : Value} {L : List Int}, OwnI W (w.heap.size + 1) v L → OwnI (set5 W w.heap.size x0 x1 pv x3 mv) w.heap.size v L := fun h =>
    owni_mono (owni_set (owni_set (owni_set (owni_set (owni_set h (lt 0) x0) (lt 1) x1) (lt 2) pv) (lt 3) x3) (lt 4) mv) (by omega)
  have gt : ∀ o, B < (⟨w.heap.size, o, none⟩ : Addr).block := fun o => lb
  have ge : ∀ o, w.heap.size ≤ (⟨w.heap.size, o, none⟩ : Addr).block := fun o => Nat.le_refl _
  exact ⟨hA.put _ _ _ _ _, ⟨own hP, own hM⟩, rd_set (rd_set (rd_set (rd_set (rd_set hr _ x0 (gt 0)) _ x1 (gt 1)) _ pv (gt 2)) _ x3 (gt 3)) _ mv (gt 4),
    only_new (only_new (only_new (only_new (only_new hg _ (ge 0) x0) _ (ge 1) x1) _ (ge 2) pv) _ (ge 3) x3) _ (ge 4) mv⟩

end Go.Proofs.Ytnnmgbgkgnejlaa
