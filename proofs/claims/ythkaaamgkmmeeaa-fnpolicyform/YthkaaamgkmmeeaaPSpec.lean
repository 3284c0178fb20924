/-
  What the model's functions on paths answer: is a number among such, is a list a path, which stands ahead.
-/
import Derived.Test.YthkaaamgkmmeeaaPMem
namespace Go.Proofs.Ythkaaamgkmmeeaa
open Go.RowKit
set_option linter.unusedSimpArgs false

set_option maxHeartbeats 400000 in
theorem shouse_is {h : Int} {x : Bool} (k : isH h = x) (w : World) :
    Calls Try.prog 23 #[.int .i64 h] w fun e w' => e = .returned (.bool x) ∧ w = w' := by
  have hr := Lib.hid (show inR h 1 5 = x by rw [← k]; rfl)
  clear k
  go_enter Try.func23, Try.ntmps23
  go_wp2_with fail
  refine (in_any _ _ _ _).mono ?_
  rintro e w2 ⟨rfl, rfl⟩
  go_wp2_with fail
  go_ret
  exact ⟨ret_bool hr.out, rfl⟩

theorem path_bad {L : List Int} {k : Nat} {x : Int} (hx : L[k]? = some x) (h : ¬ ((1 ≤ x ∧ x ≤ 5) ∧ x ∉ L.take k)) : pOk L = false := pOk_no fun hp => by
  have := hp.take (k + 1)
  rw [List.take_add_one, hx] at this
  obtain ⟨_, h1, h2⟩ := path_snoc.1 this
  exact h ⟨h1, h2⟩
theorem path_next {L : List Int} {k : Nat} {x : Int} (hx : L[k]? = some x) (hp : Path (L.take k)) (h1 : 1 ≤ x ∧ x ≤ 5) (h2 : x ∉ L.take k) : Path (L.take (k + 1)) := by
  rw [List.take_add_one, hx]
  exact path_snoc.2 ⟨hp, h1, h2⟩

end Go.Proofs.Ythkaaamgkmmeeaa
