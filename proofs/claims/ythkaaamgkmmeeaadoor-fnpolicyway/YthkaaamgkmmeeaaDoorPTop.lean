/-
  What the program's functions on paths answer: ok, has, add, which stands ahead.
-/
import Derived.Test.YthkaaamgkmmeeaaDoorPBack
import Derived.Test.YthkaaamgkmmeeaaDoorPSpecB
namespace Go.Proofs.YthkaaamgkmmeeaaDoor
open Go.RowKit
set_option linter.unusedSimpArgs false
set_option linter.unusedVariables false

set_option maxHeartbeats 400000 in
theorem piok_is {L : List Int} {x : Bool} (k : pOk L = x) (a : Option Addr) (cap n : Nat) (w : World) (p : Addr) (hn : n = L.length) (hl : L.length ≤ 4000000) (hI : IntA w a L) (hE : EV w p) :
    Calls Tryd.prog 77 #[.slice a n cap] w fun e w' => e = .returned (.bool x) ∧ Below w.heap.size w w' := by
  subst hn
  by_cases hp : Path L
  · have hx : x = true := by rw [← k]; exact pOk_yes hp
    subst hx
    clear k
    go_enter Tryd.func77, Tryd.ntmps77
    go_wp2_with fail
    refine (track_yes hp a cap _ p hI hE).mono ?_
    rintro e w1 ⟨v, rfl, hO, hb1⟩
    have hE1 := (hE.below hb1).alloc (.cells #[.int .u64 (bitsH L : Int), v] 76)
    have HB := Lib.hid (hb1.alloc hb1.size (.cells #[.int .u64 (bitsH L : Int), v] 76))
    obtain ⟨a2, c2, rfl, _, _⟩ := OwnI.tab hO
    unfold EV at hE1
    clear hO hb1 hE hI
    go_wp2_with fail
    refine (is_nil p _).mono ?_
    rintro e w2 ⟨rfl, rfl⟩
    go_wp2_with fail
    go_ret
    exact ⟨rfl, HB.out⟩
  · have hx : x = false := by rw [← k]; exact pOk_no hp
    subst hx
    clear k
    go_enter Tryd.func77, Tryd.ntmps77
    go_wp2_with fail
    refine (track_no hp a cap _ p hl hI hE).mono ?_
    rintro e w1 ⟨rfl, hb1⟩
    have hE1 := (hE.below hb1).alloc (.cells #[zT, zS] 76)
    have HB := Lib.hid (hb1.alloc hb1.size (.cells #[zT, zS] 76))
    unfold EV at hE1
    clear hb1 hE hI
    go_wp2_with fail
    refine (is_same p _).mono ?_
    rintro e w2 ⟨rfl, rfl⟩
    go_wp2_with fail
    go_ret
    exact ⟨rfl, HB.out⟩

set_option maxHeartbeats 400000 in
theorem pihas_is {L : List Int} {h : Int} {x : Bool} (k : pHas L h = x) (a : Option Addr) (cap n : Nat) (w : World) (p : Addr) (hn : n = L.length) (hl : L.length ≤ 4000000) (hI : IntA w a L) (hE : EV w p) :
    Calls Tryd.prog 19 #[.slice a n cap, .int .i64 h] w fun e w' => e = .returned (.bool x) ∧ Below w.heap.size w w' := by
  subst hn
  by_cases hp : Path L
  · have hx : decide (h ∈ L) = x := by rw [← k, pHas_yes hp]
    clear k
    go_enter Tryd.func19, Tryd.ntmps19
    go_wp2_with fail
    refine (track_yes hp a cap _ p hI hE).mono ?_
    rintro e w1 ⟨v, rfl, hO, hb1⟩
    have hE1 := (hE.below hb1).alloc (.cells #[.int .u64 (bitsH L : Int), v] 76)
    have HB := Lib.hid (hb1.alloc hb1.size (.cells #[.int .u64 (bitsH L : Int), v] 76))
    obtain ⟨a2, c2, rfl, _, _⟩ := OwnI.tab hO
    unfold EV at hE1
    clear hO hb1 hE hI
    go_wp2_with fail
    refine (is_nil p _).mono ?_
    rintro e w2 ⟨rfl, rfl⟩
    go_wp2_with fail
    refine (thas_is hp hx _ _).mono ?_
    rintro e w3 ⟨rfl, hb3⟩
    go_wp2_with fail
    go_ret
    exact ⟨rfl, next HB.out hb3⟩
  · have hx : x = false := by rw [← k, pHas, pOk_no hp]; rfl
    subst hx
    clear k
    go_enter Tryd.func19, Tryd.ntmps19
    go_wp2_with fail
    refine (track_no hp a cap _ p hl hI hE).mono ?_
    rintro e w1 ⟨rfl, hb1⟩
    have hE1 := (hE.below hb1).alloc (.cells #[zT, zS] 76)
    have HB := Lib.hid (hb1.alloc hb1.size (.cells #[zT, zS] 76))
    unfold EV at hE1
    clear hb1 hE hI
    go_wp2_with fail
    refine (is_same p _).mono ?_
    rintro e w2 ⟨rfl, rfl⟩
    go_wp2_with fail
    go_ret
    exact ⟨rfl, HB.out⟩

/-! order -/
def sgn (x y : Int) : Int := if x < y then -1 else if y < x then 1 else 0
theorem pnan_any (x : Int) (w : World) :
    Calls Tryd.prog 103 #[.int .i64 x] w fun e w' => e = .returned (.bool false) ∧ w = w' := by
  have h : (x != x) = false := by simp
  go_enter Tryd.func103, Tryd.ntmps103
  go_wp2
  go_ret
  exact ⟨rfl, rfl⟩
end Go.Proofs.YthkaaamgkmmeeaaDoor
