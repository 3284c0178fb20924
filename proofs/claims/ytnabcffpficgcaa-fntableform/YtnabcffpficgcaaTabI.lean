/-
  What the program's functions on tables answer: find, same, put, drop.
-/
import Derived.Test.YtnabcffpficgcaaTabOk
namespace Go.Proofs.Ytnabcffpficgcaa
open Go.RowKit
set_option linter.unusedSimpArgs false

theorem tok_is {a : Option Addr} {cap : Nat} {T : List E} {x : Bool} (h : tabOk T = x) (w : World) (hT : TabA w a T) (hl : T.length ≤ 2000000) :
    Calls Try.prog 5 #[.slice a T.length cap] w fun e w' => e = .returned (.bool x) ∧ Below w.heap.size w w' := by
  rw [← h]; exact tok_any a cap T w hT hl
theorem Owns.tab {w : World} {R : Nat} {v : Value} {T : List E} (h : Owns w R v T) : ∃ a cap, v = .slice a T.length cap ∧ TabA w a T := by
  obtain ⟨_, h2⟩ := id h
  rcases h2 with ⟨rfl, h0⟩ | ⟨g, cap, cur, rfl, hb, hg, hc, hm, hs, ht⟩
  · exact ⟨none, 0, by rw [h0], .inl (List.eq_nil_of_length_eq_zero h0)⟩
  · refine ⟨_, cap, rfl, .inr ⟨g, 0, rfl, fun i e hi => ?_⟩⟩
    obtain ⟨h1, h2, h3⟩ := cellsT_at hi
    obtain ⟨hi', _⟩ := List.getElem?_eq_some_iff.1 hi
    refine ⟨?_, ?_, ?_⟩
    · rw [Nat.zero_add]; exact (h.cellAt (i * 3) (by omega)).trans h1
    · rw [Nat.zero_add]; exact (h.cellAt (i * 3 + 1) (by omega)).trans h2
    · rw [Nat.zero_add]; exact (h.cellAt (i * 3 + 2) (by omega)).trans h3
theorem TabA.alloc {w : World} {a : Option Addr} {T : List E} (h : TabA w a T) (o : Obj) : TabA (w.alloc o) a T := h.below ((Below.refl _ _).alloc (Nat.le_refl _) o)
theorem tab_good {T : List E} (h : tabOk T = true) : Good T ∧ T.length ≤ 12 := (tabOk_iff T).1 h
theorem tab_oks {T : List E} (h : tabOk T = true) : ∀ e ∈ T, okB e.1 e.2.1 = true := fun _ he => (tab_good h).1.ok he

/-- what TableFind answers -/
def tfindM (T : List E) (x : Int) : Int := if tabOk T = true ∧ 0 ≤ x ∧ x ≤ 255 then findM T x else 0

/-- what TableSame answers -/
def tsameM (A B : List E) : Bool := tabOk A && (tabOk B && sameM A B)
theorem agree_same {A B : List E} (hA : Good A) (hB : Good B) : agreeV (plantV A) (plantV B) = sameM A B := by
  rw [Bool.eq_iff_iff, agreeV_iff, sameM_iff]
  constructor
  · intro h a a0 a1
    have := h a.toNat (by omega)
    rw [show ((a.toNat : Nat) : Int) = a by omega] at this
    rw [← viaV_find (vis_plant A) hA a0 a1, ← viaV_find (vis_plant B) hB a0 a1]; exact this
  · intro h n hn
    rw [viaV_find (vis_plant A) hA (by omega) (by omega), viaV_find (vis_plant B) hB (by omega) (by omega)]
    exact h n (by omega) (by omega)

end Go.Proofs.Ytnabcffpficgcaa
