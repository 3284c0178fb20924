/-
  What the program's TableLess answers.
-/
import Derived.Test.YtnabcffpficgcaaTabJ
namespace Go.Proofs.Ytnabcffpficgcaa
open Go.RowKit
set_option linter.unusedSimpArgs false

theorem agree_vis {U V : VV} {A B : List E} (hU : Vis U A) (hV : Vis V B) (hA : Good A) (hB : Good B) : agreeV U V = sameM A B := by
  rw [Bool.eq_iff_iff, agreeV_iff, sameM_iff]
  constructor
  · intro h a a0 a1
    have := h a.toNat (by omega)
    rw [show ((a.toNat : Nat) : Int) = a by omega] at this
    rw [← viaV_find hU hA a0 a1, ← viaV_find hV hB a0 a1]; exact this
  · intro h n hn
    rw [viaV_find hU hA (by omega) (by omega), viaV_find hV hB (by omega) (by omega)]
    exact h n (by omega) (by omega)
theorem vis_back {V : VV} {f b v : Int} (h : V f b = v) : updV (updV V (f, b, 0)) (f, b, v) = V := by
  funext g c
  simp only [updV]
  by_cases k : g = f ∧ c = b
  · rw [if_pos k, k.1, k.2, h]
  · rw [if_neg k, if_neg k]
theorem sameM_right {A B C : List E} (h : ∀ a : Int, 0 ≤ a → a ≤ 255 → findM B a = findM C a) : sameM A B = sameM A C := by
  rw [Bool.eq_iff_iff, sameM_iff, sameM_iff]
  exact ⟨fun k a a0 a1 => (k a a0 a1).trans (h a a0 a1), fun k a a0 a1 => (k a a0 a1).trans (h a a0 a1).symm⟩
/-- what is left behind k entries -/
def outK (T : List E) (k : Nat) : List E := (T.take k).foldl lessStep T
theorem outK_succ {T : List E} {k : Nat} {e : E} (h : T[k]? = some e) : outK T (k + 1) = lessStep (outK T k) e := by
  unfold outK; rw [List.take_add_one, h]; simp
theorem outK_all (T : List E) : outK T T.length = lessM T := by unfold outK lessM; rw [List.take_length]
theorem outK_good {T : List E} (h : Good T) (k : Nat) : Good (outK T k) := good_lessF h
theorem outK_find {T : List E} (k : Nat) {a : Int} (a0 : 0 ≤ a) (a1 : a ≤ 255) : findM (outK T k) a = findM T a := find_lessF a0 a1
theorem outK_len (T : List E) (k : Nat) : (outK T k).length ≤ T.length := lessF_len
/-- an entry that is still to come is still there -/
theorem outK_mem {T : List E} (hT : Good T) {k : Nat} {e : E} (h : T[k]? = some e) : e ∈ outK T k := by
  refine lessF_keep (mem_at h) fun x hx hs => ?_
  obtain ⟨i, hi⟩ := List.mem_iff_getElem?.1 hx
  rw [List.getElem?_take] at hi
  split at hi
  · rename_i hik
    obtain ⟨i1, e1⟩ := List.getElem?_eq_some_iff.1 hi
    obtain ⟨i2, e2⟩ := List.getElem?_eq_some_iff.1 h
    have := List.pairwise_iff_getElem.1 hT.2 i k i1 i2 hik
    rw [e1, e2] at this
    unfold ltE at this; omega
  · cases hi

/-- what TableLess answers -/
def tlessM (T : List E) : List E := if tabOk T = true then lessM T else []
def Own1 (w : World) (L : List E) (e : Ending) (w' : World) : Prop := ∃ x, e = .returned x ∧ Owns w' w.heap.size x L ∧ Below w.heap.size w w'

/-- what the rounds of TableLess keep: the full trie, below n; the other one, from n on, which holds what is left -/
def LessI (w : World) (n bF rF rL : Nat) (T : List E) (k : Nat) (W : World) : Prop :=
  ∃ (φ ψ : Ph) (V : VV), TrieP W bF rF φ (plantV T) ∧ (∀ f b p, φ f b = some p → p < n) ∧ TrieP W n rL ψ V ∧ Vis V (outK T k) ∧ n ≤ W.heap.size ∧ Below w.heap.size w W

end Go.Proofs.Ytnabcffpficgcaa
