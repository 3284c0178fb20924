/-
  What the walks of a trie do: reach (grows what is missing), find, agrees.
-/
import Derived.Test.YtnabcffpficgcaaTrie
namespace Go.Proofs.Ytnabcffpficgcaa
open Go.RowKit

theorem pre_kid {a d : Int} (d0 : 0 ≤ d) (d8 : d < 8) : pre a (d + 1) = kidF (pre a d) d (bitB a d == 1) := by
  rw [pre_succ d0 d8]
  rcases bitB_01 a d with h | h <;> rw [h] <;> simp [kidF]

/-- what reach's rounds keep -/
def ReachI (w : World) (base root : Nat) (φ : Ph) (V : VV) (f b : Int) (d : Nat) (v : Value) (W : World) : Prop :=
  ∃ ψ p, v = .pointer (some ⟨p, 0, none⟩) ∧ TrieP W base root ψ V ∧ ψ (pre f d) d = some p ∧ OffP φ w W ∧ Newer w φ ψ ∧ (∀ g c, ψ g c ≠ some w.heap.size) ∧ At W w.heap.size f b

theorem ReachI.old {w : World} {base root : Nat} {φ ψ : Ph} {V : VV} {f b : Int} {d q : Nat} {W : World} {u : Bool} (hd : d < 8) (hu : (bitB f d == 1) = u)
    (h1 : TrieP W base root ψ V) (h3 : OffP φ w W) (h4 : Newer w φ ψ) (h5 : ∀ g c, ψ g c ≠ some w.heap.size) (h6 : At W w.heap.size f b)
    (hq : ψ (kidF (pre f d) d u) ((d : Int) + 1) = some q) : ReachI w base root φ V f b (d + 1) (.pointer (some ⟨q, 0, none⟩)) W :=
  ⟨ψ, q, rfl, h1, by rw [show ((d + 1 : Nat) : Int) = (d : Int) + 1 by omega, pre_kid (by omega) (by omega), hu]; exact hq, h3, h4, h5, h6⟩
theorem ReachI.new {w : World} {base root : Nat} {φ ψ : Ph} {V : VV} {f b : Int} {d p : Nat} {W : World} {u : Bool} (hd : d < 8) (hu : (bitB f d == 1) = u) (hb : base ≤ w.heap.size)
    (h1 : TrieP W base root ψ V) (h2 : ψ (pre f d) d = some p) (h3 : OffP φ w W) (h4 : Newer w φ ψ) (h5 : ∀ g c, ψ g c ≠ some w.heap.size) (h6 : At W w.heap.size f b)
    (hq : ψ (kidF (pre f d) d u) ((d : Int) + 1) = none) (t : TypeId) (o : Nat) (ho : o = 1 + u.toNat) :
    ReachI w base root φ V f b (d + 1) (.pointer (some ⟨W.heap.size, 0, none⟩)) ((W.setCell ⟨p, o, none⟩ (.pointer (some ⟨W.heap.size, 0, none⟩))).alloc (nodeO t)) := by
  subst ho
  rw [← World.setCell_alloc_past _ _ _ _ (h1.lt h2)]
  have hs := h3.size
  have hl := h6.lt
  refine ⟨_, _, rfl, h1.grow h2 (by omega) u hq (by omega) t, ?_, ?_, fun g c x e => ?_, fun g c e => ?_, (h6.alloc _).far _ _ (fun e => h5 _ _ (h2.trans (congrArg some e)))⟩
  · rw [show ((d + 1 : Nat) : Int) = (d : Int) + 1 by omega, pre_kid (by omega) (by omega), hu]; exact phSet_same _ _ _ _
  · refine (h3.alloc _).setCell _ _ ?_
    rcases h4 _ _ _ h2 with e | e
    · exact .inl ⟨_, _, e⟩
    · exact .inr e
  · by_cases ne : g = kidF (pre f d) d u ∧ c = (d : Int) + 1
    · obtain ⟨rfl, rfl⟩ := ne
      rw [phSet_same] at e
      obtain rfl : W.heap.size = x := by simpa using e
      exact .inr hs
    · rw [phSet_other _ _ ne] at e; exact h4 _ _ _ e
  · by_cases ne : g = kidF (pre f d) d u ∧ c = (d : Int) + 1
    · obtain ⟨rfl, rfl⟩ := ne
      rw [phSet_same] at e
      have : W.heap.size = w.heap.size := by simpa using e
      omega
    · rw [phSet_other _ _ ne] at e; exact h5 _ _ e
/-- a world that parts from another in draws alone -/
def Drawn (w W : World) : Prop := ∃ m, W = w.drewN m
theorem Drawn.refl (w : World) : Drawn w w := ⟨0, rfl⟩
theorem Drawn.more {w W : World} (h : Drawn w W) (n : Nat) : Drawn w (W.drewN n) := by obtain ⟨m, rfl⟩ := h; exact ⟨_, World.drewN_drewN _ _ _⟩
theorem Drawn.on {w W U : World} (h : Drawn w W) (k : Drawn W U) : Drawn w U := by obtain ⟨n, rfl⟩ := k; exact h.more n
theorem Drawn.below {w W : World} (h : Drawn w W) (n : Nat) : Below n w W := by obtain ⟨m, rfl⟩ := h; exact below_drewN (Below.refl _ _) _
theorem TrieP.drawn {w W : World} {base root : Nat} {φ : Ph} {V : VV} (h : TrieP w base root φ V) (k : Drawn w W) : TrieP W base root φ V := by obtain ⟨m, rfl⟩ := k; exact h.drewN m

/-- below a node that is not there nothing is -/
theorem TrieP.gone {w : World} {base root : Nat} {φ : Ph} {V : VV} (h : TrieP w base root φ V) {a : Int} (a0 : 0 ≤ a) (a1 : a ≤ 255) {d : Nat} (hd : φ (pre a ((d : Int) + 1)) ((d : Int) + 1) = none) :
    ∀ k : Nat, d < k → k ≤ 8 → φ (pre a k) k = none
  | 0, h0, _ => by omega
  | k + 1, h1, h8 => by
    by_cases e : d = k
    · subst e; exact hd
    · have ih := TrieP.gone h a0 a1 hd k (by omega) (by omega)
      rw [show ((k + 1 : Nat) : Int) = (k : Int) + 1 by omega, pre_kid (by omega) (by omega)]
      exact h.closed (pre_ok (by omega) (by omega) a0 a1) (by omega) ih _
theorem viaV_gone {w : World} {base root : Nat} {φ : Ph} {V : VV} (h : TrieP w base root φ V) {a : Int} (a0 : 0 ≤ a) (a1 : a ≤ 255) {d : Nat} (h8 : d < 8) (hd : φ (pre a ((d : Int) + 1)) ((d : Int) + 1) = none) : viaV V a 8 = viaV V a d :=
  viaV_stop (fun k h1 h2 => h.zero (h.gone a0 a1 hd k h1 h2)) 8 (by omega) (by omega)
theorem viaV_on {V : VV} {a : Int} {d : Nat} (h : V (pre a ((d : Int) + 1)) ((d : Int) + 1) = 0) : viaV V a (d + 1) = viaV V a d := if_pos h
theorem viaV_at {V : VV} {a : Int} {d : Nat} (h : ¬ V (pre a ((d : Int) + 1)) ((d : Int) + 1) = 0) : viaV V a (d + 1) = V (pre a ((d : Int) + 1)) ((d : Int) + 1) := if_neg h

end Go.Proofs.Ytnabcffpficgcaa
