/-
  A route in memory of its own: the model's copy of one.
-/
import Derived.Test.YtnnmgbgkgnejlaaDoorRtSpec
namespace Go.Proofs.YtnnmgbgkgnejlaaDoor
open Go.RowKit
set_option linter.unusedSimpArgs false
set_option linter.unusedVariables false

/-- a route in memory of its own -/
def OwnRt (w : World) (r : Rt) (pv mv : Value) (w' : World) : Prop :=
  ∃ S, OwnI w' w.heap.size pv r.2.2.1 ∧ pBtw pv w.heap.size S ∧ OwnI w' S mv r.2.2.2.2 ∧ w.heap.size ≤ S ∧ Below w.heap.size w w'
abbrev rtV (r : Rt) (pv mv : Value) : Value := .agg #[.int .i64 r.1, .int .i64 r.2.1, pv, .int .i64 r.2.2.2.1, mv]

theorem owni_setE (W : World) (q : Addr) (v : Value) : OwnI ((W.setCell q v).alloc (.cells #[] 3)) W.heap.size (.slice (some ⟨W.heap.size, 0, none⟩) 0 0) [] := by
  have := owni_empty (W.setCell q v) W.heap.size (by simp)
  simpa only [World.size_setCell] using this
/-- a route under way into a copy: the box, the answer's cells, the path's copy -/
def Cp (w : World) (x0 x1 x2 x3 x4 : Value) (v : Value) (P : List Int) (W : World) : Prop :=
  At5 W w.heap.size x0 x1 x2 x3 x4 ∧ At5 W (w.heap.size + 1) (.int .i64 0) (.int .i64 0) (.slice none 0 0) (.int .i64 0) (.slice none 0 0) ∧ OwnI W (w.heap.size + 2) v P ∧ Below w.heap.size w W
theorem Cp.set {w W : World} {x0 x1 x2 x3 x4 v : Value} {P : List Int} (h : Cp w x0 x1 x2 x3 x4 v P W) (u : Value) : Cp w x0 x1 u x3 x4 v P (W.setCell ⟨w.heap.size, 2, none⟩ u) :=
  ⟨h.1.put2 u, h.2.1.far ⟨w.heap.size, 2, none⟩ u (by simp), owni_set h.2.2.1 (q := ⟨w.heap.size, 2, none⟩) (by show w.heap.size < w.heap.size + 2; omega) u, h.2.2.2.setCell (p := ⟨w.heap.size, 2, none⟩) (Nat.le_refl _) u⟩
theorem Cp.alloc {w W : World} {x0 x1 x2 x3 x4 v : Value} {P : List Int} (h : Cp w x0 x1 x2 x3 x4 v P W) (o : Obj) : Cp w x0 x1 x2 x3 x4 v P (W.alloc o) := ⟨h.1.alloc o, h.2.1.alloc o, h.2.2.1.alloc o, h.2.2.2.alloc h.2.2.2.size o⟩
theorem Cp.later {w W W' : World} {x0 x1 x2 x3 x4 v : Value} {P : List Int} (h : Cp w x0 x1 x2 x3 x4 v P W) (k : Below W.heap.size W W') : Cp w x0 x1 x2 x3 x4 v P W' := ⟨h.1.below k, h.2.1.below k, owni_later h.2.2.1 k, next h.2.2.2 k⟩
theorem app_later {W W' : World} {v : Value} (hv : v.ownBlock = some W.heap.size) (hg : (W.alloc (.cells #[] 3)).grownBy W' v.ownBlock) : Below W.heap.size W W' :=
  ((Below.refl _ W).alloc (Nat.le_refl _) _).grown hg (by simp) (fun k e => by rw [hv] at e; cases e; exact Nat.le_refl _)
theorem Cp.done {w W : World} {x0 x1 x2 x3 x4 v u : Value} {P M : List Int} {S : Nat} (h : Cp w x0 x1 x2 x3 x4 v P W) (hu : OwnI W S u M) (hv : pBtw v (w.heap.size + 2) S) (hS : w.heap.size + 2 ≤ S) (y0 y1 y3 : Value) :
    At5 (set5 (W.setCell ⟨w.heap.size, 4, none⟩ u) (w.heap.size + 1) y0 y1 v y3 u) (w.heap.size + 1) y0 y1 v y3 u ∧
    OwnI (set5 (W.setCell ⟨w.heap.size, 4, none⟩ u) (w.heap.size + 1) y0 y1 v y3 u) w.heap.size v P ∧ OwnI (set5 (W.setCell ⟨w.heap.size, 4, none⟩ u) (w.heap.size + 1) y0 y1 v y3 u) S u M ∧ Below w.heap.size w (set5 (W.setCell ⟨w.heap.size, 4, none⟩ u) (w.heap.size + 1) y0 y1 v y3 u) := by
  have own : ∀ {T : Nat} {x : Value} {L : List Int}, OwnI W T x L → w.heap.size + 2 ≤ T → OwnI (set5 (W.setCell ⟨w.heap.size, 4, none⟩ u) (w.heap.size + 1) y0 y1 v y3 u) T x L := fun {T x L} hx hT => by
    have q : ∀ (o : Nat), ((⟨w.heap.size + 1, o, none⟩ : Addr)).block < T := fun o => by show w.heap.size + 1 < T; omega
    exact owni_set (owni_set (owni_set (owni_set (owni_set (owni_set hx (q := ⟨w.heap.size, 4, none⟩) (by show w.heap.size < T; omega) u) (q 0) y0) (q 1) y1) (q 2) v) (q 3) y3) (q 4) u
  exact ⟨(h.2.1.far ⟨w.heap.size, 4, none⟩ u (by simp)).put _ _ _ _ _, owni_mono (own h.2.2.1 (Nat.le_refl _)) (by omega), own hu hS, below_set5 (h.2.2.2.setCell (p := ⟨w.heap.size, 4, none⟩) (Nat.le_refl _) u) (by omega) _ _ _ _ _⟩

abbrev z5 : Array Value := #[.int .i64 0, .int .i64 0, .slice none 0 0, .int .i64 0, .slice none 0 0]
theorem Cp.new (f b : Int) (a : Option Addr) (c : Nat) (P : List Int) (l : Int) (d : Option Addr) (e : Nat) (M : List Int) (w : World) : Cp w (.int .i64 f) (.int .i64 b) (.slice a P.length c) (.int .i64 l) (.slice d M.length e) (.slice none 0 0) [] ((w.alloc (.cells #[.int .i64 f, .int .i64 b, .slice a P.length c, .int .i64 l, .slice d M.length e] 27)).alloc (.cells #[.int .i64 0, .int .i64 0, .slice none 0 0, .int .i64 0, .slice none 0 0] 27)) := by
  have h2 := At5.new (w.alloc (.cells #[.int .i64 f, .int .i64 b, .slice a P.length c, .int .i64 l, .slice d M.length e] 27)) (.int .i64 0) (.int .i64 0) (.slice none 0 0) (.int .i64 0) (.slice none 0 0) 27
  simp only [World.size_alloc] at h2
  exact ⟨(At5.new w (.int .i64 f) (.int .i64 b) (.slice a P.length c) (.int .i64 l) (.slice d M.length e) 27).alloc _, h2, owni_nil _ _, ((Below.refl w.heap.size w).alloc (Nat.le_refl _) _).alloc (by simp) _⟩

end Go.Proofs.YtnnmgbgkgnejlaaDoor
