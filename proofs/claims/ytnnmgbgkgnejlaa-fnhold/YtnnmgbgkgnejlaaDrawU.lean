/-
  Two drawn ranges, often one in the other.
-/
import Derived.Test.YtnnmgbgkgnejlaaDrawS
import Derived.Test.YtnnmgbgkgnejlaaHalfS
namespace Go.Proofs.Ytnnmgbgkgnejlaa
open Go.RowKit
set_option linter.unusedSimpArgs false

theorem half_small {f b : Int} (h : halfB f b = true) (u : Bool) : Small (halfF f b u) (b + 1) := by
  obtain ⟨ho, hlt⟩ := (halfB_iff f b).1 h
  obtain ⟨b0, b8, f0, f1, hm⟩ := (okB_iff f b).1 ho
  have hs := sz_bd (b := b + 1) (by omega) (by omega)
  have key : f + sz (b + 1) ≤ 256 := by
    rcases sz_cases b0 b8 with h | h | h | h | h | h | h | h | h <;> obtain ⟨rfl, e⟩ := h <;> rw [e] at hm <;> simp [sz] <;> omega
  unfold Small halfF
  cases u
  · simp; omega
  · simp; omega

/-- while two ranges are drawn: A, C: the ranges, R, Q: where the results lie, B: the reader -/
def Tw (w : World) (A C R Q B : Nat) (f b g c : Int) (w' : World) : Prop := At w' A f b ∧ At w' C g c ∧ At w' R 0 0 ∧ At w' Q 0 0 ∧ w.grownBy w' (some B)
theorem Tw.drew {w : World} {A C R Q B : Nat} {f b g c : Int} {w' : World} (h : Tw w A C R Q B f b g c w') : Tw w A C R Q B f b g c w'.drew := ⟨h.1.drew, h.2.1.drew, h.2.2.1.drew, h.2.2.2.1.drew, only_drew h.2.2.2.2⟩
theorem Tw.below {w W w' : World} {A C R Q B : Nat} {f b g c : Int} (h : Tw w A C R Q B f b g c W) (k : Below W.heap.size W w') : Tw w A C R Q B f b g c w' :=
  ⟨h.1.below k, h.2.1.below k, h.2.2.1.below k, h.2.2.2.1.below k, only_below h.2.2.2.2 k⟩
theorem Tw.alloc {w W : World} {A C R Q B : Nat} {f b g c : Int} (h : Tw w A C R Q B f b g c W) (o : Obj) : Tw w A C R Q B f b g c (W.alloc o) :=
  ⟨h.1.alloc o, h.2.1.alloc o, h.2.2.1.alloc o, h.2.2.2.1.alloc o, only_alloc h.2.2.2.2 o⟩
theorem Tw.only {w W w' : World} {A C R Q B : Nat} {f b g c : Int} (h : Tw w A C R Q B f b g c W) (k : W.grownBy w' (some B)) (hA : A ≠ B) (hC : C ≠ B) (hR : R ≠ B) (hQ : Q ≠ B) : Tw w A C R Q B f b g c w' :=
  ⟨h.1.only k hA, h.2.1.only k hC, h.2.2.1.only k hR, h.2.2.2.1.only k hQ, only_on h.2.2.2.2 k⟩
theorem Tw.put {w W : World} {A C R Q B : Nat} {f b g c : Int} (h : Tw w A C R Q B f b g c W) (hC : A ≠ C) (hR : A ≠ R) (hQ : A ≠ Q) (hw : w.heap.size ≤ A) (f' b' : Int) :
    Tw w A C R Q B f' b' g c ((W.setCell ⟨A, 0, none⟩ (.int .i64 f')).setCell ⟨A, 1, none⟩ (.int .i64 b')) :=
  ⟨h.1.put f' b', h.2.1.far2 _ _ hC, h.2.2.1.far2 _ _ hR, h.2.2.2.1.far2 _ _ hQ, only_set2 h.2.2.2.2 _ _ hw⟩
theorem Tw.sv {w : World} {A C R Q B : Nat} {f b g c : Int} {w' : World} (h : Tw w A C R Q B f b g c w') : w'.cell? ⟨A, 0, none⟩ = some (.int .i64 f) ∧ w'.cell? ⟨A, 1, none⟩ = some (.int .i64 b) ∧ Tw w A C R Q B f b g c w' := ⟨h.1.1, h.1.2.1, h⟩

/-- another struct is stored -/
theorem Tw.elsewhere {w W : World} {A C R Q B X : Nat} {f b g c : Int} (h : Tw w A C R Q B f b g c W) (hA : X ≠ A) (hC : X ≠ C) (hR : X ≠ R) (hQ : X ≠ Q) (hw : w.heap.size ≤ X) (u v : Value) :
    Tw w A C R Q B f b g c ((W.setCell ⟨X, 0, none⟩ u).setCell ⟨X, 1, none⟩ v) :=
  ⟨h.1.far2 _ _ hA, h.2.1.far2 _ _ hC, h.2.2.1.far2 _ _ hR, h.2.2.2.1.far2 _ _ hQ, only_set2 h.2.2.2.2 _ _ hw⟩
/-- both results are stored -/
theorem Tw.fin {w W : World} {A C R Q B : Nat} {f b g c : Int} (h : Tw w A C R Q B f b g c W) (hRQ : R ≠ Q) (hR : w.heap.size ≤ R) (hQ : w.heap.size ≤ Q) :
    At ((((W.setCell ⟨R, 0, none⟩ (.int .i64 f)).setCell ⟨R, 1, none⟩ (.int .i64 b)).setCell ⟨Q, 0, none⟩ (.int .i64 g)).setCell ⟨Q, 1, none⟩ (.int .i64 c)).drew R f b ∧
    At ((((W.setCell ⟨R, 0, none⟩ (.int .i64 f)).setCell ⟨R, 1, none⟩ (.int .i64 b)).setCell ⟨Q, 0, none⟩ (.int .i64 g)).setCell ⟨Q, 1, none⟩ (.int .i64 c)).drew Q g c ∧
    w.grownBy ((((W.setCell ⟨R, 0, none⟩ (.int .i64 f)).setCell ⟨R, 1, none⟩ (.int .i64 b)).setCell ⟨Q, 0, none⟩ (.int .i64 g)).setCell ⟨Q, 1, none⟩ (.int .i64 c)).drew (some B) :=
  ⟨((h.2.2.1.put f b).far2 _ _ (Ne.symm hRQ)).drew, ((h.2.2.2.1.far2 (.int .i64 f) (.int .i64 b) hRQ).put g c).drew, only_drew (only_set2 (only_set2 h.2.2.2.2 _ _ hR) _ _ hQ)⟩
/-- two ranges were drawn -/
def Twoed (w : World) (B : Nat) (e : Ending) (w' : World) : Prop :=
  ∃ f b g c, Small f b ∧ Small g c ∧ e = .returned (.tuple #[.agg #[.int .i64 f, .int .i64 b], .agg #[.int .i64 g, .int .i64 c]]) ∧ w.grownBy w' (some B)

end Go.Proofs.Ytnnmgbgkgnejlaa
