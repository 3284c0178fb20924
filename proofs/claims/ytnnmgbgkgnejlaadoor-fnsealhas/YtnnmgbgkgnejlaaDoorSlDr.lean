/-
  Drawn: who holds which ranges.
-/
import Derived.Test.YtnnmgbgkgnejlaaDoorSlMem
import Derived.Test.YtnnmgbgkgnejlaaDoorRtDs
namespace Go.Proofs.YtnnmgbgkgnejlaaDoor
open Go.RowKit
set_option linter.unusedSimpArgs false
set_option linter.unusedVariables false

theorem newHv (w : World) (v : HV) (j : Nat) (u : Value) (hu : (cellsHv [v])[j]? = some u) : (w.alloc (.cells #[.int .i64 v.h, .int .i64 v.f, .int .i64 v.b] 48)).cell? ⟨w.heap.size, j, none⟩ = some u := by
  have h : OwnHv (w.alloc (.cells #[.int .i64 v.h, .int .i64 v.f, .int .i64 v.b] 48)) w.heap.size (.slice (some ⟨w.heap.size, 0, none⟩) 1 1) [v] := World.ownsRow_lit w #[.int .i64 v.h, .int .i64 v.f, .int .i64 v.b] 1 (Nat.le_refl _) (by unfold maxLen; omega) rfl
  have := World.ownsRow.cells h (g := w.heap.size) rfl j u hu
  rwa [Addr.add_mid, Nat.zero_add] at this
/-- while holdings are drawn -/
def HvI (w : World) (B q : Nat) (L : List HV) (v : Value) (W : World) : Prop := OwnHv W w.heap.size v L ∧ (∃ q', Rd W B q' ∧ q' ≤ q) ∧ w.grownBy W (some B)
theorem OwnHv.pick {w w' : World} {R B : Nat} {v : Value} {L : List HV} (ho : OwnHv w R v L) (hg : w.grownBy w' (some B)) (hB : B < R) : OwnHv w' R v L :=
  World.ownsRow.kept ho hg (by
    cases e : v.ownBlock with
    | none => exact .inl rfl
    | some k => exact .inr (fun h => by have := (World.ownsRow.lt ho k e).1; simp at h; omega))
def Held (w : World) (B p : Nat) (en : Ending) (w' : World) : Prop := ∃ (L : List HV) (v : Value) (p' : Nat), en = .returned v ∧ L.length ≤ 4 ∧ OwnHv w' w.heap.size v L ∧ Rd w' B p' ∧ p' ≤ p + 1 + 40 * 4 ∧ w.grownBy w' (some B)
set_option maxRecDepth 100000 in
set_option maxHeartbeats 2000000 in
theorem holds_any (w : World) (B p : Nat) (hp : p < 900000) (hr : Rd w B p) :
    Calls Tryd.prog 96 #[.pointer (some ⟨B, 0, none⟩)] w (Held w B p) := by
  have hBw := rd_lt hr
  have HR := Lib.hid (rd_alloc hr (.cells #[] 48))
  have HO := Lib.hid (ownhv_empty w w.heap.size (Nat.le_refl _))
  have HG := Lib.hid (only_alloc (World.grownBy.refl w (some B)) (.cells #[] 48))
  clear hr
  go_enter Tryd.func96, Tryd.ntmps96
  go_wp2_with fail
  refine (pick_any 5 _ B p (by omega) (by omega) HR.out).mono ?_
  rintro en w1 ⟨y, y0, y1, rfl, hr1, hg1⟩
  have HI : Hid (HvI w B (p + 1) [] (.slice (some ⟨w.heap.size, 0, none⟩) 0 0) w1) := Lib.hid ⟨HO.out.pick hg1 hBw, ⟨_, hr1, Nat.le_refl _⟩, only_on HG.out hg1⟩
  clear hr1 hg1 HR HO HG
  obtain ⟨ny, rfl⟩ := Int.eq_ofNat_of_zero_le y0
  go_wp2_with fail
  go_loopw [3, 4] (fun l i wr => ∃ (k : Nat) (L : List HV), i = .int .i64 (k : Int) ∧ k + L.length ≤ 4 ∧ Hid (HvI w B (p + 1 + 40 * L.length) L l wr)) (fun _ i _ => (intOf i).toNat)
  case atStart => exact ⟨ny, [], rfl, by simp; omega, HI⟩
  case round =>
    clear HI
    obtain ⟨k, L, rfl, hk, HI⟩ := hrel
    obtain ⟨la, lc, rfl, _⟩ := OwnHv.tab HI.out.1
    by_cases hk0 : k = 0
    · subst hk0
      have i0 : ¬ (0 : Int) < ((0 : Nat) : Int) := by omega
      obtain ⟨q', hr', hq'⟩ := HI.out.2.1
      have HF := Lib.hid (show Held w B p (.returned (.slice la L.length lc)) wr from ⟨L, _, q', rfl, by omega, HI.out.1, hr', by omega, HI.out.2.2⟩)
      clear hr'
      go_wp2_with fail
      go_ret
      exact HF.out
    · have i0 : (0 : Int) < (k : Int) := by omega
      have i1 : IntKind.i64.wrap ((k : Int) - 1) = ((k - 1 : Nat) : Int) := by rw [IntKind.wrap_i64]; omega
      obtain ⟨q', hr', hq'⟩ := HI.out.2.1
      have hws := HI.out.2.2.size
      go_wp2_with fail
      refine (pick_any 5 _ B q' (by omega) (by omega) hr').mono ?_
      rintro en w2 ⟨z, z0, z1, rfl, hr2, hg2⟩
      have iz : IntKind.i64.wrap (1 + z) = 1 + z := by rw [IntKind.wrap_i64]; omega
      have HI2 := Lib.hid (And.intro (HI.out.1.pick hg2 hBw) (And.intro hr2 (only_on HI.out.2.2 hg2)))
      clear hr2 hg2 hr' HI
      go_wp2_with fail
      refine (range_any _ B (q' + 1) (by omega) HI2.out.2.1).mono ?_
      rintro en w3 ⟨f, b, q3, hfb, rfl, hr3, hq3, hg3⟩
      have HI3 := Lib.hid (And.intro (HI2.out.1.pick hg3 hBw) (And.intro hr3 (only_on HI2.out.2.2 hg3)))
      have hs3 := HI3.out.2.2.size
      have HN := Lib.hid (newHv w3 ⟨1 + z, f, b⟩)
      clear hr3 hg3 HI2
      go_wp2_with (at_builtin; refine wpList_appHv rfl (.tmp 12) (.tmp 19) rfl w.heap.size (.slice la L.length lc) L rfl ?e1 w3.heap.size 1 1 [⟨1 + z, f, b⟩] rfl rfl ?e2 ?e3 ?e4 ?e5)
      case e1 => exact ownhv_later HI3.out.1 ((Below.refl _ _).alloc (Nat.le_refl _) _)
      case e2 => exact HN.out
      case e3 => (simp; omega)
      case e4 => (simp; omega)
      intro v5 w5 own5 grow5
      have hlow : ∀ k, (Value.slice la L.length lc).ownBlock = some k → w.heap.size ≤ k := fun k hk => (World.ownsRow.lt HI3.out.1 k hk).1
      have HI5 : Hid (HvI w B (p + 1 + 40 * (L.length + 1)) (L ++ [⟨1 + z, f, b⟩]) v5 w5) := Lib.hid ⟨own5, ⟨q3, prd_own (rd_alloc HI3.out.2.1 _) grow5 hlow hBw, by omega⟩, ponly_own (only_alloc HI3.out.2.2 _) grow5 hlow⟩
      have hLl : (L ++ [(⟨1 + z, f, b⟩ : HV)]).length = L.length + 1 := by simp
      clear own5 grow5 HN HI3 hlow
      generalize L ++ [(⟨1 + z, f, b⟩ : HV)] = L5 at *
      have HLl := Lib.hid hLl
      clear hLl
      go_wp2_with fail
      go_roundw
      case rel => exact ⟨k - 1, L5, rfl, by have := HLl.out; omega, by have := HLl.out; rw [this]; exact HI5⟩
      case measure => simp [intOf]; omega
end Go.Proofs.YtnnmgbgkgnejlaaDoor
