/-
  Drawn clauses and policies: DrawClauseOk, l91Policy, DrawPolicyOk.
-/
import Derived.Test.YtioppkalehnoaaaDoorClDr
namespace Go.Proofs.YtioppkalehnoaaaDoor
open Go.RowKit
set_option linter.unusedSimpArgs false
set_option linter.unusedVariables false

theorem crd_own {w w' : World} {B p R : Nat} {v : Value} (h : Rd w B p) (hg : w.grownBy w' v.ownBlock) (hv : ∀ k, v.ownBlock = some k → R ≤ k) (hB : B < R) : Rd w' B p := by
  have hBw := rd_lt h
  have ne : ∀ b, b ≤ B → some b ≠ v.ownBlock := fun b hb e => by have := hv b e.symm; omega
  obtain ⟨a, len, cap, z, c0, c1, hf, hp, hl, hz⟩ := h
  refine ⟨a, len, cap, z, hg.cell c0 (ne B (Nat.le_refl _)), hg.cell c1 (ne B (Nat.le_refl _)), (World.frozen?_of_block (w := w) (a := ⟨B, 1, none⟩) (hg.block B hBw (ne B (Nat.le_refl _)))).trans hf, hp, hl, ?_⟩
  rcases hz with h | ⟨b, off, rfl, hb', hc, hbd⟩
  · exact .inl h
  · exact .inr ⟨b, off, rfl, hb', fun i hi => hg.cell (hc i hi) (ne b (by omega)), hbd⟩
theorem conly_own {a w w' : World} {row : Option Nat} {v : Value} (h : a.grownBy w row) (hg : w.grownBy w' v.ownBlock) (hv : ∀ k, v.ownBlock = some k → a.heap.size ≤ k) : a.grownBy w' row :=
  ⟨hg.os.trans h.os, hg.tape.trans h.tape, hg.output.trans h.output, Nat.le_trans h.size hg.size, fun i hi hne =>
    (hg.block i (Nat.lt_of_lt_of_le hi h.size) (fun e => by have := hv i e.symm; omega)).trans (h.block i hi hne)⟩
theorem OwnC.lt' {w : World} {R : Nat} {v : Value} {L : List CL} (h : OwnC w R v L) : ∀ k, v.ownBlock = some k → R ≤ k := fun k hk => (World.ownsRow.lt h k hk).1
theorem isrow_below {w w' : World} {a : Option Addr} {len cap : Nat} {zs : List Int} (h : IsRow w a len cap zs) (k : Below w.heap.size w w') : IsRow w' a len cap zs := by
  rcases h with h | ⟨x, h1, h2, h3, h4, h5, h6⟩
  · exact .inl h
  · exact .inr ⟨x, h1, h2, h3, h4, fun i hi => cell_later k (h5 i hi), h6⟩
/-- a drawn clause -/
def DnC (w : World) (e : Ending) (w' : World) : Prop := ∃ c : CL, e = .returned (clV c) ∧ Below w.heap.size w w'

/-- while a policy is drawn -/
def PcI (w : World) (B q : Nat) (L : List CL) (v : Value) (W : World) : Prop := OwnC W w.heap.size v L ∧ (∃ q', Rd W B q' ∧ q' ≤ q) ∧ w.grownBy W (some B)
theorem PcI.more {w : World} {B q q2 : Nat} {L : List CL} {v : Value} {W : World} (h : PcI w B q L v W) (hq : q ≤ q2) : PcI w B q2 L v W := by
  obtain ⟨a, ⟨q', b, c⟩, d⟩ := h
  exact ⟨a, ⟨q', b, by omega⟩, d⟩
theorem PcI.app {w W W' : World} {B q : Nat} {L : List CL} {v v' : Value} {c : CL} (h : PcI w B q L v W) (hB : B < w.heap.size) (own : OwnC W' w.heap.size v' (L ++ [c])) (grow : (W.alloc (.cells (clA c) 33)).grownBy W' v.ownBlock) : PcI w B q (L ++ [c]) v' W' := by
  obtain ⟨h1, ⟨q', h2, h3⟩, h4⟩ := h
  exact ⟨own, ⟨q', crd_own (rd_alloc h2 _) grow (OwnC.lt' h1) hB, h3⟩, conly_own (only_alloc h4 _) grow (OwnC.lt' h1)⟩
def Pold (w : World) (B p : Nat) (e : Ending) (w' : World) : Prop :=
  ∃ (v : Value) (L : List CL), e = .returned v ∧ L.length ≤ 4 ∧ PcI w B (p + 100) L v w'

set_option maxRecDepth 100000 in
set_option maxHeartbeats 4000000 in
theorem policy_any (w : World) (B p : Nat) (hp : p < 900000) (hr : Rd w B p) :
    Calls Tryd.prog 59 #[.pointer (some ⟨B, 0, none⟩)] w (Pold w B p) := by
  have hBw := rd_lt hr
  have I1 : Hid (PcI w B p [] (.slice (some ⟨w.heap.size, 0, none⟩) 0 0) (w.alloc (.cells #[] 33))) := Lib.hid ⟨ownc_empty w w.heap.size (Nat.le_refl _), ⟨p, rd_alloc hr _, Nat.le_refl _⟩, only_alloc (World.grownBy.refl w (some B)) _⟩
  clear hr
  go_enter Tryd.func59, Tryd.ntmps59
  go_wp2_with fail
  generalize w.alloc (.cells #[] 33) = W at *
  obtain ⟨q', hr, hq'⟩ := I1.out.2.1
  refine (pick_any 4 _ B q' (by omega) (by omega) hr).mono ?_
  rintro en w1 ⟨y, y0, y1, rfl, hr1, hg1⟩
  have I2 : Hid (PcI w B (p + 1) [] (.slice (some ⟨w.heap.size, 0, none⟩) 0 0) w1) := Lib.hid ⟨ownc_pick I1.out.1 hg1 hBw, ⟨_, hr1, by omega⟩, only_on I1.out.2.2 hg1⟩
  clear hr1 hg1 hr I1
  obtain ⟨ny, rfl⟩ := Int.eq_ofNat_of_zero_le y0
  go_wp2_with fail
  go_loopw [3, 4] (fun l i wr => ∃ (k : Nat) (L : List CL), i = .int .i64 (k : Int) ∧ k + L.length ≤ 3 ∧ PcI w B (p + 1 + 20 * L.length) L l wr) (fun _ i _ => (intOf i).toNat)
  case atStart => exact ⟨ny, [], rfl, by simp; omega, I2.out⟩
  case round =>
    clear I2
    obtain ⟨k, L, rfl, hk, hI⟩ := hrel
    obtain ⟨av, pv, rfl, hcv, tv⟩ := OwnC.tab hI.1
    have HI := Lib.hid hI
    clear hI tv
    by_cases hk0 : k = 0
    · subst hk0
      have i0 : ¬ (0 : Int) < ((0 : Nat) : Int) := by omega
      obtain ⟨q1, r1, hq1⟩ := HI.out.2.1
      go_wp2_with fail
      refine (pick_any 2 _ B q1 (by omega) (by omega) r1).mono ?_
      rintro en w2 ⟨x, x0, x1, rfl, hr2, hg2⟩
      have I3 : Hid (PcI w B (p + 100) L (.slice av L.length pv) w2) := Lib.hid ⟨ownc_pick HI.out.1 hg2 hBw, ⟨_, hr2, by omega⟩, only_on HI.out.2.2 hg2⟩
      have hs3 := I3.out.2.2.size
      clear hr2 hg2 r1 HI
      by_cases hx : x = 0
      · have ex : (x == 0) = true := by simp [hx]
        clear hx
        go_wp2_with (first | (at_builtin; refine wpList_appC rfl (.tmp 20) (.tmp 22) rfl w.heap.size _ L rfl ?g1 _ 1 1 [⟨1, 0, 0, 0, false, -1, 0, 0⟩] rfl rfl ?g2 ?g3 ?g4 ?g5))
        case g1 => exact World.ownsRow.alloc I3.out.1 _
        case g2 => exact news8 w2 ⟨1, 0, 0, 0, false, -1, 0, 0⟩
        case g3 => (simp; omega)
        case g4 => (simp only [World.size_alloc]; omega)
        intro v5 w5 own5 grow5
        have I5 := Lib.hid (I3.out.app hBw own5 grow5)
        clear own5 grow5 I3
        go_wp2_with fail
        go_ret
        exact ⟨_, _, rfl, by simp; omega, I5.out⟩
      · have ex : (x == 0) = false := by simp [hx]
        clear hx
        go_wp2_with fail
        go_ret
        exact ⟨_, _, rfl, by omega, I3.out⟩
    · have i0 : (0 : Int) < (k : Int) := by omega
      have i1 : IntKind.i64.wrap ((k : Int) - 1) = ((k - 1 : Nat) : Int) := by rw [IntKind.wrap_i64]; omega
      obtain ⟨q1, r1, hq1⟩ := HI.out.2.1
      go_wp2_with fail
      refine (clause_any _ B q1 (by omega) r1).mono ?_
      rintro en w2 ⟨c, p2, rfl, hr2, hp2, hg2⟩
      have I3 : Hid (PcI w B (p + 1 + 20 * L.length + 20) L (.slice av L.length pv) w2) := Lib.hid ⟨ownc_pick HI.out.1 hg2 hBw, ⟨_, hr2, by omega⟩, only_on HI.out.2.2 hg2⟩
      have hs3 := I3.out.2.2.size
      clear hr2 hg2 r1 HI
      go_wp2_with (first | (at_builtin; refine wpList_appC rfl (.tmp 12) (.tmp 15) rfl w.heap.size _ L rfl ?e1 _ 1 1 [c] rfl rfl ?e2 ?e3 ?e4 ?e5))
      case e1 => exact World.ownsRow.alloc I3.out.1 _
      case e2 => exact news8 w2 c
      case e3 => (simp; omega)
      case e4 => (simp only [World.size_alloc]; omega)
      intro v5 w5 own5 grow5
      have I5 := Lib.hid (I3.out.app hBw own5 grow5)
      clear own5 grow5 I3
      go_wp2_with fail
      go_roundw
      case rel => exact ⟨k - 1, L ++ [c], rfl, by simp; omega, I5.out.more (by simp; omega)⟩
      case measure => simp [intOf]; omega
end Go.Proofs.YtioppkalehnoaaaDoor
