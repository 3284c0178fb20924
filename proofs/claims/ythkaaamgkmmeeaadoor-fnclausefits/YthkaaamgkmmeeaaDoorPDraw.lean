/-
  Drawn paths: some ints, not many, in memory of their own; whatever the bytes.
-/
import Derived.Test.YthkaaamgkmmeeaaDoorPEx
namespace Go.Proofs.YthkaaamgkmmeeaaDoor
open Go.RowKit
set_option linter.unusedSimpArgs false
set_option linter.unusedVariables false

def Pathed (w : World) (B p : Nat) (e : Ending) (w' : World) : Prop :=
  ∃ (v : Value) (L : List Int) (p' : Nat), e = .returned v ∧ L.length ≤ 5 ∧ OwnI w' w.heap.size v L ∧ Rd w' B p' ∧ p' ≤ p + 20 ∧ w.grownBy w' (some B)
theorem owni_pick {w w' : World} {R B : Nat} {v : Value} {L : List Int} (ho : OwnI w R v L) (hg : w.grownBy w' (some B)) (hB : B < R) : OwnI w' R v L :=
  ho.kept hg (by
    cases e : v.ownBlock with
    | none => exact .inl rfl
    | some k => exact .inr (fun h => by have := (ho.lt k e).1; simp at h; omega))
theorem OwnI.lt' {w : World} {R : Nat} {v : Value} {L : List Int} (h : OwnI w R v L) : ∀ k, v.ownBlock = some k → R ≤ k := fun k hk => (h.lt k hk).1
/-- a reader is kept where an own row is written -/
theorem prd_own {w w' : World} {B p R : Nat} {v : Value} (h : Rd w B p) (hg : w.grownBy w' v.ownBlock) (hv : ∀ k, v.ownBlock = some k → R ≤ k) (hB : B < R) : Rd w' B p := by
  have hBw := rd_lt h
  have ne : ∀ b, b ≤ B → some b ≠ v.ownBlock := fun b hb e => by have := hv b e.symm; omega
  obtain ⟨a, len, cap, z, c0, c1, hf, hp, hl, hz⟩ := h
  refine ⟨a, len, cap, z, hg.cell c0 (ne B (Nat.le_refl _)), hg.cell c1 (ne B (Nat.le_refl _)), (World.frozen?_of_block (w := w) (a := ⟨B, 1, none⟩) (hg.block B hBw (ne B (Nat.le_refl _)))).trans hf, hp, hl, ?_⟩
  rcases hz with h | ⟨b, off, rfl, hb', hc, hbd⟩
  · exact .inl h
  · exact .inr ⟨b, off, rfl, hb', fun i hi => hg.cell (hc i hi) (ne b (by omega)), hbd⟩
/-- seen from before, only new memory was written -/
theorem ponly_own {a w w' : World} {row : Option Nat} {v : Value} (h : a.grownBy w row) (hg : w.grownBy w' v.ownBlock) (hv : ∀ k, v.ownBlock = some k → a.heap.size ≤ k) : a.grownBy w' row :=
  ⟨hg.os.trans h.os, hg.tape.trans h.tape, hg.output.trans h.output, Nat.le_trans h.size hg.size, fun i hi hne =>
    (hg.block i (Nat.lt_of_lt_of_le hi h.size) (fun e => by have := hv i e.symm; omega)).trans (h.block i hi hne)⟩

/-- while a path is drawn -/
def PthI (w : World) (B q : Nat) (L : List Int) (v : Value) (W : World) : Prop := OwnI W w.heap.size v L ∧ (∃ q', Rd W B q' ∧ q' ≤ q) ∧ w.grownBy W (some B)
theorem PthI.more {w : World} {B q q2 : Nat} {L : List Int} {v : Value} {W : World} (h : PthI w B q L v W) (hq : q ≤ q2) : PthI w B q2 L v W := by
  obtain ⟨a, ⟨q', b, c⟩, d⟩ := h
  exact ⟨a, ⟨q', b, by omega⟩, d⟩
theorem pnews1 (W : World) (x : Int) : IntA (W.alloc (.cells #[.int .i64 x] 3)) (some ⟨W.heap.size, 0, none⟩) [x] := (OwnI.intA (owni_one W W.heap.size (Nat.le_refl _) x)).2.2

set_option maxRecDepth 100000 in
set_option maxHeartbeats 4000000 in
theorem path_any (w : World) (B p : Nat) (hp : p < 990000) (hr : Rd w B p) :
    Calls Tryd.prog 73 #[.pointer (some ⟨B, 0, none⟩)] w (Pathed w B p) := by
  have hBw := rd_lt hr
  have HO0 := Lib.hid (owni_empty w w.heap.size (Nat.le_refl _))
  have HR0 := Lib.hid (rd_alloc hr (.cells #[] 3))
  have HG0 := Lib.hid (only_alloc (World.grownBy.refl w (some B)) (.cells #[] 3))
  clear hr
  go_enter Tryd.func73, Tryd.ntmps73
  go_wp2_with fail
  refine (pick_any 5 _ B p (by omega) (by omega) HR0.out).mono ?_
  rintro e w1 ⟨x, x0, x1, rfl, hr1, hg1⟩
  have I1 : Hid (PthI w B (p + 1) [] (.slice (some ⟨w.heap.size, 0, none⟩) 0 0) w1) := Lib.hid ⟨owni_pick HO0.out hg1 hBw, ⟨p + 1, hr1, Nat.le_refl _⟩, only_on HG0.out hg1⟩
  obtain ⟨m, rfl⟩ := Int.eq_ofNat_of_zero_le x0
  clear hr1 hg1 HO0 HR0 HG0
  go_wp2_with fail
  go_loopw [3, 4] (fun v n wr => ∃ (k : Nat) (L : List Int), k ≤ 4 ∧ n = .int .i64 k ∧ L.length + k ≤ 4 ∧ PthI w B (p + 1 + 2 * (4 - k)) L v wr) (fun _ n _ => (intOf n).toNat)
  case atStart => exact ⟨m, [], by omega, rfl, by simp; omega, I1.out.more (by omega)⟩
  case round =>
    obtain ⟨k, L, hk, rfl, hl, ho, ⟨q, hr, hq⟩, hG⟩ := hrel
    clear I1
    obtain ⟨av, pv, rfl, hcv, tv⟩ := OwnI.tab ho
    by_cases hk0 : 0 < k
    · have HO := Lib.hid (And.intro ho (And.intro hr hG))
      have hsz := hG.size
      clear ho hr hG tv
      go_wp2_with fail
      refine (pick_any 5 _ B q (by omega) (by omega) HO.out.2.1).mono ?_
      rintro e w2 ⟨y, y0, y1, rfl, hr2, hg2⟩
      have HO2 := Lib.hid (And.intro (owni_pick HO.out.1 hg2 hBw) (And.intro hr2 (only_on HO.out.2.2 hg2)))
      clear hr2 hg2 HO
      by_cases hm : (1 + y) ∈ L
      · have hm' : decide ((1 + y) ∈ L) = true := decide_eq_true hm
        clear hm
        go_wp2_with fail
        refine (pshas_is hm' av pv _ _ rfl (OwnI.intA HO2.out.1).2.2 (by omega)).mono ?_
        rintro e w3 ⟨rfl, rfl⟩
        go_wp2_with fail
        refine (pick_any 30 _ B (q + 1) (by omega) (by omega) HO2.out.2.1).mono ?_
        rintro e w3 ⟨z, z0, z1, rfl, hr3, hg3⟩
        have HO3 := Lib.hid (And.intro (owni_pick HO2.out.1 hg3 hBw) (And.intro hr3 (only_on HO2.out.2.2 hg3)))
        have hs3 := HO3.out.2.2.size
        clear hr3 hg3 HO2
        by_cases hz : z = 0
        · subst hz
          go_wp2_with (first | (at_builtin; refine wpList_appI rfl (.tmp 25) (.tmp 27) rfl w.heap.size _ L rfl (HO3.out.1.alloc _) _ 1 [1 + y] rfl (pnews1 w3 _) (by simp) (by simp; omega) (by simp only [World.size_alloc]; omega) ?_; intro v5 w5 own5 grow5))
          have ho3 := HO3.out.1.alloc (.cells #[.int .i64 (1 + y)] 3)
          have R : Hid (PthI w B (q + 2) (L ++ [1 + y]) v5 w5) := Lib.hid ⟨own5, ⟨q + 1 + 1, prd_own (rd_alloc HO3.out.2.1 _) grow5 (OwnI.lt' ho3) hBw, by omega⟩, ponly_own (only_alloc HO3.out.2.2 _) grow5 (OwnI.lt' ho3)⟩
          clear own5 grow5 ho3 HO3
          go_wp2_with fail
          go_roundw
          case rel => exact ⟨k - 1, L ++ [1 + y], by omega, by go_num, by simp; omega, R.out.more (by omega)⟩
          case measure => simp [intOf]; omega
        · have hz' : (z == 0) = false := by simpa using hz
          have R : Hid (PthI w B (q + 2) L (.slice av L.length pv) w3) := Lib.hid ⟨HO3.out.1, ⟨q + 1 + 1, HO3.out.2.1, by omega⟩, HO3.out.2.2⟩
          clear HO3
          go_wp2_with fail
          go_roundw
          case rel => exact ⟨k - 1, L, by omega, by go_num, by omega, R.out.more (by omega)⟩
          case measure => simp [intOf]; omega
      · have hm' : decide ((1 + y) ∈ L) = false := decide_eq_false hm
        clear hm
        have hs3 := HO2.out.2.2.size
        go_wp2_with fail
        refine (pshas_is hm' av pv _ _ rfl (OwnI.intA HO2.out.1).2.2 (by omega)).mono ?_
        rintro e w3 ⟨rfl, rfl⟩
        go_wp2_with (first | (at_builtin; refine wpList_appI rfl (.tmp 25) (.tmp 27) rfl w.heap.size _ L rfl (HO2.out.1.alloc _) _ 1 [1 + y] rfl (pnews1 w2 _) (by simp) (by simp; omega) (by simp only [World.size_alloc]; omega) ?_; intro v5 w5 own5 grow5))
        have ho3 := HO2.out.1.alloc (.cells #[.int .i64 (1 + y)] 3)
        have R : Hid (PthI w B (q + 2) (L ++ [1 + y]) v5 w5) := Lib.hid ⟨own5, ⟨q + 1, prd_own (rd_alloc HO2.out.2.1 _) grow5 (OwnI.lt' ho3) hBw, by omega⟩, ponly_own (only_alloc HO2.out.2.2 _) grow5 (OwnI.lt' ho3)⟩
        clear own5 grow5 ho3 HO2
        go_wp2_with fail
        go_roundw
        case rel => exact ⟨k - 1, L ++ [1 + y], by omega, by go_num, by simp; omega, R.out.more (by omega)⟩
        case measure => simp [intOf]; omega
    · obtain rfl : k = 0 := by omega
      have HO := Lib.hid (And.intro ho (And.intro hr hG))
      clear ho hr hG tv
      go_wp2_with fail
      go_ret
      exact ⟨_, _, _, rfl, by omega, HO.out.1, HO.out.2.1, by omega, HO.out.2.2⟩

/-- a drawn path; a drawn path and a number; two drawn paths -/
def DrawnP (w : World) (e : Ending) (w' : World) : Prop := ∃ (v : Value) (L : List Int), e = .returned v ∧ L.length ≤ 6 ∧ OwnI w' w.heap.size v L ∧ Below w.heap.size w w'
def DrawnPH (w : World) (e : Ending) (w' : World) : Prop := ∃ (v : Value) (L : List Int) (h : Int), e = .returned (.tuple #[v, .int .i64 h]) ∧ L.length ≤ 6 ∧ OwnI w' w.heap.size v L ∧ Below w.heap.size w w'
def DrawnPP (w : World) (e : Ending) (w' : World) : Prop := ∃ (v u : Value) (L M : List Int), e = .returned (.tuple #[v, u]) ∧ L.length ≤ 6 ∧ M.length ≤ 6 ∧ OwnI w' w.heap.size v L ∧ OwnI w' w.heap.size u M ∧ Below w.heap.size w w'

end Go.Proofs.YthkaaamgkmmeeaaDoor
