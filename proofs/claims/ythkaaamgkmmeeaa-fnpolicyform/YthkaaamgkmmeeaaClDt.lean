/-
  Drawn policies: DrawPolicyOk.
-/
import Derived.Test.YthkaaamgkmmeeaaClDs
namespace Go.Proofs.Ythkaaamgkmmeeaa
open Go.RowKit
set_option linter.unusedSimpArgs false
set_option linter.unusedVariables false

/-- a drawn policy -/
def DnP (w : World) (e : Ending) (w' : World) : Prop := ∃ (v : Value) (L : List CL), e = .returned v ∧ L.length ≤ 6 ∧ OwnC w' w.heap.size v L ∧ Below w.heap.size w w'
def lenV : Value → Nat
  | .slice _ n _ => n
  | _ => 0

set_option maxRecDepth 100000 in
set_option maxHeartbeats 4000000 in
theorem dPolicyOk_any (a0 : Option Addr) (len0 cap0 : Nat) (zs0 : List Int) (w : World) (h : IsRow w a0 len0 cap0 zs0) :
    Calls Try.prog 10 #[.slice a0 len0 cap0] w (DnP w) := by
  have H0 := Lib.hid h
  clear h
  go_enter Try.func10, Try.ntmps10
  go_wp2_with fail
  refine (open_any a0 len0 cap0 zs0 _ H0.out).mono ?_
  rintro en w1 ⟨rfl, hr, b1⟩
  have HR := Lib.hid hr
  have HB := Lib.hid b1
  have hBw := rd_lt hr
  have hws := b1.size
  clear hr b1
  go_wp2_with fail
  refine (policy_any _ w.heap.size 0 (by omega) HR.out).mono ?_
  rintro en w2 ⟨v, L, rfl, hl, hI⟩
  obtain ⟨av, pv, rfl, hcv, tv⟩ := OwnC.tab hI.1
  have I2 := Lib.hid hI
  clear hI tv HR
  obtain ⟨q1, r1, hq1⟩ := I2.out.2.1
  go_wp2_with fail
  refine (pick_any 6 _ w.heap.size q1 (by omega) (by omega) r1).mono ?_
  rintro en w3 ⟨x, x0, x1, rfl, hr3, hg3⟩
  have I3 : Hid (PcI w1 w.heap.size 101 L (.slice av L.length pv) w3) := Lib.hid ⟨ownc_pick I2.out.1 hg3 hBw, ⟨_, hr3, by omega⟩, only_on I2.out.2.2 hg3⟩
  clear hr3 hg3 r1 I2
  have fin : ∀ (M : List CL) (u : Value) (W : World) (q : Nat), PcI w1 w.heap.size q M u W → OwnC W w.heap.size u M ∧ Below w.heap.size w W := fun M u W q k => ⟨ownc_mono k.1 hws, below_only HB.out k.2.2 hws (Nat.le_refl _)⟩
  have FIN := Lib.hid fin
  clear fin
  by_cases hx : x = 0
  · have ex : (x == 0) = true := by simp [hx]
    clear hx
    go_wp2_with fail
    go_loopw [4] (fun l wr => ∃ (M : List CL), L.length ≤ M.length ∧ M.length ≤ 6 ∧ lenV l = M.length ∧ PcI w1 w.heap.size (101 + M.length) M l wr) (fun l _ => 7 - lenV l)
    case atStart => exact ⟨L, Nat.le_refl _, by omega, rfl, I3.out.more (by omega)⟩
    case round =>
      clear I3
      obtain ⟨M, hm1, hm2, hlv, hI⟩ := hrel
      obtain ⟨am, cm, rfl, hcm, tm⟩ := OwnC.tab hI.1
      have HI := Lib.hid hI
      clear hI tm hlv
      obtain ⟨q2, r2, hq2⟩ := HI.out.2.1
      go_wp2_with fail
      refine (pick_any 2 _ w.heap.size q2 (by omega) (by omega) r2).mono ?_
      rintro en w4 ⟨y, y0, y1, rfl, hr4, hg4⟩
      have I4 : Hid (PcI w1 w.heap.size (102 + M.length) M (.slice am M.length cm) w4) := Lib.hid ⟨ownc_pick HI.out.1 hg4 hBw, ⟨_, hr4, by omega⟩, only_on HI.out.2.2 hg4⟩
      have hs4 := I4.out.2.2.size
      clear hr4 hg4 r2 HI
      have iy : IntKind.i64.wrap (5 + y) = 5 + y := by rw [IntKind.wrap_i64]; omega
      by_cases hlt : (M.length : Int) < 5 + y
      · go_wp2_with (first | (at_builtin; refine wpList_appC rfl (.tmp 18) (.tmp 20) rfl w1.heap.size _ M rfl ?g1 _ 1 1 [⟨1, 0, 0, 0, false, 2, 0, 0⟩] rfl rfl ?g2 ?g3 ?g4 ?g5))
        case g1 => exact World.ownsRow.alloc I4.out.1 _
        case g2 => exact news8 w4 ⟨1, 0, 0, 0, false, 2, 0, 0⟩
        case g3 => (simp; omega)
        case g4 => (simp only [World.size_alloc]; omega)
        intro v5 w5 own5 grow5
        have I5 := Lib.hid (I4.out.app hBw own5 grow5)
        have hl5 : lenV v5 = M.length + 1 := by
          obtain ⟨a5, c5, e5, _⟩ := OwnC.tab own5
          rw [e5]; simp [lenV]
        clear own5 grow5 I4
        have HL5 := Lib.hid hl5
        clear hl5
        go_wp2_with fail
        go_roundw
        case rel => exact ⟨M ++ [⟨1, 0, 0, 0, false, 2, 0, 0⟩], by simp; omega, by simp; omega, by rw [HL5.out]; simp, I5.out.more (by simp; omega)⟩
        case measure => rw [HL5.out]; simp [lenV]; omega
      · go_wp2_with fail
        go_ret
        exact ⟨_, M, rfl, hm2, FIN.out _ _ _ _ I4.out⟩
  · have ex : (x == 0) = false := by simp [hx]
    clear hx
    go_wp2_with fail
    go_ret
    exact ⟨_, L, rfl, by omega, FIN.out _ _ _ _ I3.out⟩
end Go.Proofs.Ythkaaamgkmmeeaa
