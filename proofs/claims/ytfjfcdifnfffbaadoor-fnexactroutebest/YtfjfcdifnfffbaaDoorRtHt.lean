/-
  The library's heap over routes: down, Push, Pop.
-/
import Derived.Test.YtfjfcdifnfffbaaDoorRtHs
namespace Go.Proofs.YtfjfcdifnfffbaaDoor
open Go.RowKit
set_option linter.unusedSimpArgs false
set_option linter.unusedVariables false

/-- some answer, yes or no -/
def IsRet (e : Ending) : Prop := ∃ b, e = .returned (.bool b)
theorem isRet (b : Bool) : IsRet (.returned (.bool b)) := ⟨b, rfl⟩

set_option maxRecDepth 100000 in
set_option maxHeartbeats 1000000 in
theorem down_is (R H : Nat) (L : List RV) (g n cap : Nat) (K : List Nat) (m t : Nat) (w : World) (pe : Addr) (hS : HpS w R H L (.slice (some ⟨g, 0, none⟩) n cap) K) (ht : K[m]? = some t) (N : Nat) (hK : ∀ y ∈ K, y < N) (hn : n ≤ 2000000)
    (hB : ∀ W, Below R w W → RsM W L N ∧ EV W pe) :
    Calls Tryd.prog 111 #[.iface 80 (.pointer (some ⟨H, 0, none⟩)), .int .i64 0, .int .i64 (m : Int)] w
      fun e w' => IsRet e ∧ (∃ K', HpS w' R H L (.slice (some ⟨g, 0, none⟩) n cap) K' ∧ K'[m]? = some t) ∧ Below R w w' := by
  have hmn : m < n := by
    have h1 := (List.getElem?_eq_some_iff.1 ht).1
    have h2 := OwnH.len hS.2.2
    omega
  have HS := Lib.hid hS
  have HT := Lib.hid ht
  have HK := Lib.hid hK
  have HB := Lib.hid hB
  have hRs : R ≤ w.heap.size := by have := hS.lt; have := hS.1; omega
  clear hS ht hK hB
  go_enter Tryd.func111, Tryd.ntmps111
  go_wp2_with fail
  go_loopw [7] (fun q wr => ∃ (k : Nat) (K' : List Nat), q = .int .i64 (k : Int) ∧ k ≤ m ∧ Hid (HpS wr R H L (.slice (some ⟨g, 0, none⟩) n cap) K') ∧ Hid (K'[m]? = some t) ∧ Hid (∀ y ∈ K', y < N) ∧ Hid (Below R w wr)) (fun q _ => m - (intOf q).toNat)
  case atStart => exact ⟨0, K, rfl, Nat.zero_le _, HS, HT, HK, Lib.hid (Below.refl _ _)⟩
  case round =>
    clear HS HT HK
    obtain ⟨k, Kc, rfl, hkm, HS, HT, HK, HW⟩ := hrel
    have hlen := OwnH.len HS.out.2.2
    obtain ⟨j1, ej1⟩ : ∃ j1 : Nat, j1 = 2 * k + 1 := ⟨_, rfl⟩
    obtain ⟨j2, ej2⟩ : ∃ j2 : Nat, j2 = j1 + 1 := ⟨_, rfl⟩
    have t1 : IntKind.i64.wrap (2 * (k : Int)) = 2 * (k : Int) := by rw [IntKind.wrap_i64]; omega
    have t2 : IntKind.i64.wrap (2 * (k : Int) + 1) = (j1 : Int) := by rw [IntKind.wrap_i64]; omega
    have t3 : IntKind.i64.wrap ((j1 : Int) + 1) = (j2 : Int) := by rw [IntKind.wrap_i64]; omega
    have d2 : ¬ (j1 : Int) < 0 := by omega
    have c1 : k < j1 := by omega
    have c2 : j1 < j2 := by omega
    clear ej1 ej2
    by_cases hj1 : m ≤ j1
    · have d1 : (m : Int) ≤ (j1 : Int) := by omega
      clear hlen
      go_wp2_with fail
      go_ret
      exact ⟨isRet _, ⟨Kc, HS.out, HT.out⟩, HW.out⟩
    · have d1 : ¬ (m : Int) ≤ (j1 : Int) := by omega
      obtain ⟨pk, hpk⟩ : ∃ p, Kc[k]? = some p := ⟨_, List.getElem?_eq_getElem (by omega)⟩
      have HPk := Lib.hid hpk
      have hpkl : pk < N := HK.out pk (List.mem_of_getElem? hpk)
      obtain ⟨p1, hp1⟩ : ∃ p, Kc[j1]? = some p := ⟨_, List.getElem?_eq_getElem (by omega)⟩
      have HP1 := Lib.hid hp1
      have hp1l : p1 < N := HK.out p1 (List.mem_of_getElem? hp1)
      clear hpk hp1
      by_cases hj2 : j2 < m
      · have d3 : (j2 : Int) < (m : Int) := by omega
        obtain ⟨p2, hp2⟩ : ∃ p, Kc[j2]? = some p := ⟨_, List.getElem?_eq_getElem (by omega)⟩
        have HP2 := Lib.hid hp2
        have hp2l : p2 < N := HK.out p2 (List.mem_of_getElem? hp2)
        clear hp2 hlen
        have hMl := meth_less wr H _ HS.out.cell
        cases hx : hless (L.map RV.rt) p2 p1 with
        | false =>
          have HX := Lib.hid hx
          clear hx
          go_wp2_with fail
          refine (less_is R H L g n cap Kc HX.out wr pe HS.out.2.2 HP2.out HP1.out hp2l hp1l (HB.out _ HW.out).1 (HB.out _ HW.out).2).mono ?_
          rintro en w4 ⟨rfl, b4⟩
          have HS4 := Lib.hid (HS.out.later b4)
          have HW4 := Lib.hid (HW.out.trans (b4.mono (Nat.le_trans hRs HW.out.size)))
          clear b4 hMl
          have hMl2 := meth_less w4 H _ HS4.out.cell
          cases hx2 : hless (L.map RV.rt) p1 pk with
          | false =>
            have HX2 := Lib.hid hx2
            clear hx2
            go_wp2_with fail
            refine (less_is R H L g n cap Kc HX2.out _ pe HS4.out.2.2 HP1.out HPk.out hp1l hpkl (HB.out _ HW4.out).1 (HB.out _ HW4.out).2).mono ?_
            rintro en w5 ⟨rfl, b5⟩
            have HS5 := Lib.hid (HS4.out.later b5)
            have HW5 := Lib.hid (HW4.out.trans (b5.mono (Nat.le_trans hRs HW4.out.size)))
            clear b5 hMl2
            go_wp2_with fail
            go_ret
            exact ⟨isRet _, ⟨Kc, HS5.out, HT.out⟩, HW5.out⟩
          | true =>
            have HX2 := Lib.hid hx2
            clear hx2
            go_wp2_with fail
            refine (less_is R H L g n cap Kc HX2.out _ pe HS4.out.2.2 HP1.out HPk.out hp1l hpkl (HB.out _ HW4.out).1 (HB.out _ HW4.out).2).mono ?_
            rintro en w5 ⟨rfl, b5⟩
            have HS5 := Lib.hid (HS4.out.later b5)
            have HW5 := Lib.hid (HW4.out.trans (b5.mono (Nat.le_trans hRs HW4.out.size)))
            have hMs := meth_swap w5 H _ HS5.out.cell
            have hRw5 : R ≤ w5.heap.size := Nat.le_trans hRs HW5.out.size
            clear b5 hMl2
            go_wp2_with fail
            refine (swap_is R g n cap L Kc k j1 pk p1 _ HS5.out.2.2 HPk.out HP1.out).mono ?_
            rintro en w6 ⟨rfl, o6, g6⟩
            have HS6 := Lib.hid (HS5.out.turn o6 (by simp [Value.ownBlock]) g6)
            have HW6 := Lib.hid (HW5.out.grown g6 hRw5 (fun q e => (World.ownsRow.lt HS5.out.2.2 q (by simpa [Value.ownBlock] using e)).1))
            clear o6 g6 hMs
            go_wp2_with fail
            go_roundw
            case rel => exact ⟨j1, (Kc.set k p1).set j1 pk, by go_num, by omega, HS6, Lib.hid (by rw [swap_at HP1.out HPk.out, if_neg (by omega), if_neg (by omega)]; exact HT.out), Lib.hid (fun y hy => HK.out y ((swap_mem HP1.out HPk.out y).1 hy)), HW6⟩
            case measure => simp [intOf]; omega
        | true =>
          have HX := Lib.hid hx
          clear hx
          go_wp2_with fail
          refine (less_is R H L g n cap Kc HX.out wr pe HS.out.2.2 HP2.out HP1.out hp2l hp1l (HB.out _ HW.out).1 (HB.out _ HW.out).2).mono ?_
          rintro en w4 ⟨rfl, b4⟩
          have HS4 := Lib.hid (HS.out.later b4)
          have HW4 := Lib.hid (HW.out.trans (b4.mono (Nat.le_trans hRs HW.out.size)))
          clear b4 hMl
          have hMl2 := meth_less w4 H _ HS4.out.cell
          cases hx2 : hless (L.map RV.rt) p2 pk with
          | false =>
            have HX2 := Lib.hid hx2
            clear hx2
            go_wp2_with fail
            refine (less_is R H L g n cap Kc HX2.out _ pe HS4.out.2.2 HP2.out HPk.out hp2l hpkl (HB.out _ HW4.out).1 (HB.out _ HW4.out).2).mono ?_
            rintro en w5 ⟨rfl, b5⟩
            have HS5 := Lib.hid (HS4.out.later b5)
            have HW5 := Lib.hid (HW4.out.trans (b5.mono (Nat.le_trans hRs HW4.out.size)))
            clear b5 hMl2
            go_wp2_with fail
            go_ret
            exact ⟨isRet _, ⟨Kc, HS5.out, HT.out⟩, HW5.out⟩
          | true =>
            have HX2 := Lib.hid hx2
            clear hx2
            go_wp2_with fail
            refine (less_is R H L g n cap Kc HX2.out _ pe HS4.out.2.2 HP2.out HPk.out hp2l hpkl (HB.out _ HW4.out).1 (HB.out _ HW4.out).2).mono ?_
            rintro en w5 ⟨rfl, b5⟩
            have HS5 := Lib.hid (HS4.out.later b5)
            have HW5 := Lib.hid (HW4.out.trans (b5.mono (Nat.le_trans hRs HW4.out.size)))
            have hMs := meth_swap w5 H _ HS5.out.cell
            have hRw5 : R ≤ w5.heap.size := Nat.le_trans hRs HW5.out.size
            clear b5 hMl2
            go_wp2_with fail
            refine (swap_is R g n cap L Kc k j2 pk p2 _ HS5.out.2.2 HPk.out HP2.out).mono ?_
            rintro en w6 ⟨rfl, o6, g6⟩
            have HS6 := Lib.hid (HS5.out.turn o6 (by simp [Value.ownBlock]) g6)
            have HW6 := Lib.hid (HW5.out.grown g6 hRw5 (fun q e => (World.ownsRow.lt HS5.out.2.2 q (by simpa [Value.ownBlock] using e)).1))
            clear o6 g6 hMs
            go_wp2_with fail
            go_roundw
            case rel => exact ⟨j2, (Kc.set k p2).set j2 pk, by go_num, by omega, HS6, Lib.hid (by rw [swap_at HP2.out HPk.out, if_neg (by omega), if_neg (by omega)]; exact HT.out), Lib.hid (fun y hy => HK.out y ((swap_mem HP2.out HPk.out y).1 hy)), HW6⟩
            case measure => simp [intOf]; omega
      · have d3 : ¬ (j2 : Int) < (m : Int) := by omega
        clear hlen
        have hMl2 := meth_less wr H _ HS.out.cell
        cases hx2 : hless (L.map RV.rt) p1 pk with
        | false =>
          have HX2 := Lib.hid hx2
          clear hx2
          go_wp2_with fail
          refine (less_is R H L g n cap Kc HX2.out _ pe HS.out.2.2 HP1.out HPk.out hp1l hpkl (HB.out _ HW.out).1 (HB.out _ HW.out).2).mono ?_
          rintro en w5 ⟨rfl, b5⟩
          have HS5 := Lib.hid (HS.out.later b5)
          have HW5 := Lib.hid (HW.out.trans (b5.mono (Nat.le_trans hRs HW.out.size)))
          clear b5 hMl2
          go_wp2_with fail
          go_ret
          exact ⟨isRet _, ⟨Kc, HS5.out, HT.out⟩, HW5.out⟩
        | true =>
          have HX2 := Lib.hid hx2
          clear hx2
          go_wp2_with fail
          refine (less_is R H L g n cap Kc HX2.out _ pe HS.out.2.2 HP1.out HPk.out hp1l hpkl (HB.out _ HW.out).1 (HB.out _ HW.out).2).mono ?_
          rintro en w5 ⟨rfl, b5⟩
          have HS5 := Lib.hid (HS.out.later b5)
          have HW5 := Lib.hid (HW.out.trans (b5.mono (Nat.le_trans hRs HW.out.size)))
          have hMs := meth_swap w5 H _ HS5.out.cell
          have hRw5 : R ≤ w5.heap.size := Nat.le_trans hRs HW5.out.size
          clear b5 hMl2
          go_wp2_with fail
          refine (swap_is R g n cap L Kc k j1 pk p1 _ HS5.out.2.2 HPk.out HP1.out).mono ?_
          rintro en w6 ⟨rfl, o6, g6⟩
          have HS6 := Lib.hid (HS5.out.turn o6 (by simp [Value.ownBlock]) g6)
          have HW6 := Lib.hid (HW5.out.grown g6 hRw5 (fun q e => (World.ownsRow.lt HS5.out.2.2 q (by simpa [Value.ownBlock] using e)).1))
          clear o6 g6 hMs
          go_wp2_with fail
          go_roundw
          case rel => exact ⟨j1, (Kc.set k p1).set j1 pk, by go_num, by omega, HS6, Lib.hid (by rw [swap_at HP1.out HPk.out, if_neg (by omega), if_neg (by omega)]; exact HT.out), Lib.hid (fun y hy => HK.out y ((swap_mem HP1.out HPk.out y).1 hy)), HW6⟩
          case measure => simp [intOf]; omega
end Go.Proofs.YtfjfcdifnfffbaaDoor
