/-
  The program's relations: next, order.
-/
import Derived.Test.YtnljcppefnaapaaHoPd
namespace Go.Proofs.Ytnljcppefnaapaa
open Go.RowKit
open Go.Maps (Keyed)
set_option linter.unusedSimpArgs false
set_option linter.unusedVariables false

theorem iwN {n : Nat} (h : n ≤ 2000000) : Iw (n : Int) := iwL (by omega) (by omega)
theorem freeH_cu1 {M : Mat} {P : List Int} {h : Nat} (h1 : 1 ≤ h) (h2 : h ≤ M.length) (hf : freeH M P h = true) (p q : Int) (hn : fM M p q ≠ 0) : cuG (fM M) P h p q := by
  rintro ⟨rfl, hm, hq⟩
  obtain ⟨_, b1, b2⟩ := fM_in hn
  rw [freeH_iff] at hf
  have e1 : fM M (h : Int) q = mAt M (h - 1) (q - 1).toNat := by unfold fM; rw [if_pos (by omega), show ((h : Int) - 1).toNat = h - 1 by omega]
  rcases hf (q - 1).toNat (by omega) with k | k
  · exact k (by rw [← e1]; exact hm)
  · rw [show (((q - 1).toNat + 1 : Nat) : Int) = q by omega] at k; exact hq k
theorem freeH_cu2 {M : Mat} {P : List Int} {h : Nat} (h1 : 1 ≤ h) (h2 : h ≤ M.length) (hl : M.length ≤ 2000000) (hc : ∀ p q, Iw p → Iw q → fM M p q ≠ 0 → cuG (fM M) P h p q) : freeH M P h = true := by
  rw [freeH_iff]
  intro c hcl
  by_cases hm : mAt M (h - 1) c = 1
  · right
    have e1 : fM M (h : Int) ((c + 1 : Nat) : Int) = mAt M (h - 1) c := by unfold fM; rw [if_pos (by omega), show ((h : Int) - 1).toNat = h - 1 by omega, show (((c + 1 : Nat) : Int) - 1).toNat = c by omega]
    have := hc (h : Int) ((c + 1 : Nat) : Int) (iwN (by omega)) (iwN (by omega)) (by rw [e1, hm]; decide)
    exact Classical.byContradiction fun q => this ⟨rfl, by rw [e1]; exact hm, q⟩
  · exact .inl hm
def nextP (M : Mat) (P : List Int) : Int × Bool := match nextH M P with
  | some h => ((h : Int), true)
  | none => (0, false)
theorem nextP_some {M : Mat} {P : List Int} {h : Nat} (h1 : 1 ≤ h) (h2 : h ≤ M.length) (hc : canH M P h = true) (hl : ∀ k, 1 ≤ k → k < h → canH M P k = false) : nextP M P = ((h : Int), true) := by simp only [nextP, nextH_some h1 h2 hc hl]
theorem nextP_none {M : Mat} {P : List Int} (hl : ∀ k, 1 ≤ k → k ≤ M.length → canH M P k = false) : nextP M P = (0, false) := by simp only [nextP, nextH_none hl]
set_option maxRecDepth 100000 in
set_option maxHeartbeats 2000000 in
theorem rnext_is (M : Mat) (hM : M.length ≤ 5) {P : List Int} {k : Int} {x : Bool} (hk : nextP M P = (k, x)) (n b m cp : Nat) (a : Option Addr) (w : World) (hn : n = M.length) (hR : Rels w (fM M) b) (hm : m = P.length) (hI : IntA w a P) (hl : P.length ≤ 2000000) :
    Calls Try.prog 60 #[RelV n b, .slice a m cp] w fun e w' => e = .returned (.tuple #[.int .i64 k, .bool x]) ∧ Below w.heap.size w w' := by
  subst hm hn
  have HK := Lib.hid hk
  obtain ⟨hb, hc, hWlt⟩ := rbox w M.length b
  obtain ⟨W, hW⟩ : ∃ W, w.alloc (.cells #[.int .i64 (M.length : Int), .map (some b)] 50) = W := ⟨_, rfl⟩
  rw [hW] at hb hc hWlt
  have HR := Lib.hid (hR.below hb)
  have HBW := Lib.hid hb
  have HI := Lib.hid (hI.below hb)
  have HC := Lib.hid hc
  clear hk hb hR hI hc
  go_enter Try.func60, Try.ntmps60
  go_wp2_with fail
  go_loopw [6] (fun h wr => ∃ H : Nat, 1 ≤ H ∧ H ≤ M.length + 1 ∧ h = .int .i64 H ∧ Hid (∀ k, 1 ≤ k → k < H → canH M P k = false) ∧ Hid (Below W.heap.size W wr)) (fun h _ => M.length + 1 - (intOf h).toNat)
  case atStart => exact ⟨1, Nat.le_refl _, by omega, rfl, Lib.hid (fun k h1 h2 => by omega), Lib.hid (Below.refl _ _)⟩
  case round =>
    clear hW
    obtain ⟨H, hH1, hH2, rfl, HN, BW⟩ := hrel
    have c0 := cell_later BW.out HC.out.1
    have c1 := cell_later BW.out HC.out.2
    have HWr := Lib.hid (HBW.out.trans (BW.out.mono HBW.out.size))
    have HRr := Lib.hid (HR.out.below BW.out)
    have HIr := Lib.hid (HI.out.below BW.out)
    by_cases hHt : H ≤ M.length
    · have h0 : (H : Int) ≤ (M.length : Int) := by omega
      cases hin : decide ((H : Int) ∈ P) with
      | true =>
        have HN2 : Hid (∀ k, 1 ≤ k → k < H + 1 → canH M P k = false) := Lib.hid (fun k h1 h2 => by
          by_cases e : k = H
          · subst e; exact canH_in (of_decide_eq_true hin)
          · exact HN.out k h1 (by omega))
        have HIN := Lib.hid hin
        clear hin
        go_wp2_with fail
        refine (contains_is HIN.out a cp _ _ rfl HIr.out hl).mono ?_
        rintro e wq ⟨rfl, rfl⟩
        go_wp2_with fail
        go_roundw
        case rel => exact ⟨H + 1, by omega, by omega, by go_num, HN2, BW⟩
        case measure => simp [intOf]; omega
      | false =>
        have HIN := Lib.hid hin
        obtain ⟨y, hy⟩ : ∃ y, freeH M P H = y := ⟨_, rfl⟩
        have hcan : canH M P H = y := by simp only [canH, hin, Bool.not_false, Bool.true_and, hy]
        have G1 := Lib.hid (show y = true → ∀ p q, Iw p → Iw q → fM M p q ≠ 0 → cuG (fM M) P H p q from fun h p q _ _ hf => freeH_cu1 hH1 hHt (hy.trans h) p q hf)
        have G0 := Lib.hid (show (∀ p q, Iw p → Iw q → fM M p q ≠ 0 → cuG (fM M) P H p q) → y = true from fun h => hy.symm.trans (freeH_cu2 hH1 hHt (by omega) h))
        have HCN := Lib.hid hcan
        clear hin hy hcan
        go_wp2_with fail
        refine (contains_is HIN.out a cp _ _ rfl HIr.out hl).mono ?_
        rintro e wq ⟨rfl, rfl⟩
        go_wp2_with fail
        refine (cust_is G1.out G0.out M.length b _ cp a _ HRr.out rfl HIr.out hl).mono ?_
        rintro e w2 ⟨rfl, b2⟩
        have BW2 := Lib.hid (BW.out.trans (b2.mono BW.out.size))
        have HW2 := Lib.hid (next HWr.out b2)
        clear b2 c0 c1
        cases y with
        | true =>
          have HX := Lib.hid ((nextP_some hH1 hHt HCN.out HN.out).symm.trans HK.out)
          go_wp2_with fail
          refine bodyPost_ret (v := .tuple #[.int .i64 (H : Int), .bool true]) (by simp [results, Try.results60, go_sem]) rfl ?_
          have h3 := HX.out
          simp only [Prod.mk.injEq] at h3
          rw [← h3.1, ← h3.2]
          exact ⟨rfl, HW2.out⟩
        | false =>
          have HN2 : Hid (∀ k, 1 ≤ k → k < H + 1 → canH M P k = false) := Lib.hid (fun k h1 h2 => by
            by_cases e : k = H
            · subst e; exact HCN.out
            · exact HN.out k h1 (by omega))
          go_wp2_with fail
          go_roundw
          case rel => exact ⟨H + 1, by omega, by omega, by go_num, HN2, BW2⟩
          case measure => simp [intOf]; omega
    · obtain rfl : H = M.length + 1 := by omega
      have h0 : ¬ ((M.length + 1 : Nat) : Int) ≤ (M.length : Int) := by omega
      have HX := Lib.hid ((nextP_none (fun k h1 h2 => HN.out k h1 (by omega))).symm.trans HK.out)
      go_wp2_with fail
      refine bodyPost_ret (v := .tuple #[.int .i64 0, .bool false]) (by simp [results, Try.results60, go_sem]) rfl ?_
      have h3 := HX.out
      simp only [Prod.mk.injEq] at h3
      rw [← h3.1, ← h3.2]
      exact ⟨rfl, HWr.out⟩
/-- the order: all, or nothing -/
def ordP (M : Mat) : List Int × Bool := if (orderM M).length = M.length then (orderM M, true) else ([], false)
theorem ordP_all {M : Mat} {U : List Int} {R : Nat} (h : orderN M R [] = U) (hl : U.length = R) (hR : ¬ R < M.length) : ordP M = (U, true) := by
  have h1 := nd_len (ord_orderN R [] (ord_nil M)).ran (ord_orderN R [] (ord_nil M)).nd
  rw [h] at h1
  obtain rfl : R = M.length := by omega
  rw [ordP, orderM, h, if_pos hl]
theorem ordP_no {M : Mat} {U : List Int} {R : Nat} (h : orderN M R [] = U) (hl : U.length = R) (hR : R < M.length) (hn : nextP M U = (0, false)) : ordP M = ([], false) := by
  have hx : nextH M U = none := by
    unfold nextP at hn
    cases hq : nextH M U with
    | none => rfl
    | some k => rw [hq] at hn; simp at hn
  have hs : ∀ k, orderN M (R + k) [] = U := fun k => by
    induction k with
    | zero => exact h
    | succ k ih => rw [← Nat.add_assoc, orderN_step, ih]; simp [stepO, hx]
  have : orderM M = U := by have := hs (M.length - R); rwa [show R + (M.length - R) = M.length by omega] at this
  rw [ordP, this, if_neg (by omega)]
theorem nextP_step {M : Mat} {U : List Int} {k : Int} (h : nextP M U = (k, true)) : stepO M U = U ++ [k] := by
  unfold nextP at h
  cases hq : nextH M U with
  | none => rw [hq] at h; simp at h
  | some j => rw [hq] at h; simp only [Prod.mk.injEq, and_true] at h; simp only [stepO, hq, h]
theorem nextP_no {M : Mat} {U : List Int} {k : Int} (h : nextP M U = (k, false)) : nextP M U = (0, false) := by
  unfold nextP at h ⊢
  cases hq : nextH M U with
  | none => rfl
  | some j => rw [hq] at h; simp at h
theorem hvi_box {w W W' : World} {U : List Int} {v : Value} (hb : Below w.heap.size w W) (h : HvI W U v W') : HvI w U v W' := ⟨owni_mono h.1 hb.size, hb.trans (h.2.mono hb.size)⟩
def lenSl : Value → Nat
  | .slice _ n _ => n
  | _ => 0
set_option maxRecDepth 100000 in
set_option maxHeartbeats 2000000 in
theorem rorder_is (M : Mat) (hM : M.length ≤ 5) {U : List Int} {x : Bool} (hU : ordP M = (U, x)) (n b : Nat) (w : World) (hn : n = M.length) (hR : Rels w (fM M) b) :
    Calls Try.prog 53 #[RelV n b] w fun e w' => ∃ v, e = .returned (.tuple #[v, .bool x]) ∧ HvI w U v w' := by
  subst hn
  have HU := Lib.hid hU
  obtain ⟨hb, hc, hWlt⟩ := rbox w M.length b
  obtain ⟨W, hW⟩ : ∃ W, w.alloc (.cells #[.int .i64 (M.length : Int), .map (some b)] 50) = W := ⟨_, rfl⟩
  rw [hW] at hb hc hWlt
  have HR := Lib.hid (hR.below hb)
  have HBW := Lib.hid hb
  have HC := Lib.hid hc
  clear hU hb hR hc
  go_enter Try.func53, Try.ntmps53
  go_wp2_with fail
  go_loopw [4, 5, 6] (fun t _ _ wr => ∃ out : List Int, out.length ≤ M.length ∧ Hid (orderN M out.length [] = out) ∧ HvI W out t wr) (fun t _ _ _ => M.length - lenSl t)
  case atStart => exact ⟨[], Nat.zero_le _, Lib.hid rfl, owni_nil _ _, Below.refl _ _⟩
  case round =>
    clear hW
    obtain ⟨out, hlo, HO, hI⟩ := hrel
    obtain ⟨ta, tc, rfl, _, _⟩ := OwnI.tab hI.1
    have HI := Lib.hid hI
    have c0 := cell_later hI.2 HC.out.1
    have c1 := cell_later hI.2 HC.out.2
    have HRr := Lib.hid (HR.out.below hI.2)
    clear hI
    by_cases hlt : out.length < M.length
    · have h0 : (out.length : Int) < (M.length : Int) := by omega
      obtain ⟨k, x0, hk⟩ : ∃ k x0, nextP M out = (k, x0) := ⟨_, _, rfl⟩
      have HK := Lib.hid hk
      clear hk
      go_wp2_with fail
      refine (rnext_is M hM HK.out M.length b _ tc ta _ rfl HRr.out rfl (OwnI.intA HI.out.1).2.2 (by omega)).mono ?_
      rintro e w2 ⟨rfl, b2⟩
      have HI2 := Lib.hid (show HvI W out _ w2 from ⟨owni_later HI.out.1 b2, next HI.out.2 b2⟩)
      clear b2 c0 c1
      cases x0 with
      | false =>
        have HX := Lib.hid ((ordP_no HO.out rfl hlt (nextP_no HK.out)).symm.trans HU.out)
        have HB2 := Lib.hid (HBW.out.trans (HI2.out.2.mono HBW.out.size))
        go_wp2_with fail
        refine bodyPost_ret (v := .tuple #[.slice none 0 0, .bool false]) (by simp [results, Try.results53, go_sem]) rfl ?_
        have h3 := HX.out
        simp only [Prod.mk.injEq] at h3
        rw [← h3.1, ← h3.2]
        exact ⟨_, rfl, owni_nil _ _, HB2.out⟩
      | true =>
        have HS := Lib.hid (show orderN M (out.length + 1) [] = out ++ [k] by rw [orderN_step, HO.out]; exact nextP_step HK.out)
        go_wp2_with (at_builtin; refine wpList_appI rfl (.tmp 20) (.tmp 22) rfl W.heap.size _ out rfl (HI2.out.1.alloc _) _ 1 [k] rfl (pnews1 w2 _) (by simp) ?hl1 ?hR1 ?hgo1)
        case hl1 => (first | omega | (simp; omega))
        case hR1 => (have := HI2.out.2.size; (try simp only [World.size_alloc]); omega)
        intro v5 w5 own5 grow5
        have I5 := Lib.hid (HI2.out.app (by simpa using own5) grow5)
        clear own5 grow5
        go_wp2_with fail
        go_roundw
        case rel => exact ⟨out ++ [k], by simp; omega, Lib.hid (by rw [List.length_append]; exact HS.out), I5.out⟩
        case measure =>
          obtain ⟨ta5, tc5, rfl, _, _⟩ := OwnI.tab I5.out.1
          simp [lenSl]; omega
    · have h0 : ¬ (out.length : Int) < (M.length : Int) := by omega
      have HX := Lib.hid ((ordP_all HO.out rfl hlt).symm.trans HU.out)
      have HF := Lib.hid (hvi_box HBW.out HI.out)
      go_wp2_with fail
      refine bodyPost_ret (v := .tuple #[.slice ta out.length tc, .bool true]) (by simp [results, Try.results53, go_sem]) rfl ?_
      have h3 := HX.out
      simp only [Prod.mk.injEq] at h3
      rw [← h3.1, ← h3.2]
      exact ⟨_, rfl, HF.out⟩
end Go.Proofs.Ytnljcppefnaapaa
