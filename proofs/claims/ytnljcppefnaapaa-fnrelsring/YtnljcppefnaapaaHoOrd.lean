/-
  The order of houses, by the document's model: l12Order, RelsFree, RelsOrder.
-/
import Derived.Test.YtnljcppefnaapaaHoSpB
import Derived.Test.YtnljcppefnaapaaMathN
namespace Go.Proofs.Ytnljcppefnaapaa
open Go.RowKit
set_option linter.unusedSimpArgs false
set_option linter.unusedVariables false

/-- an own slice of ints, seen from before -/
def HvI (w : World) (U : List Int) (v : Value) (W : World) : Prop := OwnI W w.heap.size v U ∧ Below w.heap.size w W
theorem HvI.app {w W W' : World} {U : List Int} {v v' : Value} {x : Int} (h : HvI w U v W) (own : OwnI W' w.heap.size v' (U ++ [x])) (grow : (W.alloc (.cells #[.int .i64 x] 3)).grownBy W' v.ownBlock) : HvI w (U ++ [x]) v' W' :=
  ⟨own, (h.2.alloc h.2.size _).grown grow (by have := h.2.size; simp; omega) (OwnI.lt' h.1)⟩
def allC (M : Mat) (out : List Int) (h C : Nat) : Bool := (List.range C).all fun c => decide (mAt M (h - 1) c ≠ 1) || decide (((c + 1 : Nat) : Int) ∈ out)
theorem allC_succ (M : Mat) (out : List Int) (h C : Nat) : allC M out h (C + 1) = (allC M out h C && (decide (mAt M (h - 1) C ≠ 1) || decide (((C + 1 : Nat) : Int) ∈ out))) := by
  simp only [allC, List.range_succ, List.all_append, List.all_cons, List.all_nil, Bool.and_true]
theorem stepO_some {M : Mat} {out : List Int} {h : Nat} (h1 : 1 ≤ h) (h2 : h ≤ M.length) (hc : canH M out h = true) (hl : ∀ k, 1 ≤ k → k < h → canH M out k = false) : stepO M out = out ++ [(h : Int)] := by simp only [stepO, nextH_some h1 h2 hc hl]
theorem stepO_none {M : Mat} {out : List Int} (hl : ∀ k, 1 ≤ k → k ≤ M.length → canH M out k = false) : stepO M out = out := by simp only [stepO, nextH_none hl]
theorem canH_in {M : Mat} {out : List Int} {h : Nat} (k : (h : Int) ∈ out) : canH M out h = false := by simp [canH, k]
theorem canH_out {M : Mat} {out : List Int} {h : Nat} (k : (h : Int) ∉ out) : canH M out h = allC M out h M.length := by simp [canH, k, freeH, allC]

set_option maxRecDepth 100000 in
set_option maxHeartbeats 4000000 in
theorem sorder_is (L : List IR) (hg : RelsGood (matP L)) {U : List Int} (hU : orderM (matP L) = U) (a : Option Addr) (cap n : Nat) (w : World) (hn : n = L.length) (hA : MatA w a L) :
    Calls Try.prog 52 #[.slice a n cap] w fun e w' => ∃ v, e = .returned v ∧ HvI w U v w' := by
  subst hn
  have h5 := hg.len
  rw [matP_len] at h5
  have HU := Lib.hid hU
  have HG := Lib.hid hg
  have HA := Lib.hid hA
  have I0 : Hid (HvI w [] (.slice (some ⟨w.heap.size, 0, none⟩) 0 0) (w.alloc (.cells #[] 3))) := Lib.hid ⟨owni_empty w w.heap.size (Nat.le_refl _), (Below.refl _ _).alloc (Nat.le_refl _) _⟩
  clear hU hg hA
  go_enter Try.func52, Try.ntmps52
  go_wp2_with fail
  go_loopw [3, 4, 5, 6, 7] (fun t r _ _ _ wr => ∃ (R : Nat) (out : List Int), R ≤ L.length ∧ r = .int .i64 R ∧ out.length ≤ R ∧ Hid (orderN (matP L) R [] = out) ∧ HvI w out t wr) (fun _ r _ _ _ _ => L.length - (intOf r).toNat)
  case atStart => exact ⟨0, [], Nat.zero_le _, rfl, Nat.le_refl _, Lib.hid rfl, I0.out⟩
  case round =>
    clear I0
    obtain ⟨R, out, hR, rfl, hlo, HO, hI⟩ := hrel
    obtain ⟨ta, tc, rfl, _, _⟩ := OwnI.tab hI.1
    have HI := Lib.hid hI
    clear hI
    by_cases hlt : R < L.length
    · go_wp2_with fail
      go_loopw [3, 5, 6, 7] (fun t h _ _ wr2 => ∃ H : Nat, 1 ≤ H ∧ H ≤ L.length + 1 ∧ h = .int .i64 H ∧ t = .slice ta out.length tc ∧ Hid (∀ k, 1 ≤ k → k < H → canH (matP L) out k = false) ∧ wr2 = wr) (fun _ h _ _ _ => L.length + 1 - (intOf h).toNat)
      case atStart => exact ⟨1, Nat.le_refl _, by omega, rfl, rfl, Lib.hid (fun k h1 h2 => by omega), rfl⟩
      case round =>
        obtain ⟨H, hH1, hH2, rfl, rfl, HN, rfl⟩ := hrel
        by_cases hHt : H ≤ L.length
        · have h0 : (H : Int) ≤ (L.length : Int) := by omega
          by_cases hin : (H : Int) ∈ out
          · have HN2 : Hid (∀ k, 1 ≤ k → k < H + 1 → canH (matP L) out k = false) := Lib.hid (fun k h1 h2 => by
              by_cases e : k = H
              · subst e; exact canH_in hin
              · exact HN.out k h1 (by omega))
            have hd := Lib.hid (decide_eq_true hin)
            clear hin
            go_wp2_with fail
            refine (pshas_is hd.out ta tc _ _ rfl (OwnI.intA HI.out.1).2.2 (by omega)).mono ?_
            rintro e wq ⟨rfl, rfl⟩
            go_wp2_with fail
            go_roundw
            case rel => exact ⟨H + 1, by omega, by omega, by go_num, rfl, HN2, by first | rfl | trivial⟩
            case measure => simp [intOf]; omega
          · have HNI := Lib.hid hin
            have hd := Lib.hid (decide_eq_false hin)
            clear hin
            go_wp2_with fail
            refine (pshas_is hd.out ta tc _ _ rfl (OwnI.intA HI.out.1).2.2 (by omega)).mono ?_
            rintro e wq ⟨rfl, rfl⟩
            go_wp2_with fail
            go_loopw [6, 7] (fun f c wr3 => ∃ C : Nat, C ≤ L.length ∧ c = .int .i64 ((C : Int) + 1) ∧ f = .bool (allC (matP L) out H C) ∧ wr3 = wr) (fun _ c _ => L.length + 1 - (intOf c).toNat)
            case atStart => exact ⟨0, Nat.zero_le _, rfl, rfl, rfl⟩
            case round =>
              obtain ⟨C, hC, rfl, rfl, rfl⟩ := hrel
              by_cases hCt : C < L.length
              · have c0 : (C : Int) + 1 ≤ (L.length : Int) := by omega
                have HS := Lib.hid (allC_succ (matP L) out H C)
                cases hf : allC (matP L) out H C with
                | false =>
                  have HF := Lib.hid hf
                  clear hf
                  go_wp2_with fail
                  go_roundw
                  case rel => exact ⟨C + 1, by omega, by go_num, by rw [HS.out, HF.out]; rfl, by first | rfl | trivial⟩
                  case measure => simp [intOf]; omega
                | true =>
                  have HF := Lib.hid hf
                  clear hf
                  obtain ⟨r, hr⟩ : ∃ r, mAt (matP L) (H - 1) C = r := ⟨_, rfl⟩
                  have HR := Lib.hid (show mAt (matP L) ((H : Int) - 1).toNat ((C : Int) + 1 - 1).toNat = r by rw [show ((H : Int) - 1).toNat = H - 1 by omega, show ((C : Int) + 1 - 1).toNat = C by omega]; exact hr)
                  have HR2 := Lib.hid hr
                  clear hr
                  go_wp2_with fail
                  refine (ofG_is L HG.out a cap _ H ((C : Int) + 1) (by omega) (by omega) HR.out _ rfl (HA.out.below HI.out.2)).mono ?_
                  rintro e wq ⟨rfl, rfl⟩
                  by_cases hr1 : r = 1
                  · have e1 : (r != 1) = false := by simp [hr1]
                    obtain ⟨y, hy⟩ : ∃ y, decide (((C : Int) + 1) ∈ out) = y := ⟨_, rfl⟩
                    have HY := Lib.hid hy
                    have HQ := Lib.hid (show allC (matP L) out H (C + 1) = y by rw [HS.out, HF.out, HR2.out]; simp only [hr1, ne_eq, not_true_eq_false, decide_false, Bool.false_or, Bool.true_and]; rw [show ((C + 1 : Nat) : Int) = (C : Int) + 1 by omega]; exact hy)
                    clear hr1 hy
                    go_wp2_with fail
                    refine (pshas_is HY.out ta tc _ _ rfl (OwnI.intA HI.out.1).2.2 (by omega)).mono ?_
                    rintro e wq ⟨rfl, rfl⟩
                    go_wp2_with fail
                    go_roundw
                    case rel => exact ⟨C + 1, by omega, by go_num, by rw [HQ.out], by first | rfl | trivial⟩
                    case measure => simp [intOf]; omega
                  · have e1 : (r != 1) = true := by simp [hr1]
                    have HQ := Lib.hid (show allC (matP L) out H (C + 1) = true by rw [HS.out, HF.out, HR2.out]; simp [hr1])
                    clear hr1
                    go_wp2_with fail
                    go_roundw
                    case rel => exact ⟨C + 1, by omega, by go_num, by rw [HQ.out], by first | rfl | trivial⟩
                    case measure => simp [intOf]; omega
              · obtain rfl : C = L.length := by omega
                have HC := Lib.hid (show canH (matP L) out H = allC (matP L) out H L.length by rw [canH_out HNI.out, matP_len])
                cases hf : allC (matP L) out H L.length with
                | false =>
                  have HN2 : Hid (∀ k, 1 ≤ k → k < H + 1 → canH (matP L) out k = false) := Lib.hid (fun k h1 h2 => by
                    by_cases e : k = H
                    · subst e; rw [HC.out, hf]
                    · exact HN.out k h1 (by omega))
                  clear hf
                  go_wp2_with fail
                  go_roundw
                  case rel => exact ⟨H + 1, by omega, by omega, by go_num, rfl, HN2, by first | rfl | trivial⟩
                  case measure => simp [intOf]; omega
                | true =>
                  have HO2 := Lib.hid (show orderN (matP L) (R + 1) [] = out ++ [(H : Int)] by rw [orderN_step, HO.out]; exact stepO_some hH1 (by rw [matP_len]; exact hHt) (HC.out.trans hf) HN.out)
                  clear hf
                  go_wp2_with (at_builtin; refine wpList_appI rfl (.tmp 44) (.tmp 46) rfl w.heap.size _ out rfl (HI.out.1.alloc _) _ 1 [(H : Int)] rfl (pnews1 wr _) (by simp) ?hl1 ?hR1 ?hgo1)
                  case hl1 => (first | omega | (simp; omega))
                  case hR1 => (have := HI.out.2.size; (try simp only [World.size_alloc]); omega)
                  intro v5 w5 own5 grow5
                  have I5 := Lib.hid (HI.out.app (by simpa using own5) grow5)
                  have hlen : (out ++ [(H : Int)]).length ≤ R + 1 := by simp; omega
                  clear own5 grow5
                  generalize out ++ [(H : Int)] = out2 at *
                  go_wp2_with fail
                  go_roundw
                  case rel => exact ⟨R + 1, out2, by omega, by go_num, hlen, HO2, I5.out⟩
                  case measure => simp [intOf]; omega
        · obtain rfl : H = L.length + 1 := by omega
          have h0 : ¬ ((L.length + 1 : Nat) : Int) ≤ (L.length : Int) := by omega
          have HO2 := Lib.hid (show orderN (matP L) (R + 1) [] = out by rw [orderN_step, HO.out]; exact stepO_none (fun k h1 h2 => HN.out k h1 (by rw [matP_len] at h2; omega)))
          go_wp2_with fail
          go_roundw
          case rel => exact ⟨R + 1, out, by omega, by go_num, by omega, HO2, HI.out⟩
          case measure => simp [intOf]; omega
    · obtain rfl : R = L.length := by omega
      have hO : out = U := by rw [← HO.out, ← HU.out, orderM, matP_len]
      subst hO
      go_wp2_with fail
      go_ret
      exact ⟨_, rfl, HI.out⟩

set_option maxRecDepth 100000 in
set_option maxHeartbeats 2000000 in
theorem srelsfree_is (L : List IR) {z : Bool} (hz : relsFree (matP L) = z) (a : Option Addr) (cap n : Nat) (w : World) (hn : n = L.length) (hA : MatA w a L) (hl : L.length ≤ 2000000) :
    Calls Try.prog 30 #[.slice a n cap] w fun e w' => e = .returned (.bool z) ∧ Below w.heap.size w w' := by
  subst hn
  have HX := Lib.hid hz
  have HA := Lib.hid hA
  clear hz hA
  go_enter Try.func30, Try.ntmps30
  go_wp2_with fail
  cases ho : relsOk (matP L) with
  | false =>
    have HZ := Lib.hid (show false = z by rw [← HX.out]; simp [relsFree, ho])
    refine (srelsok_is L ho a cap _ _ rfl HA.out hl).mono ?_
    rintro e w1 ⟨rfl, b1⟩
    have HB := Lib.hid b1
    clear b1
    go_wp2_with fail
    go_ret
    exact ⟨ret_bool HZ.out, HB.out⟩
  | true =>
    refine (srelsok_is L ho a cap _ _ rfl HA.out hl).mono ?_
    rintro e w1 ⟨rfl, b1⟩
    have HB := Lib.hid b1
    have HA1 := Lib.hid (HA.out.below b1)
    clear b1
    obtain ⟨U, hU⟩ : ∃ U, orderM (matP L) = U := ⟨_, rfl⟩
    have HU := Lib.hid hU
    have HZ := Lib.hid (show ((U.length : Int) == (L.length : Int)) = z by rw [← HX.out]; simp only [relsFree, ho, Bool.true_and, hU, matP_len]; by_cases e : U.length = L.length <;> simp [e]; omega)
    clear hU
    go_wp2_with fail
    refine (sorder_is L ((relsOk_iff _).1 ho) HU.out a cap _ _ rfl HA1.out).mono ?_
    rintro e w2 ⟨v, rfl, hI⟩
    obtain ⟨ta, tc, rfl, _, _⟩ := OwnI.tab hI.1
    have HB2 := Lib.hid (next HB.out hI.2)
    clear hI
    go_wp2_with fail
    go_ret
    exact ⟨ret_bool HZ.out, HB2.out⟩
end Go.Proofs.Ytnljcppefnaapaa
