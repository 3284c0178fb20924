/-
  Relations as the program keeps them: what is filled, what agrees; its small functions.
-/
import Derived.Test.YtnljcppefnaapaaHoKy
import Derived.Test.YtnljcppefnaapaaMathN
import Derived.Maps.OwnOps
namespace Go.Proofs.Ytnljcppefnaapaa
open Go.RowKit
open Go.Maps (Keyed)
set_option linter.unusedSimpArgs false
set_option linter.unusedVariables false

def fM (M : Mat) (p q : Int) : Int := if (1 ≤ p ∧ p ≤ M.length) ∧ (1 ≤ q ∧ q ≤ M.length) then mAt M (p - 1).toNat (q - 1).toNat else 0
def fill (M : Mat) (I K : Nat) (p q : Int) : Int := if 1 ≤ p ∧ 1 ≤ q ∧ ((p ≤ I ∧ q ≤ M.length) ∨ (p = I + 1 ∧ q ≤ K)) then mAt M (p - 1).toNat (q - 1).toNat else 0
theorem fill_0 (M : Mat) : fill M 0 0 = fun _ _ => 0 := by
  funext p q; unfold fill; rw [if_neg (by omega)]
theorem fill_put (M : Mat) (I K : Nat) : fill M I (K + 1) = upd (fill M I K) ((I : Int) + 1) ((K : Int) + 1) (mAt M I K) := by
  funext p q
  unfold fill upd
  by_cases e : p = (I : Int) + 1 ∧ q = (K : Int) + 1
  · obtain ⟨rfl, rfl⟩ := e
    rw [if_pos (by omega), if_pos ⟨rfl, rfl⟩, show ((I : Int) + 1 - 1).toNat = I by omega, show ((K : Int) + 1 - 1).toNat = K by omega]
  · rw [if_neg e]
    by_cases h : 1 ≤ p ∧ 1 ≤ q ∧ ((p ≤ I ∧ q ≤ M.length) ∨ (p = I + 1 ∧ q ≤ K))
    · dsimp only; rw [if_pos h, if_pos (by omega)]
    · dsimp only; rw [if_neg h, if_neg (by omega)]
theorem fill_no (M : Mat) (I K : Nat) (hK : K < M.length) (h : mAt M I K = 0) : fill M I (K + 1) = fill M I K := by
  rw [fill_put, h]
  funext p q
  unfold upd
  by_cases e : p = (I : Int) + 1 ∧ q = (K : Int) + 1
  · rw [if_pos e]; unfold fill; rw [if_neg (by omega)]
  · rw [if_neg e]
theorem fill_row (M : Mat) (I : Nat) : fill M I M.length = fill M (I + 1) 0 := by
  funext p q
  unfold fill
  by_cases h : 1 ≤ p ∧ 1 ≤ q ∧ ((p ≤ I ∧ q ≤ M.length) ∨ (p = I + 1 ∧ q ≤ M.length))
  · rw [if_pos h, if_pos (by omega)]
  · rw [if_neg h, if_neg (by omega)]
theorem fill_all (M : Mat) : fill M M.length 0 = fM M := by
  funext p q
  unfold fill fM
  by_cases h : (1 ≤ p ∧ p ≤ M.length) ∧ (1 ≤ q ∧ q ≤ M.length)
  · rw [if_pos h, if_pos (by omega)]
  · rw [if_neg h, if_neg (by omega)]
theorem fM_at (M : Mat) {i k : Nat} (hi : i < M.length) (hk : k < M.length) : fM M ((i : Int) + 1) ((k : Int) + 1) = mAt M i k := by
  unfold fM; rw [if_pos (by omega), show ((i : Int) + 1 - 1).toNat = i by omega, show ((k : Int) + 1 - 1).toNat = k by omega]
theorem fM_in {M : Mat} {p q : Int} (h : fM M p q ≠ 0) : (1 ≤ p ∧ p ≤ M.length) ∧ (1 ≤ q ∧ q ≤ M.length) := by
  unfold fM at h; by_cases k : (1 ≤ p ∧ p ≤ M.length) ∧ (1 ≤ q ∧ q ≤ M.length)
  · exact k
  · rw [if_neg k] at h; exact (h rfl).elim
theorem relOf_fM {M : Mat} (h : relsOk M = true) (p q : Int) : relOf M p q = fM M p q := by
  unfold relOf fM; simp only [h, true_and]
/-- both tell the same -/
def agr (f : Int → Int → Int) (p q : Int) : Prop := p ≠ q ∧ f q p = relB (f p q)
theorem relB_0 {r : Int} (h : relB r = 0) : r = 0 := by
  have := relB_relB r; rw [h] at this; rw [← this]; rfl
theorem relsOk_yes {M : Mat} (hl : 1 ≤ M.length ∧ M.length ≤ 5) (sq : ∀ i, i < M.length → (M.getD i []).length = M.length) (ran : ∀ i k, i < M.length → k < M.length → 0 ≤ mAt M i k ∧ mAt M i k ≤ 3)
    (ag : ∀ p q, Iw p → Iw q → fM M p q ≠ 0 → agr (fM M) p q) : relsOk M = true := by
  have iw : ∀ i, i < M.length → Iw ((i : Int) + 1) := fun i hi => by exact WalkArith.wf_i64 (by omega)
  have ag' : ∀ i k, i < M.length → k < M.length → mAt M i k ≠ 0 → i ≠ k ∧ mAt M k i = relB (mAt M i k) := fun i k hi hk h => by
    have := ag _ _ (iw i hi) (iw k hk) (by rw [fM_at M hi hk]; exact h)
    unfold agr at this
    rw [fM_at M hi hk, fM_at M hk hi] at this
    exact ⟨fun e => this.1 (by rw [e]), this.2⟩
  rw [relsOk_iff]
  refine ⟨hl, sq, ran, fun i k hi hk => ?_, fun i hi => ?_⟩
  · by_cases h : mAt M i k = 0
    · rw [h]
      by_cases h2 : mAt M k i = 0
      · rw [h2]; rfl
      · have := (ag' k i hk hi h2).2
        rw [h] at this
        exact (h2 (relB_0 this.symm)).elim
    · exact (ag' i k hi hk h).2
  · by_cases h : mAt M i i = 0
    · exact h
    · exact ((ag' i i hi hi h).1 rfl).elim
theorem relsOk_agr {M : Mat} (h : relsOk M = true) {p q : Int} (hf : fM M p q ≠ 0) : agr (fM M) p q := by
  have hg := (relsOk_iff M).1 h
  obtain ⟨hp, hq⟩ := fM_in hf
  have e1 : fM M p q = mAt M (p - 1).toNat (q - 1).toNat := by unfold fM; rw [if_pos ⟨hp, hq⟩]
  have e2 : fM M q p = mAt M (q - 1).toNat (p - 1).toNat := by unfold fM; rw [if_pos ⟨hq, hp⟩]
  refine ⟨fun e => ?_, ?_⟩
  · subst e; rw [e1] at hf; exact hf (hg.diag _ (by omega))
  · rw [e1, e2]; exact hg.back _ _ (by omega) (by omega)
theorem relsOk_no {M : Mat} {p q : Int} (hf : fM M p q ≠ 0) (hn : ¬ agr (fM M) p q) : relsOk M = false := by
  rw [← Bool.not_eq_true]; exact fun h => hn (relsOk_agr h hf)
theorem relsOk_len {M : Mat} (h : ¬ (1 ≤ M.length ∧ M.length ≤ 5)) : relsOk M = false := by
  rw [← Bool.not_eq_true, relsOk_iff]; exact fun k => h k.len
theorem relsOk_sq {M : Mat} {i : Nat} (hi : i < M.length) (h : (M.getD i []).length ≠ M.length) : relsOk M = false := by
  rw [← Bool.not_eq_true, relsOk_iff]; exact fun k => h (k.sq i hi)
theorem relsOk_ran {M : Mat} {i k : Nat} (hi : i < M.length) (hk : k < M.length) (h : ¬ (0 ≤ mAt M i k ∧ mAt M i k ≤ 3)) : relsOk M = false := by
  rw [← Bool.not_eq_true, relsOk_iff]; exact fun g => h (g.ran i k hi hk)
theorem iwL {p : Int} (h0 : -9223372036854775808 ≤ p) (h1 : p ≤ 9223372036854775807) : Iw p := by
  exact WalkArith.wf_i64 (by omega)

set_option maxRecDepth 100000 in
set_option maxHeartbeats 1000000 in
theorem between_is {f : Int → Int → Int} {p q r : Int} (hr : f p q = r) (n b : Nat) (w : World) (hR : Rels w f b) (hp : Iw p) (hq : Iw q) :
    Calls Try.prog 45 #[RelV n b, .int .i64 p, .int .i64 q] w fun e w' => e = .returned (.int .i64 r) ∧ Below w.heap.size w w' := by
  obtain ⟨m, D, hm, ho, hk⟩ := hR.own
  have HO := Lib.hid (World.ownsMap.alloc ho (.cells #[.int .i64 (n : Int), .map (some b)] 50))
  have HB := Lib.hid ((Below.refl w.heap.size w).alloc (Nat.le_refl _) (.cells #[.int .i64 (n : Int), .map (some b)] 50))
  have HK := Lib.hid (hk.el p q hp hq)
  have HR := Lib.hid hr
  clear hR ho hk hr
  go_enter Try.func45, Try.ntmps45
  go_wp2_with (at_lookup; refine wpList_lookup_own_int _ rfl _ _ 48 rfl 63 3 .i64 lawK Try.underlying48 Try.underlying3 (zeroI _) b m D rfl HO.out _ _ rfl (keyP hp hq) ?_; intro c hat hwc)
  obtain rfl : c = r := by rw [HK.out, HR.out] at hat; simpa using hat.symm
  go_wp2_with fail
  go_ret
  exact ⟨rfl, HB.out⟩
set_option maxHeartbeats 1000000 in
theorem rhas_is {n b : Nat} {p : Int} {x : Bool} (hx : decide (1 ≤ p ∧ p ≤ (n : Int)) = x) (w : World) :
    Calls Try.prog 49 #[RelV n b, .int .i64 p] w fun e w' => e = .returned (.bool x) ∧ Below w.heap.size w w' := by
  have HB := Lib.hid ((Below.refl w.heap.size w).alloc (Nat.le_refl _) (.cells #[.int .i64 (n : Int), .map (some b)] 50))
  have HX := Lib.hid hx
  clear hx
  by_cases h1 : 1 ≤ p
  · have e1 : decide (p ≥ 1) = true := decide_eq_true h1
    obtain ⟨y, hy⟩ : ∃ y, decide (p ≤ (n : Int)) = y := ⟨_, rfl⟩
    have HY := Lib.hid (show y = x by rw [← HX.out, ← hy]; simp [h1])
    go_enter Try.func49, Try.ntmps49
    go_wp2_with fail
    go_ret
    exact ⟨ret_bool HY.out, HB.out⟩
  · have e1 : decide (p ≥ 1) = false := decide_eq_false (by omega)
    have HY := Lib.hid (show false = x by rw [← HX.out]; simp [h1])
    go_enter Try.func49, Try.ntmps49
    go_wp2_with fail
    go_ret
    exact ⟨ret_bool HY.out, HB.out⟩
theorem seen_is (r : Int) (w : World) : Calls Try.prog 63 #[.int .i64 r] w fun e w' => e = .returned (.int .i64 (relB r)) ∧ w = w' := by
  by_cases h1 : r = 1
  · subst h1
    go_enter Try.func63, Try.ntmps63
    go_wp2_with fail
    go_ret
    exact ⟨rfl, rfl⟩
  by_cases h3 : r = 3
  · subst h3
    go_enter Try.func63, Try.ntmps63
    go_wp2_with fail
    go_ret
    exact ⟨rfl, rfl⟩
  have e1 : (r == 1) = false := by simp [h1]
  have e3 : (r == 3) = false := by simp [h3]
  have HR := Lib.hid (show r = relB r by simp [relB, h1, h3])
  clear h1 h3
  go_enter Try.func63, Try.ntmps63
  go_wp2_with fail
  go_ret
  exact ⟨ret_int HR.out, rfl⟩
def noRel (r : Int) : Bool := decide (r < 0) || decide (r > 3)
theorem noRel_is (r : Int) (w : World) : Calls Try.prog 57 #[.int .i64 r] w fun e w' => e = .returned (.bool (noRel r)) ∧ w = w' := by
  by_cases h : r < 0
  · have e1 : decide (r < 0) = true := decide_eq_true h
    have HX := Lib.hid (show true = noRel r by simp [noRel, h])
    clear h
    go_enter Try.func57, Try.ntmps57
    go_wp2_with fail
    go_ret
    exact ⟨ret_bool HX.out, rfl⟩
  · have e1 : decide (r < 0) = false := decide_eq_false h
    have HX := Lib.hid (show decide (r > 3) = noRel r by simp [noRel, h])
    clear h
    go_enter Try.func57, Try.ntmps57
    go_wp2_with fail
    go_ret
    exact ⟨ret_bool HX.out, rfl⟩
theorem turned_is (p q : Int) (w : World) : Calls Try.prog 62 #[KV p q] w fun e w' => e = .returned (KV q p) ∧ Below w.heap.size w w' := by
  have HB := Lib.hid ((((Below.refl w.heap.size w).alloc (Nat.le_refl _) (.cells #[.int .i64 p, .int .i64 q] 63))))
  go_enter Try.func62, Try.ntmps62
  go_wp2_with fail
  refine bodyPost_ret (v := KV q p) (by simp [results, Try.results62, go_sem]) rfl ?_
  exact ⟨rfl, HB.out.alloc (by simp) _⟩

/-! slices.Contains, slices.ContainsFunc on a row of ints -/
theorem mem_take_succ {P : List Int} {k : Nat} {y x : Int} (h : P[k]? = some y) : x ∈ P.take (k + 1) ↔ x ∈ P.take k ∨ y = x := by
  rw [List.take_add_one, h]; simp [eq_comm]
set_option maxRecDepth 100000 in
set_option maxHeartbeats 1000000 in
theorem index_is {P : List Int} {x : Int} {z : Bool} (hz : decide (x ∈ P) = z) (a : Option Addr) (cap n : Nat) (w : World) (hn : n = P.length) (hI : IntA w a P) (hl : P.length ≤ 2000000) :
    Calls Try.prog 66 #[.slice a n cap, .int .i64 x] w fun e w' => ∃ r : Int, e = .returned (.int .i64 r) ∧ decide (r ≥ 0) = z ∧ w = w' := by
  subst hn
  have HZ := Lib.hid hz
  have HI := Lib.hid hI
  clear hz hI
  go_enter Try.func66, Try.ntmps66
  go_wp2_with fail
  go_loopw [5, 8] (fun _ k wr => ∃ K : Nat, K ≤ P.length ∧ k = .int .i64 K ∧ Hid (x ∉ P.take K) ∧ wr = w) (fun _ k _ => P.length - (intOf k).toNat)
  case atStart => exact ⟨0, Nat.zero_le _, rfl, Lib.hid (by simp), rfl⟩
  case round =>
    obtain ⟨K, hK, rfl, HN, rfl⟩ := hrel
    by_cases hlt : K < P.length
    · obtain ⟨b, off, y, rfl, hy, c0⟩ := HI.out.at hlt
      have k0 : (0 : Int) ≤ (K : Int) := by omega
      have k1 : (K : Int) < (P.length : Int) := by omega
      have HY := Lib.hid hy
      clear hy
      by_cases e : x = y
      · have e1 : (x == y) = true := by simp [e]
        have HX := Lib.hid (show decide ((K : Int) ≥ 0) = z by rw [← HZ.out, e, decide_eq_true (show (K : Int) ≥ 0 by omega), decide_eq_true (List.mem_of_getElem? HY.out)])
        clear e
        go_wp2_with fail
        go_ret
        exact ⟨_, rfl, HX.out, rfl⟩
      · have e1 : (x == y) = false := by simp [e]
        have HN2 : Hid (x ∉ P.take (K + 1)) := Lib.hid (by rw [mem_take_succ HY.out]; intro q; rcases q with q | q; exact HN.out q; exact e q.symm)
        clear e
        go_wp2_with fail
        go_roundw
        case rel => exact ⟨K + 1, by omega, by go_num, HN2, by first | rfl | trivial⟩
        case measure => simp [intOf]; omega
    · obtain rfl : K = P.length := by omega
      have hm : x ∉ P := by have := HN.out; rwa [List.take_length] at this
      have HX := Lib.hid (show decide ((-1 : Int) ≥ 0) = z by rw [← HZ.out, decide_eq_false hm]; rfl)
      go_wp2_with fail
      go_ret
      exact ⟨_, rfl, HX.out, rfl⟩
theorem contains_is {P : List Int} {x : Int} {z : Bool} (hz : decide (x ∈ P) = z) (a : Option Addr) (cap n : Nat) (w : World) (hn : n = P.length) (hI : IntA w a P) (hl : P.length ≤ 2000000) :
    Calls Try.prog 64 #[.slice a n cap, .int .i64 x] w fun e w' => e = .returned (.bool z) ∧ w = w' := by
  have HI := Lib.hid hI
  have HN := Lib.hid hn
  clear hI hn
  go_enter Try.func64, Try.ntmps64
  go_wp2_with fail
  refine (index_is hz a cap n _ HN.out HI.out hl).mono ?_
  rintro e wq ⟨r, rfl, hr, rfl⟩
  have HR := Lib.hid hr
  clear hr
  go_wp2_with fail
  go_ret
  exact ⟨ret_bool HR.out, rfl⟩
set_option maxRecDepth 100000 in
set_option maxHeartbeats 1000000 in
theorem indexF_is {P : List Int} {z : Bool} (hz : P.any noRel = z) (a : Option Addr) (cap n : Nat) (w : World) (hn : n = P.length) (hI : IntA w a P) (hl : P.length ≤ 2000000) :
    Calls Try.prog 61 #[.slice a n cap, .func (.func 57) #[] #[]] w fun e w' => ∃ r : Int, e = .returned (.int .i64 r) ∧ decide (r ≥ 0) = z ∧ w = w' := by
  subst hn
  have HZ := Lib.hid hz
  have HI := Lib.hid hI
  clear hz hI
  go_enter Try.func61, Try.ntmps61
  go_wp2_with fail
  go_loopw [5, 8] (fun _ k wr => ∃ K : Nat, K ≤ P.length ∧ k = .int .i64 K ∧ Hid ((P.take K).any noRel = false) ∧ wr = w) (fun _ k _ => P.length - (intOf k).toNat)
  case atStart => exact ⟨0, Nat.zero_le _, rfl, Lib.hid (by simp), rfl⟩
  case round =>
    obtain ⟨K, hK, rfl, HN, rfl⟩ := hrel
    by_cases hlt : K < P.length
    · obtain ⟨b, off, y, rfl, hy, c0⟩ := HI.out.at hlt
      have k0 : (0 : Int) ≤ (K : Int) := by omega
      have k1 : (K : Int) < (P.length : Int) := by omega
      have HY := Lib.hid hy
      clear hy
      cases e : noRel y with
      | true =>
        have HX := Lib.hid (show decide ((K : Int) ≥ 0) = z by rw [← HZ.out, decide_eq_true (show (K : Int) ≥ 0 by omega)]; exact (List.any_eq_true.2 ⟨y, List.mem_of_getElem? HY.out, e⟩).symm)
        have HE := Lib.hid e
        clear e
        go_wp2_with (go_at_call 57; refine (noRel_is y _).mono ?_; rw [HE.out]; rintro e wq ⟨rfl, rfl⟩)
        go_ret
        exact ⟨_, rfl, HX.out, rfl⟩
      | false =>
        have HN2 : Hid ((P.take (K + 1)).any noRel = false) := Lib.hid (by rw [List.take_add_one, HY.out]; simp only [Option.toList, List.any_append, HN.out, List.any_cons, List.any_nil, e, Bool.or_false])
        have HE := Lib.hid e
        clear e
        go_wp2_with (go_at_call 57; refine (noRel_is y _).mono ?_; rw [HE.out]; rintro e wq ⟨rfl, rfl⟩)
        go_roundw
        case rel => exact ⟨K + 1, by omega, by go_num, HN2, by first | rfl | trivial⟩
        case measure => simp [intOf]; omega
    · obtain rfl : K = P.length := by omega
      have hm : P.any noRel = false := by have := HN.out; rwa [List.take_length] at this
      have HX := Lib.hid (show decide ((-1 : Int) ≥ 0) = z by rw [← HZ.out, hm]; rfl)
      go_wp2_with fail
      go_ret
      exact ⟨_, rfl, HX.out, rfl⟩
theorem containsF_is {P : List Int} {z : Bool} (hz : P.any noRel = z) (a : Option Addr) (cap n : Nat) (w : World) (hn : n = P.length) (hI : IntA w a P) (hl : P.length ≤ 2000000) :
    Calls Try.prog 56 #[.slice a n cap, .func (.func 57) #[] #[]] w fun e w' => e = .returned (.bool z) ∧ w = w' := by
  have HI := Lib.hid hI
  have HN := Lib.hid hn
  clear hI hn
  go_enter Try.func56, Try.ntmps56
  go_wp2_with fail
  refine (indexF_is hz a cap n _ HN.out HI.out hl).mono ?_
  rintro e wq ⟨r, rfl, hr, rfl⟩
  have HR := Lib.hid hr
  clear hr
  go_wp2_with fail
  go_ret
  exact ⟨ret_bool HR.out, rfl⟩
end Go.Proofs.Ytnljcppefnaapaa
