/-
  HoldHas, as the program says it: its closure, slices.IndexFunc, slices.ContainsFunc.
-/
import Derived.Test.YtnnmgbgkgnejlaaDoorSlSpec
namespace Go.Proofs.YtnnmgbgkgnejlaaDoor
open Go.RowKit
set_option linter.unusedSimpArgs false
set_option linter.unusedVariables false

def hasR (h f b : Int) (v : HV) : Bool := decide (v.h = h) && inB f b v.f v.b
theorem holdsB_any (L : List HV) (h f b : Int) : holdsB L h f b = L.any (hasR h f b) := rfl
/-- where the closure's two captured variables lie -/
def CapH (w : World) (hp rp : Nat) (h f b : Int) : Prop := w.cell? ⟨hp, 0, none⟩ = some (.int .i64 h) ∧ w.cell? ⟨rp, 0, none⟩ = some (.int .i64 f) ∧ w.cell? ⟨rp, 1, none⟩ = some (.int .i64 b)
theorem CapH.below {w w' : World} {hp rp : Nat} {h f b : Int} (c : CapH w hp rp h f b) (k : Below w.heap.size w w') : CapH w' hp rp h f b := ⟨cell_later k c.1, cell_later k c.2.1, cell_later k c.2.2⟩
theorem inX_is {f b g c : Int} {v : Bool} (h : inB f b g c = v) (w : World) :
    Calls Tryd.prog 69 #[.agg #[.int .i64 f, .int .i64 b], .agg #[.int .i64 g, .int .i64 c]] w fun e w' => e = .returned (.bool v) ∧ Below w.heap.size w w' := by subst h; exact rin_any f b g c w
set_option maxHeartbeats 1000000 in
theorem ihold1_is (v : HV) (h f b : Int) {z : Bool} (hz : hasR h f b v = z) (hp rp : Nat) (w : World) (hc : CapH w hp rp h f b) :
    Calls Tryd.prog 68 #[.agg #[.int .i64 v.h, .int .i64 v.f, .int .i64 v.b], .pointer (some ⟨hp, 0, none⟩), .pointer (some ⟨rp, 0, none⟩)] w fun e w' => e = .returned (.bool z) ∧ Below w.heap.size w w' := by
  have KX := Lib.hid hz
  have hb := (Below.refl w.heap.size w).alloc (Nat.le_refl _) (.cells #[.int .i64 v.h, .int .i64 v.f, .int .i64 v.b] 48)
  have HB := Lib.hid hb
  have HC := Lib.hid (hc.below hb)
  clear hz hb hc
  obtain ⟨q0, q1, q2⟩ := HC.out
  by_cases h1 : v.h = h
  · have e1 : (v.h == h) = true := by simp [h1]
    obtain ⟨y, hy⟩ : ∃ y, inB f b v.f v.b = y := ⟨_, rfl⟩
    have HX := Lib.hid (show y = z by rw [← KX.out, hasR, hy]; simp [h1])
    clear h1
    go_enter Tryd.func68, Tryd.ntmps68
    go_wp2_with fail
    refine (inX_is hy _).mono ?_
    rintro e w1 ⟨rfl, b1⟩
    have HB1 := Lib.hid (next HB.out b1)
    clear b1
    go_wp2_with fail
    go_ret
    exact ⟨ret_bool HX.out, HB1.out⟩
  · have e1 : (v.h == h) = false := by simp [h1]
    have HX := Lib.hid (show false = z by rw [← KX.out, hasR]; simp [h1])
    clear h1
    go_enter Tryd.func68, Tryd.ntmps68
    go_wp2_with fail
    go_ret
    exact ⟨ret_bool HX.out, HB.out⟩
set_option maxHeartbeats 2000000 in
theorem idxH_is (L : List HV) (h f b : Int) {z : Bool} (hz : holdsB L h f b = z) (hp rp : Nat) (a : Option Addr) (cap n : Nat) (w : World) (hn : n = L.length) (hA : HvA w a L) (hl : L.length ≤ 2000000) (hc : CapH w hp rp h f b) :
    Calls Tryd.prog 99 #[.slice a n cap, .func (.func 68) #[] #[.pointer (some ⟨hp, 0, none⟩), .pointer (some ⟨rp, 0, none⟩)]] w fun e w' => ∃ i : Int, e = .returned (.int .i64 i) ∧ decide (0 ≤ i) = z ∧ Below w.heap.size w w' := by
  subst hn
  have KX := Lib.hid hz
  have HA := Lib.hid hA
  have HC := Lib.hid hc
  clear hz hA hc
  go_enter Tryd.func99, Tryd.ntmps99
  go_wp2_with fail
  go_loopw [5, 8] (fun _ i wr => ∃ k : Nat, k ≤ L.length ∧ i = .int .i64 k ∧ Hid ((L.take k).any (hasR h f b) = false) ∧ Hid (Below w.heap.size w wr)) (fun _ i _ => L.length - (intOf i).toNat)
  case atStart => exact ⟨0, Nat.zero_le _, rfl, Lib.hid (by simp), Lib.hid (Below.refl _ _)⟩
  case round =>
    obtain ⟨k, hk, rfl, HN, HB⟩ := hrel
    by_cases hlt : k < L.length
    · obtain ⟨v, hv⟩ : ∃ v, L[k]? = some v := ⟨_, List.getElem?_eq_getElem hlt⟩
      have HV := Lib.hid hv
      obtain ⟨b0, off, rfl, q0, q1, q2⟩ := (HA.out.below HB.out).at hv
      have i0 : (0 : Int) ≤ (k : Int) := by omega
      have i1 : (k : Int) < (L.length : Int) := by omega
      clear hv
      cases ho : hasR h f b v with
      | true =>
        have HX := Lib.hid (show z = true by rw [← KX.out, holdsB_any, any_at HV.out ho])
        go_wp2_with fail
        refine (ihold1_is v h f b ho hp rp _ (HC.out.below HB.out)).mono ?_
        rintro e w2 ⟨rfl, b2⟩
        have HB2 := Lib.hid (next HB.out b2)
        clear b2
        go_wp2_with fail
        go_ret
        exact ⟨_, rfl, by rw [HX.out]; simp, HB2.out⟩
      | false =>
        have HN2 : Hid ((L.take (k + 1)).any (hasR h f b) = false) := Lib.hid (any_take HN.out HV.out ho)
        go_wp2_with fail
        refine (ihold1_is v h f b ho hp rp _ (HC.out.below HB.out)).mono ?_
        rintro e w2 ⟨rfl, b2⟩
        have HB2 := Lib.hid (next HB.out b2)
        clear b2 q0 q1 q2
        go_wp2_with fail
        go_roundw
        case rel => exact ⟨k + 1, by omega, by go_num, HN2, HB2⟩
        case measure => simp [intOf]; omega
    · obtain rfl : k = L.length := by omega
      have HX := Lib.hid (show z = false by have h := HN.out; rw [List.take_length] at h; rw [← KX.out, holdsB_any, h])
      go_wp2_with fail
      go_ret
      exact ⟨_, rfl, by rw [HX.out]; rfl, HB.out⟩
set_option maxHeartbeats 2000000 in
theorem conH_is (L : List HV) (h f b : Int) {z : Bool} (hz : holdsB L h f b = z) (hp rp : Nat) (a : Option Addr) (cap n : Nat) (w : World) (hn : n = L.length) (hA : HvA w a L) (hl : L.length ≤ 2000000) (hc : CapH w hp rp h f b) :
    Calls Tryd.prog 67 #[.slice a n cap, .func (.func 68) #[] #[.pointer (some ⟨hp, 0, none⟩), .pointer (some ⟨rp, 0, none⟩)]] w fun e w' => e = .returned (.bool z) ∧ Below w.heap.size w w' := by
  subst hn
  have HA := Lib.hid hA
  have HC := Lib.hid hc
  clear hA hc
  go_enter Tryd.func67, Tryd.ntmps67
  go_wp2_with fail
  refine (idxH_is L h f b hz hp rp a cap _ _ rfl HA.out hl HC.out).mono ?_
  rintro e w1 ⟨i, rfl, hi, b1⟩
  have HB1 := Lib.hid b1
  have HI := Lib.hid hi
  clear b1 hi
  go_wp2_with fail
  go_ret
  exact ⟨ret_bool HI.out, HB1.out⟩
set_option maxHeartbeats 2000000 in
theorem iholdhas_is (L : List HV) (h f b : Int) {z : Bool} (hz : holdsB L h f b = z) (a : Option Addr) (cap n : Nat) (w : World) (hn : n = L.length) (hA : HvA w a L) (hl : L.length ≤ 2000000) :
    Calls Tryd.prog 27 #[.slice a n cap, .int .i64 h, .agg #[.int .i64 f, .int .i64 b]] w fun e w' => e = .returned (.bool z) ∧ Below w.heap.size w w' := by
  subst hn
  obtain ⟨W, hW⟩ : ∃ W, (w.alloc (.cells #[.int .i64 h] 3)).alloc (.cells #[.int .i64 f, .int .i64 b] 24) = W := ⟨_, rfl⟩
  have hb : Below w.heap.size w W := by rw [← hW]; exact ((Below.refl _ _).alloc (Nat.le_refl _) _).alloc (by simp) _
  have HC := Lib.hid (show CapH W w.heap.size (w.heap.size + 1) h f b by
    rw [← hW]
    have c1 : (w.alloc (.cells #[.int .i64 h] 3)).cell? ⟨w.heap.size, 0, none⟩ = some (.int .i64 h) := by simp
    have c2 := World.cell?_alloc_new (w.alloc (.cells #[.int .i64 h] 3)) #[.int .i64 f, .int .i64 b] 24 0
    have c3 := World.cell?_alloc_new (w.alloc (.cells #[.int .i64 h] 3)) #[.int .i64 f, .int .i64 b] 24 1
    simp only [World.size_alloc] at c2 c3
    exact ⟨cell_later ((Below.refl _ _).alloc (Nat.le_refl _) _) c1, by rw [c2]; rfl, by rw [c3]; rfl⟩)
  have HB := Lib.hid hb
  have HA := Lib.hid (hA.below hb)
  clear hA hb
  go_enter Tryd.func27, Tryd.ntmps27
  go_wp2_with fail
  have hWs : (w.alloc (.cells #[.int .i64 h] 3)).heap.size = w.heap.size + 1 := by simp
  refine (conH_is L h f b hz w.heap.size (w.heap.size + 1) a cap _ _ rfl HA.out hl HC.out).mono ?_
  rintro e w1 ⟨rfl, b1⟩
  have HB1 := Lib.hid (next HB.out b1)
  clear b1
  go_wp2_with fail
  go_ret
  exact ⟨rfl, HB1.out⟩
end Go.Proofs.YtnnmgbgkgnejlaaDoor
