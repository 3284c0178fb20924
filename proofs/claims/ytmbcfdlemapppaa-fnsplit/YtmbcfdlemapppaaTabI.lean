/-
  What the program's functions on tables answer: find, same, put, drop.
-/
import Derived.Test.YtmbcfdlemapppaaTabOk
namespace Go.Proofs.Ytmbcfdlemapppaa
open Go.RowKit
set_option linter.unusedSimpArgs false

theorem tok_is {a : Option Addr} {cap : Nat} {T : List E} {x : Bool} (h : tabOk T = x) (w : World) (hT : TabA w a T) (hl : T.length ≤ 2000000) :
    Calls Try.prog 24 #[.slice a T.length cap] w fun e w' => e = .returned (.bool x) ∧ Below w.heap.size w w' := by
  rw [← h]; exact tok_any a cap T w hT hl
theorem Owns.tab {w : World} {R : Nat} {v : Value} {T : List E} (h : Owns w R v T) : ∃ a cap, v = .slice a T.length cap ∧ TabA w a T := by
  obtain ⟨_, h2⟩ := id h
  rcases h2 with ⟨rfl, h0⟩ | ⟨g, cap, cur, rfl, hb, hg, hc, hm, hs, ht⟩
  · exact ⟨none, 0, by rw [h0], .inl (List.eq_nil_of_length_eq_zero h0)⟩
  · refine ⟨_, cap, rfl, .inr ⟨g, 0, rfl, fun i e hi => ?_⟩⟩
    obtain ⟨h1, h2, h3⟩ := cellsT_at hi
    obtain ⟨hi', _⟩ := List.getElem?_eq_some_iff.1 hi
    refine ⟨?_, ?_, ?_⟩
    · rw [Nat.zero_add]; exact (h.cellAt (i * 3) (by omega)).trans h1
    · rw [Nat.zero_add]; exact (h.cellAt (i * 3 + 1) (by omega)).trans h2
    · rw [Nat.zero_add]; exact (h.cellAt (i * 3 + 2) (by omega)).trans h3
theorem TabA.alloc {w : World} {a : Option Addr} {T : List E} (h : TabA w a T) (o : Obj) : TabA (w.alloc o) a T := h.below ((Below.refl _ _).alloc (Nat.le_refl _) o)
theorem tab_good {T : List E} (h : tabOk T = true) : Good T ∧ T.length ≤ 12 := (tabOk_iff T).1 h
theorem tab_oks {T : List E} (h : tabOk T = true) : ∀ e ∈ T, okB e.1 e.2.1 = true := fun _ he => (tab_good h).1.ok he

/-- what TableFind answers -/
def tfindM (T : List E) (x : Int) : Int := if tabOk T = true ∧ 0 ≤ x ∧ x ≤ 255 then findM T x else 0

set_option maxHeartbeats 1000000 in
theorem tfind_any (a : Option Addr) (cap : Nat) (T : List E) (x : Int) (w : World) (hT : TabA w a T) (hl : T.length ≤ 2000000) :
    Calls Try.prog 35 #[.slice a T.length cap, .int .i64 x] w fun e w' => e = .returned (.int .i64 (tfindM T x)) ∧ Below w.heap.size w w' := by
  by_cases ho : tabOk T = true
  · obtain ⟨hg, h12⟩ := tab_good ho
    by_cases h0 : 0 ≤ x
    · by_cases h1 : x ≤ 255
      · have hr := Lib.hid (show tfindM T x = viaV (plantV T) x 8 by rw [viaV_find (vis_plant T) hg h0 h1]; simp [tfindM, ho, h0, h1])
        have HT := Lib.hid hT
        have hok := Lib.hid (tab_oks ho)
        clear hT hg
        go_enter Try.func35, Try.ntmps35
        go_wp2_with fail
        refine (tok_is ho _ HT.out hl).mono ?_
        rintro e w1 ⟨rfl, hb1⟩
        have HT1 := Lib.hid (HT.out.below hb1)
        have HB1 := Lib.hid hb1
        clear hb1
        go_wp2_with fail
        refine (plant_any a cap T _ HT1.out h12 hok.out).mono ?_
        rintro e w2 ⟨φ, root, rfl, tr, hb2⟩
        have HR := Lib.hid tr
        have HB2 := Lib.hid (next HB1.out hb2)
        clear tr hb2
        go_wp2_with fail
        refine (find_any x _ _ _ _ _ h0 h1 HR.out).mono ?_
        rintro e w3 ⟨rfl, hb3⟩
        have HB3 := Lib.hid (next HB2.out (hb3.below _))
        clear hb3
        go_wp2_with fail
        go_ret
        exact ⟨ret_int hr.out.symm, HB3.out⟩
      · have hr := Lib.hid (show tfindM T x = 0 by simp [tfindM, h1])
        have HT := Lib.hid hT
        clear hT hg
        go_enter Try.func35, Try.ntmps35
        go_wp2_with fail
        refine (tok_is ho _ HT.out hl).mono ?_
        rintro e w1 ⟨rfl, hb1⟩
        have HB1 := Lib.hid hb1
        clear hb1
        go_wp2_with fail
        go_ret
        exact ⟨ret_int hr.out.symm, HB1.out⟩
    · have hr := Lib.hid (show tfindM T x = 0 by simp [tfindM, h0])
      have HT := Lib.hid hT
      clear hT hg
      go_enter Try.func35, Try.ntmps35
      go_wp2_with fail
      refine (tok_is ho _ HT.out hl).mono ?_
      rintro e w1 ⟨rfl, hb1⟩
      have HB1 := Lib.hid hb1
      clear hb1
      go_wp2_with fail
      go_ret
      exact ⟨ret_int hr.out.symm, HB1.out⟩
  · have ho' : tabOk T = false := by simpa using ho
    have hr := Lib.hid (show tfindM T x = 0 by simp [tfindM, ho])
    have HT := Lib.hid hT
    clear hT ho
    go_enter Try.func35, Try.ntmps35
    go_wp2_with fail
    refine (tok_is ho' _ HT.out hl).mono ?_
    rintro e w1 ⟨rfl, hb1⟩
    have HB1 := Lib.hid hb1
    clear hb1
    go_wp2_with fail
    go_ret
    exact ⟨ret_int hr.out.symm, HB1.out⟩

/-- what TableSame answers -/
def tsameM (A B : List E) : Bool := tabOk A && (tabOk B && sameM A B)
theorem agree_same {A B : List E} (hA : Good A) (hB : Good B) : agreeV (plantV A) (plantV B) = sameM A B := by
  rw [Bool.eq_iff_iff, agreeV_iff, sameM_iff]
  constructor
  · intro h a a0 a1
    have := h a.toNat (by omega)
    rw [show ((a.toNat : Nat) : Int) = a by omega] at this
    rw [← viaV_find (vis_plant A) hA a0 a1, ← viaV_find (vis_plant B) hB a0 a1]; exact this
  · intro h n hn
    rw [viaV_find (vis_plant A) hA (by omega) (by omega), viaV_find (vis_plant B) hB (by omega) (by omega)]
    exact h n (by omega) (by omega)

set_option maxHeartbeats 1000000 in
theorem tsame_any (a b : Option Addr) (cap cap' : Nat) (A B : List E) (w : World) (hA : TabA w a A) (hB : TabA w b B) (la : A.length ≤ 2000000) (lb : B.length ≤ 2000000) :
    Calls Try.prog 37 #[.slice a A.length cap, .slice b B.length cap'] w fun e w' => e = .returned (.bool (tsameM A B)) ∧ Below w.heap.size w w' := by
  have HA := Lib.hid hA
  have HB := Lib.hid hB
  clear hA hB
  by_cases oa : tabOk A = true
  · by_cases ob : tabOk B = true
    · obtain ⟨ga, a12⟩ := tab_good oa
      obtain ⟨gb, b12⟩ := tab_good ob
      have hr := Lib.hid (show tsameM A B = agreeV (plantV A) (plantV B) by rw [agree_same ga gb]; simp [tsameM, oa, ob])
      have hka := Lib.hid (tab_oks oa)
      have hkb := Lib.hid (tab_oks ob)
      clear ga gb
      go_enter Try.func37, Try.ntmps37
      go_wp2_with fail
      refine (tok_is oa _ HA.out la).mono ?_
      rintro e w1 ⟨rfl, hb1⟩
      have HB1 := Lib.hid hb1
      clear hb1
      go_wp2_with fail
      refine (tok_is ob _ (HB.out.below HB1.out) lb).mono ?_
      rintro e w2 ⟨rfl, hb2⟩
      have HB2 := Lib.hid (next HB1.out hb2)
      clear hb2 HB1
      go_wp2_with fail
      refine (plant_any a cap A _ (HA.out.below HB2.out) a12 hka.out).mono ?_
      rintro e w3 ⟨φ, root, rfl, tr, hb3⟩
      have HR := Lib.hid tr
      have HB3 := Lib.hid (next HB2.out hb3)
      clear tr hb3 HB2
      go_wp2_with fail
      refine (plant_any b cap' B _ (HB.out.below HB3.out) b12 hkb.out).mono ?_
      rintro e w4 ⟨φ', root', rfl, tr', hb4⟩
      have HR' := Lib.hid tr'
      have HR4 := Lib.hid (HR.out.later hb4)
      have HB4 := Lib.hid (next HB3.out hb4)
      clear tr' hb4 HB3 HR
      go_wp2_with fail
      refine (agrees_any _ _ _ _ _ _ _ _ _ HR4.out HR'.out).mono ?_
      rintro e w5 ⟨rfl, hb5⟩
      have HB5 := Lib.hid (next HB4.out (hb5.below _))
      clear hb5
      go_wp2_with fail
      go_ret
      exact ⟨ret_bool hr.out.symm, HB5.out⟩
    · have ob' : tabOk B = false := by simpa using ob
      have hr := Lib.hid (show tsameM A B = false by simp [tsameM, ob'])
      clear ob
      go_enter Try.func37, Try.ntmps37
      go_wp2_with fail
      refine (tok_is oa _ HA.out la).mono ?_
      rintro e w1 ⟨rfl, hb1⟩
      have HB1 := Lib.hid hb1
      clear hb1
      go_wp2_with fail
      refine (tok_is ob' _ (HB.out.below HB1.out) lb).mono ?_
      rintro e w2 ⟨rfl, hb2⟩
      have HB2 := Lib.hid (next HB1.out hb2)
      clear hb2 HB1
      go_wp2_with fail
      go_ret
      exact ⟨ret_bool hr.out.symm, HB2.out⟩
  · have oa' : tabOk A = false := by simpa using oa
    have hr := Lib.hid (show tsameM A B = false by simp [tsameM, oa'])
    clear oa
    go_enter Try.func37, Try.ntmps37
    go_wp2_with fail
    refine (tok_is oa' _ HA.out la).mono ?_
    rintro e w1 ⟨rfl, hb1⟩
    have HB1 := Lib.hid hb1
    clear hb1
    go_wp2_with fail
    go_ret
    exact ⟨ret_bool hr.out.symm, HB1.out⟩

end Go.Proofs.Ytmbcfdlemapppaa
