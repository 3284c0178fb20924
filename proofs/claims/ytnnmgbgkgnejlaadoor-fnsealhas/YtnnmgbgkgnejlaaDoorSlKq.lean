/-
  The program's sets of seals: add, has, sealsIn, SealHas.
-/
import Derived.Test.YtnnmgbgkgnejlaaDoorSlKk
import Derived.Test.YtnnmgbgkgnejlaaDoorSlSpec
namespace Go.Proofs.YtnnmgbgkgnejlaaDoor
open Go.RowKit
open Go.Maps (Keyed)
set_option linter.unusedSimpArgs false
set_option linter.unusedVariables false

theorem hasS_mem (L : List SV) (s : SP) : hasS L s = decide (s ∈ sealsP L) := by
  unfold hasS sealsP
  by_cases h : s ∈ L.map SV.p
  · rw [decide_eq_true h, List.any_eq_true]
    obtain ⟨v, hv, e⟩ := List.mem_map.1 h
    exact ⟨v, hv, decide_eq_true e⟩
  · rw [decide_eq_false h, ← Bool.not_eq_true, List.any_eq_true]
    rintro ⟨v, hv, e⟩
    exact h (List.mem_map.2 ⟨v, hv, of_decide_eq_true e⟩)
abbrev kCells (p : SP) : Obj := .cells #[.int .i64 p.y, .int .i64 p.t, .int .i64 p.f, .int .i64 p.b, .string (pathB p.P)] 92
set_option maxRecDepth 100000 in
set_option maxHeartbeats 2000000 in
theorem iadds_is (S : List SP) (p : SP) (hp : SpW p) (hl : p.P.length ≤ 2000000) (b n : Nat) (hn : n < 100000000) (w : World) (hS : SetS w S b n) :
    Calls Tryd.prog 94 #[.map (some b), KS p] w fun e w' => e = .returned (.tuple #[]) ∧ SetS w' (S ++ [p]) b (n + 1) ∧ w.grownBy w' (some b) := by
  obtain ⟨D, hD, hK⟩ := hS.own
  have HD := Lib.hid (hD.alloc (kCells p))
  have HG := Lib.hid (only_alloc (World.grownBy.refl w (some b)) (kCells p))
  have HK := Lib.hid hK
  clear hS hD hK
  go_enter Tryd.func94, Tryd.ntmps94
  go_wp2_with (refine wpList_mapUpdate_own _ rfl _ _ _ 88 rfl 92 124 lawSk Tryd.underlying88 unitElem b n D ?m1 HD.out (by unfold maxLen; omega) (KS p) (.agg #[]) (ks p) ?k1 ?v1 (keySk hp hl) (.agg []) [] unitElem_mk ?g1)
  try case m1 => simp [Act.eval]
  try case k1 => simp [Act.eval]
  try case v1 => simp [Act.eval]
  intro w1 o1 g1
  have HE := Lib.hid (show SetS w1 (S ++ [p]) b (n + 1) ∧ w.grownBy w1 (some b) from ⟨⟨_, o1, HK.out.put hp hl⟩, only_on HG.out g1⟩)
  clear o1 g1
  go_wp2_with fail
  go_end0
  exact ⟨rfl, HE.out⟩
set_option maxRecDepth 100000 in
set_option maxHeartbeats 2000000 in
theorem ihass_is (S : List SP) (p : SP) (hp : SpW p) (hl : p.P.length ≤ 2000000) (b n : Nat) {z : Bool} (hz : decide (p ∈ S) = z) (w : World) (hS : SetS w S b n) :
    Calls Tryd.prog 62 #[.map (some b), KS p] w fun e w' => e = .returned (.bool z) ∧ Below w.heap.size w w' := by
  obtain ⟨D, hD, hK⟩ := hS.own
  have HD := Lib.hid (hD.alloc (kCells p))
  have HB := Lib.hid ((Below.refl w.heap.size w).alloc (Nat.le_refl _) (kCells p))
  have HZ := Lib.hid ((hK.hs p hp hl).trans hz)
  clear hS hD hK hz
  go_enter Tryd.func62, Tryd.ntmps62
  go_wp2_with (refine wpList_lookup_own_unit _ rfl _ _ 88 rfl 92 124 lawSk Tryd.underlying88 (zeroU _) b n D ?m1 HD.out (KS p) (ks p) ?k1 (keySk hp hl) ?g1)
  try case m1 => simp [Act.eval]
  try case k1 => simp [Act.eval]
  rw [HZ.out]
  go_wp2_with fail
  go_ret
  exact ⟨rfl, HB.out.alloc (by simp) _⟩
/-- the set of all seals of a slice -/
def InEnd (w : World) (L : List SV) (e : Ending) (w' : World) : Prop := ∃ b, e = .returned (.map (some b)) ∧ SetS w' (sealsP L) b L.length ∧ Below w.heap.size w w'
set_option maxRecDepth 100000 in
set_option maxHeartbeats 4000000 in
theorem isealsin_is (L : List SV) (hw : ∀ x ∈ L, SpW x.p) (a : Option Addr) (cap n : Nat) (w : World) (hn : n = L.length) (hA : SlA w a L) (hl : L.length ≤ 2000000) (ht : PowS w) :
    Calls Tryd.prog 61 #[.slice a n cap] w (InEnd w L) := by
  subst hn
  have hb : Below w.heap.size w (w.alloc (.map #[] 0)) := (Below.refl _ _).alloc (Nat.le_refl _) _
  have HA := Lib.hid hA
  have HT := Lib.hid ht
  have HW := Lib.hid hw
  have H0 := Lib.hid (show SetS (w.alloc (.map #[] 0)) (sealsP (L.take 0)) w.heap.size 0 ∧ Below w.heap.size w (w.alloc (.map #[] 0)) from ⟨⟨_, World.ownsMap_made w _ _ _, by simpa [sealsP] using KnS.made⟩, hb⟩)
  have hmm := @run_makeMap Tryd.prog
  clear hA ht hw hb
  go_enter Tryd.func61, Tryd.ntmps61
  go_wp2_with fail
  go_loopw [9] (fun i wr => ∃ k : Nat, k ≤ L.length ∧ i = .int .i64 (k : Int) ∧ Hid (SetS wr (sealsP (L.take k)) w.heap.size k ∧ Below w.heap.size w wr)) (fun i _ => L.length - (intOf i).toNat)
  case atStart => exact ⟨0, Nat.zero_le _, rfl, H0⟩
  case round =>
    clear H0 hmm
    obtain ⟨k, hk, rfl, HI⟩ := hrel
    by_cases hlt : k < L.length
    · obtain ⟨s, hs⟩ : ∃ s, L[k]? = some s := ⟨_, List.getElem?_eq_getElem hlt⟩
      obtain ⟨b0, off, rfl, hc, hm⟩ := (HA.out.below HI.out.2).at hs
      have HS := Lib.hid (HW.out s (List.mem_of_getElem? hs))
      have HM := Lib.hid hm
      have HTK := Lib.hid (show sealsP (L.take (k + 1)) = sealsP (L.take k) ++ [s.p] by rw [List.take_add_one, hs]; simp [sealsP])
      have j0 : (0 : Int) ≤ (k : Int) := by omega
      have j1 : (k : Int) < (L.length : Int) := by omega
      obtain ⟨q0, q1, q2, q3, q4⟩ := hc
      clear hs hm
      go_wp2_with (refine wpList_stY rfl 34 _ _ rfl wr.heap.size #[.int .i64 s.y, .int .i64 s.t, .int .i64 s.f, .int .i64 s.b, .slice s.a s.P.length s.c] ?x2 ?y2 ?o2 ?i2 _ (AtY.new5 wr _ _ _ _ _ _) rfl ?g2)
      try case x2 => simp [Act.eval]
      try case y2 => simp [Act.eval]
      try case o2 => simp [Value.oneCell']
      try case i2 => rfl
      intro w2 a2 g2
      have hsz := HI.out.2.size
      have bb : Below wr.heap.size wr w2 := ((Below.refl wr.heap.size wr).alloc (Nat.le_refl _) _).grown g2 (by simp) (fun k hk => by cases hk; exact Nat.le_refl _)
      have HI2 := Lib.hid (show SetS w2 (sealsP (L.take k)) w.heap.size k ∧ Below w.heap.size w w2 from ⟨HI.out.1.below bb, next HI.out.2 bb⟩)
      have HM2 := Lib.hid (SV.m.below HM.out bb)
      obtain ⟨r0, r1, r2, r3, r4⟩ := a2.five
      clear a2 g2 bb q0 q1 q2 q3 q4
      go_wp2_with fail
      refine (ikey_is s HS.out _ HM2.out (HT.out.on HI2.out.2 (Nat.le_refl _))).mono ?_
      rintro en w3 ⟨rfl, b3⟩
      have HI3 := Lib.hid (show SetS w3 (sealsP (L.take k)) w.heap.size k ∧ Below w.heap.size w w3 from ⟨HI2.out.1.below b3, next HI2.out.2 b3⟩)
      clear b3 r0 r1 r2 r3 r4
      go_wp2_with fail
      refine (iadds_is _ s.p HS.out HM.out.2.2 w.heap.size k (by omega) _ HI3.out.1).mono ?_
      rintro en w4 ⟨rfl, o4, g4⟩
      have HI4 := Lib.hid (show SetS w4 (sealsP (L.take (k + 1))) w.heap.size (k + 1) ∧ Below w.heap.size w w4 from ⟨by rw [HTK.out]; exact o4, HI3.out.2.grown g4 HI3.out.2.size (fun k hk => by cases hk; exact Nat.le_refl _)⟩)
      clear o4 g4
      go_wp2_with fail
      go_roundw
      case rel => exact ⟨k + 1, by omega, by go_num, HI4⟩
      case measure => simp [intOf]; omega
    · obtain rfl : k = L.length := by omega
      go_wp2_with fail
      go_ret
      exact ⟨_, rfl, by have h := HI.out.1; rw [List.take_length] at h; exact h, HI.out.2⟩
end Go.Proofs.YtnnmgbgkgnejlaaDoor
