/-
  A slice of routes as an argument; the exact law of RouteBest: the walk.
-/
import Derived.Test.YtfjfcdifnfffbaaDoorRtVv
import Derived.Test.YtfjfcdifnfffbaaDoorROpen
import Derived.Test.YtfjfcdifnfffbaaDoorRtLi
import Derived.Deep.Slices
namespace Go.Proofs.YtfjfcdifnfffbaaDoor
open Go.ChangeShapes Go.WideShapes Go.ChangeAt Go.RowKit Go.Joins Go.Deep
set_option linter.unusedSimpArgs false
set_option linter.unusedVariables false

instance : Inhabited RV := ⟨zRV⟩
section
variable {H : Type} {enc : TypeId × Value → H} {W : World} {base : Nat} {spare : Nat → Bool} {held : Bool}
/-- a slice of routes that came in -/
theorem open_rtS {a : Option Addr} {len cap : Nat} {dd : DataW H} {p : List MemPlace} (h : DataW.Trod enc Tryd.prog W base spare held 56 (.slice a len cap) dd p) :
    ∃ L : List RV, len = L.length ∧ RsB W a L ∧ len ≤ 9223372036854775807 := by
  obtain ⟨fuel, hf⟩ := h
  rcases open_slice Tryd.underlying56 hf with ⟨hcs, _⟩ | ⟨x, l, c, m, n, D, Pl, hcs, _, hl, hm, hmm, _, hx⟩
  · simp [Value.cells] at hcs
    obtain ⟨rfl, rfl, rfl⟩ := hcs
    exact ⟨[], rfl, ⟨.inl rfl, fun v hv => by cases hv⟩, by omega⟩
  · simp [Value.cells] at hcs
    obtain ⟨rfl, rfl, rfl⟩ := hcs
    have hlm : len ≤ m := by rw [hmm]; split <;> omega
    obtain ⟨F, hF⟩ := choose_lt (α := RV) (n := len) (p := fun i e => (W.cell? ((x.add (i * 5)).add 0) = some (.int .i64 e.f) ∧ W.cell? ((x.add (i * 5)).add 1) = some (.int .i64 e.b) ∧ W.cell? ((x.add (i * 5)).add 2) = some (.slice e.a e.P.length e.c) ∧ W.cell? ((x.add (i * 5)).add 3) = some (.int .i64 e.l) ∧ W.cell? ((x.add (i * 5)).add 4) = some (.slice e.d e.M.length e.e)) ∧ ((IntA W e.a e.P ∧ IntA W e.d e.M) ∧ e.P.length ≤ e.c ∧ e.M.length ≤ e.e) ∧ e.P.length ≤ 9223372036854775807 ∧ e.M.length ≤ 9223372036854775807) (fun i hi => by
      obtain ⟨cs', h1, h2⟩ := hx i (by omega)
      rw [cellsLRt] at h1
      obtain ⟨f, b, a, n', c', P, l', d, m', e, M, rfl, ⟨r1, r2⟩, ⟨rfl, rfl⟩, ⟨r3, r4⟩, r5, r6⟩ := rt_cells h2
      obtain ⟨_, _, h3⟩ := World.cells?_some h1
      exact ⟨⟨f, b, a, c', P, l', d, e, M⟩, ⟨h3 0 (by omega), h3 1 (by omega), h3 2 (by omega), h3 3 (by omega), h3 4 (by omega)⟩, ⟨⟨r1, r2⟩, r3, r4⟩, r5, r6⟩)
    refine ⟨(List.range len).map F, by simp, ⟨?_, fun v hv => ?_⟩, by unfold maxLen at hm; omega⟩
    · by_cases h0 : len = 0
      · subst h0; exact .inl rfl
      · obtain ⟨b, off, spot⟩ := x
        have hspot : spot = none := by simpa [Addr.add] using World.cell?_spot (hF 0 (by omega)).1.1
        subst hspot
        refine .inr ⟨b, off, rfl, fun i e hi => ?_⟩
        have hi' : i < len := by
          have := (List.getElem?_eq_some_iff.1 hi).1; simpa using this
        obtain rfl : F i = e := by simpa [hi'] using hi
        obtain ⟨⟨q0, q1, q2, q3, q4⟩, _⟩ := hF i hi'
        simp only [add_plain] at q0 q1 q2 q3 q4
        exact ⟨q0, q1, q2, q3, q4⟩
    · obtain ⟨i, hi, rfl⟩ := List.mem_map.1 hv
      exact (hF i (by simpa using hi)).2
end

set_option maxRecDepth 100000 in
set_option maxHeartbeats 2000000 in
theorem exactRouteBest_walk (a : Option Addr) (n cap : Nat) (L : List RV) (w : World) (hn : n = L.length) (hA : RsB w a L) (hl : n ≤ 9223372036854775807) (p : Addr) (hE : EV w p) (_ : True) :
    Calls Tryd.prog 18 #[.slice a n cap] w fun e w' => e = .returned (.bool true) ∧ Below w.heap.size w w' := by
  subst hn
  have HA := Lib.hid hA
  have HE := Lib.hid hE
  clear hA hE
  go_enter Tryd.func18, Tryd.ntmps18
  go_wp2_with fail
  refine (szs_any L a cap _ _ rfl HA.out hl).mono ?_
  rintro en w1 ⟨z, rfl, hz, b1⟩
  have HB1 := Lib.hid b1
  have HA1 := Lib.hid (HA.out.below b1)
  clear b1 HA
  by_cases hneg : z < 0
  · go_wp2_with fail
    go_ret
    exact ⟨rfl, HB1.out⟩
  · obtain ⟨hl1, hs⟩ := hz (by omega)
    have HS := Lib.hid hs
    have HR1 := Lib.hid (HA1.out.rsa hs)
    clear hs hz HA1
    obtain ⟨y, hy⟩ := best_ex (L.map RV.rt)
    have HY := Lib.hid hy
    have y1 : (y != y) = false := by simp
    clear hy
    go_wp2_with fail
    refine (tos_any L a cap _ _ rfl HR1.out hl1 HS.out).mono ?_
    rintro en w2 ⟨LB, g, c, rfl, hB, hM, b2⟩
    have HB2 := Lib.hid (next HB1.out b2)
    have HR2 := Lib.hid (HR1.out.below b2)
    have HLB := Lib.hid hB
    have HM := Lib.hid hM
    have hlb : LB.length = L.length := by have := congrArg List.length hM; simpa using this
    have HLl := Lib.hid hlb
    clear b2 hB hM hlb HB1 HR1
    go_wp2_with fail
    refine (sbest_is LB (some ⟨g, 0, none⟩) c _ _ (show BestIs (LB.map RV.rt) y by rw [HM.out]; exact HY.out) rfl HLB.out (by have := HLl.out; omega)).mono ?_
    rintro en w3 ⟨rfl, b3⟩
    have HB3 := Lib.hid (next HB2.out b3)
    have HR3 := Lib.hid (HR2.out.below b3)
    clear b3 HB2 HR2 HLB HM HLl
    go_wp2_with fail
    refine (tos_any L a cap _ _ rfl HR3.out hl1 HS.out).mono ?_
    rintro en w4 ⟨LC, g4, c4, rfl, hB, hM, b4⟩
    have HB4 := Lib.hid (next HB3.out b4)
    have HR4 := Lib.hid (HR3.out.below b4)
    have HLC := Lib.hid hB
    have HM := Lib.hid hM
    have hlb : LC.length = L.length := by have := congrArg List.length hM; simpa using this
    have HLl := Lib.hid hlb
    clear b4 hB hM hlb HB3 HR3
    go_wp2_with fail
    refine (ibest_is LC (some ⟨g4, 0, none⟩) c4 _ _ p (show BestIs (LC.map RV.rt) y by rw [HM.out]; exact HY.out) rfl HLC.out (HE.out.below HB4.out) (by have := HLl.out; omega)).mono ?_
    rintro en w5 ⟨rfl, b5⟩
    have HB5 := Lib.hid (next HB4.out b5)
    have HR5 := Lib.hid (HR4.out.below b5)
    have HLC5 := Lib.hid (HLC.out.below b5)
    clear b5 HB4 HR4 HLC
    go_wp2_with fail
    refine (tos_any L a cap _ _ rfl HR5.out hl1 HS.out).mono ?_
    rintro en w6 ⟨LD, g6, c6, rfl, hB, hM, b6⟩
    have HB6 := Lib.hid (next HB5.out b6)
    have HLC6 := Lib.hid (HLC5.out.below b6)
    have HLD := Lib.hid hB
    have HM6 := Lib.hid hM
    clear b6 hB hM HB5 HR5 HLC5
    go_wp2_with fail
    refine (eqs_is LC LD (some ⟨g4, 0, none⟩) (some ⟨g6, 0, none⟩) c4 c6 _ _ _ rfl rfl HLC6.out HLD.out (HM.out.trans HM6.out.symm) (by have := HLl.out; omega)).mono ?_
    rintro en w7 ⟨rfl, b7⟩
    have HB7 := Lib.hid (next HB6.out b7)
    clear b7
    go_wp2_with fail
    go_ret
    exact ⟨rfl, HB7.out⟩
end Go.Proofs.YtfjfcdifnfffbaaDoor
