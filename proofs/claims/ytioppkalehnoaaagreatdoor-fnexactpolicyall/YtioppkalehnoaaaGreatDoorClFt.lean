/-
  Does a route fit a clause: by the document's model, by the program.
-/
import Derived.Test.YtioppkalehnoaaaGreatDoorClTo
import Derived.Test.YtioppkalehnoaaaGreatDoorRtIk
import Derived.Test.YtioppkalehnoaaaGreatDoorJ1
namespace Go.Proofs.YtioppkalehnoaaaGreatDoor
open Go.RowKit
set_option linter.unusedSimpArgs false
set_option linter.unusedVariables false

/-- a clause and a route boxed -/
def Bc (w : World) (u : CL) (f b : Int) (a : Option Addr) (c : Nat) (P : List Int) (l : Int) (d : Option Addr) (e : Nat) (M : List Int) (W : World) : Prop :=
  AtL W w.heap.size 0 u.cells ∧ At5 W (w.heap.size + 1) (.int .i64 f) (.int .i64 b) (.slice a P.length c) (.int .i64 l) (.slice d M.length e) ∧ RtM W a c P d e M ∧ Below w.heap.size w W
theorem Bc.new {w : World} (u : CL) (f b : Int) (a : Option Addr) (c : Nat) (P : List Int) (l : Int) (d : Option Addr) (e : Nat) (M : List Int) (h : RtM w a c P d e M) (t t' : TypeId) : Bc w u f b a c P l d e M ((w.alloc (.cells (clA u) t)).alloc (.cells #[.int .i64 f, .int .i64 b, .slice a P.length c, .int .i64 l, .slice d M.length e] t')) := by
  have h2 := At5.new (w.alloc (.cells (clA u) t)) (.int .i64 f) (.int .i64 b) (.slice a P.length c) (.int .i64 l) (.slice d M.length e) t'
  simp only [World.size_alloc] at h2
  exact ⟨(AtL.new w u t).alloc _, h2, (h.alloc _).alloc _, ((Below.refl w.heap.size w).alloc (Nat.le_refl _) _).alloc (by simp) _⟩
section
variable {w W W' : World} {u : CL} {f b : Int} {a : Option Addr} {c : Nat} {P : List Int} {l : Int} {d : Option Addr} {e : Nat} {M : List Int}
theorem Bc.later (h : Bc w u f b a c P l d e M W) (k : Below W.heap.size W W') : Bc w u f b a c P l d e M W' := ⟨h.1.below k, h.2.1.below k, h.2.2.1.below k, next h.2.2.2 k⟩
theorem Bc.drew (h : Bc w u f b a c P l d e M W) : Bc w u f b a c P l d e M W.drew := ⟨h.1.drew, h.2.1.drew, h.2.2.1.drew, h.2.2.2.drew⟩
end

set_option maxHeartbeats 2000000 in
theorem sfits_is (u : CL) (f b : Int) (a : Option Addr) (c : Nat) (P : List Int) (l : Int) (d : Option Addr) (e : Nat) (M : List Int) {x : Bool} (k : fitsC u (f, b, P, l, M) = x) (hu : clOk u = true) (hr : rtOk (f, b, P, l, M) = true) (w : World) (hm : RtM w a c P d e M) :
    Calls Tryz.prog 53 #[clV u, .agg #[.int .i64 f, .int .i64 b, .slice a P.length c, .int .i64 l, .slice d M.length e]] w fun en w' => en = .returned (.bool x) ∧ Below w.heap.size w w' := by
  have KX := Lib.hid k
  have H0 := Lib.hid (Bc.new u f b a c P l d e M hm 59 32)
  have HG := Lib.hid (clOk_good hu)
  have HR := Lib.hid ((rtOk_iff _).1 hr)
  have hlP := hm.2.2.2.1
  have hlM := hm.2.2.2.2
  clear k hm hu hr
  by_cases hi2 : u.i = 2
  · have e2 : (u.i == 2) = true := by simp [hi2]
    have HX := Lib.hid (show inB f b u.f u.b = x by rw [← KX.out]; simp [fitsC, hi2])
    have ho := HG.out.ran2 hi2
    have ho2 := HR.out.ran
    clear hi2 KX
    go_enter Tryz.func53, Tryz.ntmps53
    go_wp2_with fail
    refine (lin_any f b u.f u.b _ ho2 ho).mono ?_
    rintro en w1 ⟨rfl, b1⟩
    have HB := Lib.hid (next H0.out.2.2.2 b1)
    clear b1
    go_wp2_with fail
    go_ret
    exact ⟨ret_bool HX.out, HB.out⟩
  by_cases hi3 : u.i = 3
  · have e3 : (u.i == 3) = true := by simp [hi3]
    have e2 : (u.i == 2) = false := by simp [hi2]
    have HX := Lib.hid (show decide (u.n ∈ M) = x by rw [← KX.out]; simp [fitsC, hi3])
    clear hi2 hi3 KX
    go_enter Tryz.func53, Tryz.ntmps53
    go_wp2_with fail
    refine (pshas_is HX.out d e _ _ rfl H0.out.2.2.1.1.2 (by omega)).mono ?_
    rintro en w1 ⟨rfl, rfl⟩
    go_wp2_with fail
    go_ret
    exact ⟨rfl, H0.out.2.2.2⟩
  by_cases hi4 : u.i = 4
  · have e4 : (u.i == 4) = true := by simp [hi4]
    have e2 : (u.i == 2) = false := by simp [hi2]
    have e3 : (u.i == 3) = false := by simp [hi3]
    have HX := Lib.hid (show decide (u.n ∈ P) = x by rw [← KX.out]; simp [fitsC, hi4])
    clear hi2 hi3 hi4 KX
    go_enter Tryz.func53, Tryz.ntmps53
    go_wp2_with fail
    refine (pshas_is HX.out a c _ _ rfl H0.out.2.2.1.1.1 (by omega)).mono ?_
    rintro en w1 ⟨rfl, rfl⟩
    go_wp2_with fail
    go_ret
    exact ⟨rfl, H0.out.2.2.2⟩
  by_cases hi5 : u.i = 5
  · have e5 : (u.i == 5) = true := by simp [hi5]
    have e2 : (u.i == 2) = false := by simp [hi2]
    have e3 : (u.i == 3) = false := by simp [hi3]
    have e4 : (u.i == 4) = false := by simp [hi4]
    have HX := Lib.hid (show decide ((P.length : Int) ≤ u.n) = x by rw [← KX.out]; simp [fitsC, hi5])
    clear hi2 hi3 hi4 hi5 KX
    go_enter Tryz.func53, Tryz.ntmps53
    go_wp2_with fail
    go_ret
    exact ⟨ret_bool HX.out, H0.out.2.2.2⟩
  have e2 : (u.i == 2) = false := by simp [hi2]
  have e3 : (u.i == 3) = false := by simp [hi3]
  have e4 : (u.i == 4) = false := by simp [hi4]
  have e5 : (u.i == 5) = false := by simp [hi5]
  have HX := Lib.hid (show true = x by rw [← KX.out]; simp [fitsC, hi2, hi3, hi4, hi5])
  clear hi2 hi3 hi4 hi5 KX
  go_enter Tryz.func53, Tryz.ntmps53
  go_wp2_with fail
  go_ret
  exact ⟨ret_bool HX.out, H0.out.2.2.2⟩

theorem clFits_no1 {u : CL} {r : Rt} (h : clOk u = false) : clFits u r = false := by simp [clFits, h]
theorem clFits_no2 {u : CL} {r : Rt} (h : rtOk r = false) : clFits u r = false := by simp [clFits, h]
theorem clFits_yes {u : CL} {r : Rt} (h : clOk u = true) (h2 : rtOk r = true) : clFits u r = fitsC u r := by simp [clFits, h, h2]
set_option maxHeartbeats 1000000 in
theorem ift1 (u : CL) (f b : Int) (a : Option Addr) (c : Nat) (P : List Int) (l : Int) (d : Option Addr) (e : Nat) (M : List Int) {x : Bool} (k : true = x) (w : World) (p : Addr) (hm : RtM w a c P d e M) (hE : EV w p) :
    Calls Tryz.prog 122 #[.agg #[], .agg #[.int .i64 f, .int .i64 b, .slice a P.length c, .int .i64 l, .slice d M.length e]] w fun en w' => en = .returned (.bool x) ∧ Below w.heap.size w w' := by
  have HB := Lib.hid (((Below.refl w.heap.size w).alloc (Nat.le_refl _) (.cells #[] 105)).alloc (by simp) (.cells #[.int .i64 f, .int .i64 b, .slice a P.length c, .int .i64 l, .slice d M.length e] 32))
  have HM := Lib.hid ((hm.alloc (.cells #[] 105)).alloc (.cells #[.int .i64 f, .int .i64 b, .slice a P.length c, .int .i64 l, .slice d M.length e] 32))
  have HE := Lib.hid ((hE.alloc (.cells #[] 105)).alloc (.cells #[.int .i64 f, .int .i64 b, .slice a P.length c, .int .i64 l, .slice d M.length e] 32))
  have hlP := hm.2.2.2.1
  have hlM := hm.2.2.2.2
  clear hm hE
  have HX := Lib.hid k
  clear k
  go_enter Tryz.func122, Tryz.ntmps122
  go_wp2_with fail
  go_ret
  exact ⟨ret_bool HX.out, HB.out⟩
set_option maxHeartbeats 1000000 in
theorem ift2 (u : CL) (f b : Int) (a : Option Addr) (c : Nat) (P : List Int) (l : Int) (d : Option Addr) (e : Nat) (M : List Int) {x : Bool} (k : inB f b u.f u.b = x) (w : World) (p : Addr) (hm : RtM w a c P d e M) (hE : EV w p) :
    Calls Tryz.prog 123 #[.agg #[.int .i64 u.f, .int .i64 u.b], .agg #[.int .i64 f, .int .i64 b, .slice a P.length c, .int .i64 l, .slice d M.length e]] w fun en w' => en = .returned (.bool x) ∧ Below w.heap.size w w' := by
  have HB := Lib.hid (((Below.refl w.heap.size w).alloc (Nat.le_refl _) (.cells #[.int .i64 u.f, .int .i64 u.b] 107)).alloc (by simp) (.cells #[.int .i64 f, .int .i64 b, .slice a P.length c, .int .i64 l, .slice d M.length e] 32))
  have HM := Lib.hid ((hm.alloc (.cells #[.int .i64 u.f, .int .i64 u.b] 107)).alloc (.cells #[.int .i64 f, .int .i64 b, .slice a P.length c, .int .i64 l, .slice d M.length e] 32))
  have HE := Lib.hid ((hE.alloc (.cells #[.int .i64 u.f, .int .i64 u.b] 107)).alloc (.cells #[.int .i64 f, .int .i64 b, .slice a P.length c, .int .i64 l, .slice d M.length e] 32))
  have hlP := hm.2.2.2.1
  have hlM := hm.2.2.2.2
  clear hm hE
  have HX := Lib.hid k
  clear k
  go_enter Tryz.func123, Tryz.ntmps123
  go_wp2_with fail
  refine (rin_any f b u.f u.b _).mono ?_
  rintro en w1 ⟨rfl, b1⟩
  have HB1 := Lib.hid (next HB.out b1)
  clear b1
  go_wp2_with fail
  go_ret
  exact ⟨ret_bool HX.out, HB1.out⟩
theorem gcont_is {L : List Int} {n : Int} {x : Bool} (h : decide (n ∈ L) = x) (a : Option Addr) (cap m : Nat) (w : World) (hm : m = L.length) (hL : IntA w a L) (hl : L.length ≤ 4000000) :
    Calls Tryz.prog 127 #[.slice a m cap, .int .i64 n] w fun e w' => e = .returned (.bool x) ∧ w = w' := by
  subst hm
  rcases hL with rfl | ⟨b, off, rfl, hc⟩
  · exact (Tryz.slices_Contains_int_empty a cap n w).mono fun e w' ⟨h1, h2⟩ => ⟨by rw [h1, ← h]; simp, h2.symm⟩
  · refine (Tryz.slices_Contains_int b off L.length cap L n w (Nat.le_refl _) (by omega) (fun j hj => ?_)).mono fun e w' ⟨h1, h2⟩ => ⟨by rw [h1, ← h, List.take_length]; simp, h2.symm⟩
    have e : L[j]? = some L[j] := List.getElem?_eq_getElem hj
    rw [hc j _ e]; simp [List.getD, e]
set_option maxHeartbeats 1000000 in
theorem ift3 (u : CL) (f b : Int) (a : Option Addr) (c : Nat) (P : List Int) (l : Int) (d : Option Addr) (e : Nat) (M : List Int) {x : Bool} (k : decide (u.n ∈ M) = x) (w : World) (p : Addr) (hm : RtM w a c P d e M) (hE : EV w p) :
    Calls Tryz.prog 126 #[.agg #[.int .i64 u.n], .agg #[.int .i64 f, .int .i64 b, .slice a P.length c, .int .i64 l, .slice d M.length e]] w fun en w' => en = .returned (.bool x) ∧ Below w.heap.size w w' := by
  have HB := Lib.hid (((Below.refl w.heap.size w).alloc (Nat.le_refl _) (.cells #[.int .i64 u.n] 109)).alloc (by simp) (.cells #[.int .i64 f, .int .i64 b, .slice a P.length c, .int .i64 l, .slice d M.length e] 32))
  have HM := Lib.hid ((hm.alloc (.cells #[.int .i64 u.n] 109)).alloc (.cells #[.int .i64 f, .int .i64 b, .slice a P.length c, .int .i64 l, .slice d M.length e] 32))
  have HE := Lib.hid ((hE.alloc (.cells #[.int .i64 u.n] 109)).alloc (.cells #[.int .i64 f, .int .i64 b, .slice a P.length c, .int .i64 l, .slice d M.length e] 32))
  have hlP := hm.2.2.2.1
  have hlM := hm.2.2.2.2
  clear hm hE
  have HX := Lib.hid k
  clear k
  go_enter Tryz.func126, Tryz.ntmps126
  go_wp2_with fail
  refine (gcont_is HX.out d e _ _ rfl HM.out.1.2 (by omega)).mono ?_
  rintro en w1 ⟨rfl, rfl⟩
  go_wp2_with fail
  go_ret
  exact ⟨rfl, HB.out⟩
set_option maxHeartbeats 1000000 in
theorem ift4 (u : CL) (f b : Int) (a : Option Addr) (c : Nat) (P : List Int) (l : Int) (d : Option Addr) (e : Nat) (M : List Int) {x : Bool} (k : decide (u.n ∈ P) = x) (hP : Path P) (w : World) (p : Addr) (hm : RtM w a c P d e M) (hE : EV w p) :
    Calls Tryz.prog 129 #[.agg #[.int .i64 u.n], .agg #[.int .i64 f, .int .i64 b, .slice a P.length c, .int .i64 l, .slice d M.length e]] w fun en w' => en = .returned (.bool x) ∧ Below w.heap.size w w' := by
  have HB := Lib.hid (((Below.refl w.heap.size w).alloc (Nat.le_refl _) (.cells #[.int .i64 u.n] 111)).alloc (by simp) (.cells #[.int .i64 f, .int .i64 b, .slice a P.length c, .int .i64 l, .slice d M.length e] 32))
  have HM := Lib.hid ((hm.alloc (.cells #[.int .i64 u.n] 111)).alloc (.cells #[.int .i64 f, .int .i64 b, .slice a P.length c, .int .i64 l, .slice d M.length e] 32))
  have HE := Lib.hid ((hE.alloc (.cells #[.int .i64 u.n] 111)).alloc (.cells #[.int .i64 f, .int .i64 b, .slice a P.length c, .int .i64 l, .slice d M.length e] 32))
  have hlP := hm.2.2.2.1
  have hlM := hm.2.2.2.2
  clear hm hE
  have HX := Lib.hid (show pHas P u.n = x by rw [pHas_yes hP]; exact k)
  clear k hP
  go_enter Tryz.func129, Tryz.ntmps129
  go_wp2_with fail
  refine (pihas_is HX.out a c _ _ p rfl (by omega) HM.out.1.1 HE.out).mono ?_
  rintro en w1 ⟨rfl, b1⟩
  have HB1 := Lib.hid (next HB.out b1)
  clear b1
  go_wp2_with fail
  go_ret
  exact ⟨rfl, HB1.out⟩
set_option maxHeartbeats 1000000 in
theorem ift5 (u : CL) (f b : Int) (a : Option Addr) (c : Nat) (P : List Int) (l : Int) (d : Option Addr) (e : Nat) (M : List Int) {x : Bool} (k : decide ((P.length : Int) ≤ u.n) = x) (w : World) (p : Addr) (hm : RtM w a c P d e M) (hE : EV w p) :
    Calls Tryz.prog 131 #[.agg #[.int .i64 u.n], .agg #[.int .i64 f, .int .i64 b, .slice a P.length c, .int .i64 l, .slice d M.length e]] w fun en w' => en = .returned (.bool x) ∧ Below w.heap.size w w' := by
  have HB := Lib.hid (((Below.refl w.heap.size w).alloc (Nat.le_refl _) (.cells #[.int .i64 u.n] 113)).alloc (by simp) (.cells #[.int .i64 f, .int .i64 b, .slice a P.length c, .int .i64 l, .slice d M.length e] 32))
  have HM := Lib.hid ((hm.alloc (.cells #[.int .i64 u.n] 113)).alloc (.cells #[.int .i64 f, .int .i64 b, .slice a P.length c, .int .i64 l, .slice d M.length e] 32))
  have HE := Lib.hid ((hE.alloc (.cells #[.int .i64 u.n] 113)).alloc (.cells #[.int .i64 f, .int .i64 b, .slice a P.length c, .int .i64 l, .slice d M.length e] 32))
  have hlP := hm.2.2.2.1
  have hlM := hm.2.2.2.2
  clear hm hE
  have HX := Lib.hid k
  clear k
  go_enter Tryz.func131, Tryz.ntmps131
  go_wp2_with fail
  go_ret
  exact ⟨ret_bool HX.out, HB.out⟩
end Go.Proofs.YtioppkalehnoaaaGreatDoor
