/-
  The iterator of halves: what it yields.
-/
import Derived.RangeFuncNested
import Derived.RangeFuncBound
import Derived.RangeFuncCalls
import Derived.RangeFuncLeaves
import Derived.Shelf.Abstract
import Derived.Shelf.RegionOpen
import Derived.OwnWalkIn
import Derived.TacticsInMore
import Derived.LoopNIn
import Derived.LoopIn
import Derived.Test.YtnnmgbgkgnejlaaHalfS
namespace Go.Proofs.Ytnnmgbgkgnejlaa
open Go.RowKit Go.Shelf
set_option linter.unusedSimpArgs false
attribute [local go_sem] Oper.semAt_some

/-- a half: which, its first address, its bits -/
def encH (x : Bool × Int × Int) : Array Value := #[.bool x.1, .agg #[.int .i64 x.2.1, .int .i64 x.2.2]]
/-- what is yielded -/
def halvesL (f b : Int) : List (Bool × Int × Int) := if halfB f b then [(false, f, b + 1), (true, f + sz (b + 1), b + 1)] else []
/-- all cells stay -/
def CK (W W' : World) : Prop := ∀ b o v, W.cell? ⟨b, o, none⟩ = some v → W'.cell? ⟨b, o, none⟩ = some v
theorem CK.refl (W : World) : CK W W := fun _ _ _ h => h
theorem CK.trans {A B C : World} (h : CK A B) (k : CK B C) : CK A C := fun b o v e => k b o v (h b o v e)
theorem CK.below {W W' : World} (h : Below W.heap.size W W') : CK W W' := fun _ _ _ e => cell_later h e

theorem abides_below {β : Type} {B : Nat} {J : β → World → Prop} (hJ : AbidesFrom B J) {s : β} {W W' : World} (h : J s W) (k : Below W.heap.size W W') : J s W' :=
  hJ s W W' none h ⟨k.os, k.tape, k.output, k.size, fun i hi _ => k.block i hi⟩ (fun r e => by cases e)

set_option maxHeartbeats 400000 in
theorem halves_any (f b : Int) (w : World) :
    Calls Try.prog 27 #[.agg #[.int .i64 f, .int .i64 b]] w fun e w' =>
      e = .returned (.func (.func 33) #[] #[.pointer (some ⟨w.heap.size, 0, none⟩)]) ∧ w.alloc (.cells #[.int .i64 f, .int .i64 b] 25) = w' := by
  go_enter Try.func27, Try.ntmps27
  go_wp2
  go_ret
  exact ⟨rfl, rfl⟩

set_option maxRecDepth 100000 in
set_option maxHeartbeats 1000000 in
theorem halves1_no (n l Bn : Nat) (f b : Int) (J Jx : List (Bool × Int × Int) → World → Prop) (W : World) (hJ : AbidesFrom W.heap.size J)
    (r0 : At W Bn f b) (hn : halfB f b = false) (h0 : J [] W) :
    CallsIn Fence.wide n Try.prog 33 #[.func (.yield l) #[] #[], .pointer (some ⟨Bn, 0, none⟩)] W fun e W' => (∃ v, e = .returned v) ∧
      ((∃ ys, ys = halvesL f b ∧ J ys W') ∨ (∃ pre, (halfB f b = true ∧ (pre = [(false, f, b + 1)] ∨ pre = [(false, f, b + 1), (true, f + sz (b + 1), b + 1)])) ∧ Jx pre W')) := by
  have hl : halvesL f b = [] := by simp [halvesL, hn]
  rw [hl]
  clear hl
  obtain ⟨c0, c1, _, _⟩ := id r0
  have HJ := Lib.hid hJ
  have H0 := Lib.hid h0
  clear hJ h0
  by_cases ho : okB f b = true
  · have hb8 : (b == 8) = true := by
      obtain ⟨_, h8, _⟩ := (okB_iff f b).1 ho
      have : ¬ b < 8 := fun h => by rw [(halfB_iff f b).2 ⟨ho, h⟩] at hn; cases hn
      simp; omega
    clear hn
    refine callsIn_wide.2 ?_
    go_enter Try.func33, Try.ntmps33
    go_wp2_with fail
    refine (iok_is ho _).mono ?_
    rintro e w1 ⟨rfl, hb1⟩
    obtain ⟨c0, c1, _, _⟩ := id (r0.below hb1)
    go_wp2
    refine bodyPost_ret (results_none rfl _ _ _) rfl ?_
    exact ⟨⟨_, rfl⟩, .inl ⟨_, rfl, abides_below HJ.out H0.out hb1⟩⟩
  · have ho' : okB f b = false := by simpa using ho
    clear ho hn
    refine callsIn_wide.2 ?_
    go_enter Try.func33, Try.ntmps33
    go_wp2_with fail
    refine (iok_is ho' _).mono ?_
    rintro e w1 ⟨rfl, hb1⟩
    go_wp2
    refine bodyPost_ret (results_none rfl _ _ _) rfl ?_
    exact ⟨⟨_, rfl⟩, .inl ⟨_, rfl, abides_below HJ.out H0.out hb1⟩⟩

end Go.Proofs.Ytnnmgbgkgnejlaa
