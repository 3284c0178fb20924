/-
  The call through the interface; ClauseFits by the program.
-/
import Derived.Test.YtioppkalehnoaaaGreatDoorClFt
import Derived.Handy
namespace Go.Proofs.YtioppkalehnoaaaGreatDoor
open Go.RowKit
set_option linter.unusedSimpArgs false
set_option linter.unusedVariables false

/-- what the program makes of a clause's condition: a type, a value, the method that is found -/
structure CondIs (u : CL) (T : TypeId) (V : Value) (F : FuncId) : Prop where
  make : ∀ w : World, Calls Tryz.prog 63 #[clV u] w fun en w' => en = .returned (.iface T V) ∧ Below w.heap.size w w'
  find : ∀ w : World, (method 282 T V "loop.example/wayboard/impl.fits").run Tryz.prog w = .ok (F, V) w
  goes : ∀ (args : Array Value) (w : World), (callFunc F args).run Tryz.prog w = .ok (.enter F args) w
  fits : ∀ (f b : Int) (a : Option Addr) (c : Nat) (P : List Int) (l : Int) (d : Option Addr) (e : Nat) (M : List Int) (x : Bool) (w : World) (p : Addr), fitsC u (f, b, P, l, M) = x → RtGood (f, b, P, l, M) → RtM w a c P d e M → EV w p →
    Calls Tryz.prog F #[V, .agg #[.int .i64 f, .int .i64 b, .slice a P.length c, .int .i64 l, .slice d M.length e]] w fun en w' => en = .returned (.bool x) ∧ Below w.heap.size w w'
theorem cond_1 (u : CL) (hi : u.i = 1) : CondIs u 105 (.agg #[]) 122 where
  make := icond1_is u (by simp [hi])
  find := fun _ => by kernel_rfl
  goes := fun _ _ => by kernel_rfl
  fits := fun f b a c P l d e M x w p hx hg hm hE => ift1 u f b a c P l d e M (by rw [← hx]; simp [fitsC, hi]) w p hm hE
theorem cond_2 (u : CL) (hi : u.i = 2) : CondIs u 107 (.agg #[.int .i64 u.f, .int .i64 u.b]) 123 where
  make := icond2_is u (by simp [hi]) (by simp [hi])
  find := fun _ => by kernel_rfl
  goes := fun _ _ => by kernel_rfl
  fits := fun f b a c P l d e M x w p hx hg hm hE => ift2 u f b a c P l d e M (by rw [← hx]; simp [fitsC, hi]) w p hm hE
theorem cond_3 (u : CL) (hi : u.i = 3) : CondIs u 109 (.agg #[.int .i64 u.n]) 126 where
  make := icond3_is u (by simp [hi]) (by simp [hi]) (by simp [hi])
  find := fun _ => by kernel_rfl
  goes := fun _ _ => by kernel_rfl
  fits := fun f b a c P l d e M x w p hx hg hm hE => ift3 u f b a c P l d e M (by rw [← hx]; simp [fitsC, hi]) w p hm hE
theorem cond_4 (u : CL) (hi : u.i = 4) : CondIs u 111 (.agg #[.int .i64 u.n]) 129 where
  make := icond4_is u (by simp [hi]) (by simp [hi]) (by simp [hi]) (by simp [hi])
  find := fun _ => by kernel_rfl
  goes := fun _ _ => by kernel_rfl
  fits := fun f b a c P l d e M x w p hx hg hm hE => ift4 u f b a c P l d e M (by rw [← hx]; simp [fitsC, hi]) hg.path w p hm hE
theorem cond_5 (u : CL) (hi : u.i = 5) : CondIs u 113 (.agg #[.int .i64 u.n]) 131 where
  make := icond5_is u (by simp [hi]) (by simp [hi]) (by simp [hi]) (by simp [hi]) (by simp [hi])
  find := fun _ => by kernel_rfl
  goes := fun _ _ => by kernel_rfl
  fits := fun f b a c P l d e M x w p hx hg hm hE => ift5 u f b a c P l d e M (by rw [← hx]; simp [fitsC, hi]) w p hm hE
theorem cond_any {u : CL} (h : clOk u = true) : ∃ T V F, CondIs u T V F := by
  rcases (clOk_good h).kind with hi | hi | hi | hi | hi
  · exact ⟨_, _, _, cond_1 u hi⟩
  · exact ⟨_, _, _, cond_2 u hi⟩
  · exact ⟨_, _, _, cond_3 u hi⟩
  · exact ⟨_, _, _, cond_4 u hi⟩
  · exact ⟨_, _, _, cond_5 u hi⟩

end Go.Proofs.YtioppkalehnoaaaGreatDoor
