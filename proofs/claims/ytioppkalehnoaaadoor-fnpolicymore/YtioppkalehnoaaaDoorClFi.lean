/-
  The call through the interface; ClauseFits by the program.
-/
import Derived.Test.YtioppkalehnoaaaDoorClFt
import Derived.Handy
namespace Go.Proofs.YtioppkalehnoaaaDoor
open Go.RowKit
set_option linter.unusedSimpArgs false
set_option linter.unusedVariables false

/-- what the program makes of a clause's condition: a type, a value, the method that is found -/
structure CondIs (u : CL) (T : TypeId) (V : Value) (F : FuncId) : Prop where
  make : ∀ w : World, Calls Tryd.prog 43 #[clV u] w fun en w' => en = .returned (.iface T V) ∧ Below w.heap.size w w'
  find : ∀ w : World, (method 275 T V "loop.example/wayboard/impl.fits").run Tryd.prog w = .ok (F, V) w
  goes : ∀ (args : Array Value) (w : World), (callFunc F args).run Tryd.prog w = .ok (.enter F args) w
  fits : ∀ (f b : Int) (a : Option Addr) (c : Nat) (P : List Int) (l : Int) (d : Option Addr) (e : Nat) (M : List Int) (x : Bool) (w : World) (p : Addr), fitsC u (f, b, P, l, M) = x → RtGood (f, b, P, l, M) → RtM w a c P d e M → EV w p →
    Calls Tryd.prog F #[V, .agg #[.int .i64 f, .int .i64 b, .slice a P.length c, .int .i64 l, .slice d M.length e]] w fun en w' => en = .returned (.bool x) ∧ Below w.heap.size w w'
theorem cond_1 (u : CL) (hi : u.i = 1) : CondIs u 94 (.agg #[]) 122 where
  make := icond1_is u (by simp [hi])
  find := fun _ => by kernel_rfl
  goes := fun _ _ => by kernel_rfl
  fits := fun f b a c P l d e M x w p hx hg hm hE => ift1 u f b a c P l d e M (by rw [← hx]; simp [fitsC, hi]) w p hm hE
theorem cond_2 (u : CL) (hi : u.i = 2) : CondIs u 96 (.agg #[.int .i64 u.f, .int .i64 u.b]) 123 where
  make := icond2_is u (by simp [hi]) (by simp [hi])
  find := fun _ => by kernel_rfl
  goes := fun _ _ => by kernel_rfl
  fits := fun f b a c P l d e M x w p hx hg hm hE => ift2 u f b a c P l d e M (by rw [← hx]; simp [fitsC, hi]) w p hm hE
theorem cond_3 (u : CL) (hi : u.i = 3) : CondIs u 98 (.agg #[.int .i64 u.n]) 124 where
  make := icond3_is u (by simp [hi]) (by simp [hi]) (by simp [hi])
  find := fun _ => by kernel_rfl
  goes := fun _ _ => by kernel_rfl
  fits := fun f b a c P l d e M x w p hx hg hm hE => ift3 u f b a c P l d e M (by rw [← hx]; simp [fitsC, hi]) w p hm hE
theorem cond_4 (u : CL) (hi : u.i = 4) : CondIs u 100 (.agg #[.int .i64 u.n]) 127 where
  make := icond4_is u (by simp [hi]) (by simp [hi]) (by simp [hi]) (by simp [hi])
  find := fun _ => by kernel_rfl
  goes := fun _ _ => by kernel_rfl
  fits := fun f b a c P l d e M x w p hx hg hm hE => ift4 u f b a c P l d e M (by rw [← hx]; simp [fitsC, hi]) hg.path w p hm hE
theorem cond_5 (u : CL) (hi : u.i = 5) : CondIs u 102 (.agg #[.int .i64 u.n]) 128 where
  make := icond5_is u (by simp [hi]) (by simp [hi]) (by simp [hi]) (by simp [hi]) (by simp [hi])
  find := fun _ => by kernel_rfl
  goes := fun _ _ => by kernel_rfl
  fits := fun f b a c P l d e M x w p hx hg hm hE => ift5 u f b a c P l d e M (by rw [← hx]; simp [fitsC, hi]) w p hm hE
theorem cond_any {u : CL} (h : clOk u = true) : ∃ T V F, CondIs u T V F := by
  rcases (clOk_good h).kind with hi | hi | hi | hi | hi
  · exact ⟨_, _, _, cond_1 u hi⟩
  · exact ⟨_, _, _, cond_2 u hi⟩
  · exact ⟨_, _, _, cond_3 u hi⟩
  · exact ⟨_, _, _, cond_4 u hi⟩
  · exact ⟨_, _, _, cond_5 u hi⟩

set_option maxRecDepth 100000 in
set_option maxHeartbeats 4000000 in
theorem iclfits_is (u : CL) (f b : Int) (a : Option Addr) (c : Nat) (P : List Int) (l : Int) (d : Option Addr) (e : Nat) (M : List Int) {x : Bool} (k : clFits u (f, b, P, l, M) = x) (w : World) (p : Addr) (hm : RtM w a c P d e M) (hE : EV w p) :
    Calls Tryd.prog 16 #[clV u, .agg #[.int .i64 f, .int .i64 b, .slice a P.length c, .int .i64 l, .slice d M.length e]] w fun en w' => en = .returned (.bool x) ∧ Below w.heap.size w w' := by
  have KX := Lib.hid k
  have H0 := Lib.hid (Bc.new u f b a c P l d e M hm 33 36)
  have HE := Lib.hid ((hE.alloc (.cells (clA u) 33)).alloc (.cells #[.int .i64 f, .int .i64 b, .slice a P.length c, .int .i64 l, .slice d M.length e] 36))
  clear k hm hE
  go_enter Tryd.func16, Tryd.ntmps16
  go_wp2_with fail
  cases ho : clOk u with
  | false =>
    have HX := Lib.hid (show false = x by rw [← KX.out, clFits_no1 ho])
    refine wp_region_held_drew (S := fun W => ((W.cell? ⟨w.heap.size, 0, none⟩ = some (.int .i64 u.i) ∧ W.cell? ⟨w.heap.size, 1, none⟩ = some (.int .i64 u.n) ∧ W.cell? ⟨w.heap.size, 2, none⟩ = some (.int .i64 u.f) ∧ W.cell? ⟨w.heap.size, 3, none⟩ = some (.int .i64 u.b) ∧ W.cell? ⟨w.heap.size, 4, none⟩ = some (.bool u.x) ∧ W.cell? ⟨w.heap.size, 5, none⟩ = some (.int .i64 u.l) ∧ W.cell? ⟨w.heap.size, 6, none⟩ = some (.int .i64 u.m) ∧ W.cell? ⟨w.heap.size, 7, none⟩ = some (.int .i64 u.k)) ∧ (W.cell? ⟨w.heap.size + 1, 0, none⟩ = some (.int .i64 f) ∧ W.cell? ⟨w.heap.size + 1, 1, none⟩ = some (.int .i64 b) ∧ W.cell? ⟨w.heap.size + 1, 2, none⟩ = some (.slice a P.length c) ∧ W.cell? ⟨w.heap.size + 1, 3, none⟩ = some (.int .i64 l) ∧ W.cell? ⟨w.heap.size + 1, 4, none⟩ = some (.slice d M.length e))) ∧ Hid (RtM W a c P d e M ∧ EV W p ∧ Below w.heap.size w W)) (by kernel_rfl) ?_ (fun hHeld => ?_)
    · exact ⟨⟨H0.out.1.z8.1, H0.out.2.1.1⟩, Lib.hid ⟨H0.out.2.2.1.drew, HE.out, H0.out.2.2.2.drew⟩⟩
    refine takeH (i := 0) (v := ?_) rfl rfl (by kernel_rfl) (by kernel_rfl) (by kernel_rfl) (fun _ _ _ h => h) (by rfl) ?_ (by assumption) ?_
    rotate_left 1
    · intro w hSw
      (try dsimp only at hSw)
      go_simp
      try with_reducible rfl
    try simp only [List.setIfInBounds_toArray, List.set_cons_zero, List.set_cons_succ]
    refine wpAnyH_ready (rs := [1]) (by kernel_rfl) (by simp) ?_
    refine AllReadyH.cons rfl (fun K hK => ?_) (AllReadyH.nil)
    go_simp
    refine (iclo_is u ho _).mono ?_
    rintro en w1 ⟨rfl, b1⟩
    go_wp2_with fail
    refine hK.out _ _ ?_ (fun hNew => ?_)
    · exact ⟨⟨⟨cell_later b1 hHeld.1.1.1, cell_later b1 hHeld.1.1.2.1, cell_later b1 hHeld.1.1.2.2.1, cell_later b1 hHeld.1.1.2.2.2.1, cell_later b1 hHeld.1.1.2.2.2.2.1, cell_later b1 hHeld.1.1.2.2.2.2.2.1, cell_later b1 hHeld.1.1.2.2.2.2.2.2.1, cell_later b1 hHeld.1.1.2.2.2.2.2.2.2⟩, ⟨cell_later b1 hHeld.1.2.1, cell_later b1 hHeld.1.2.2.1, cell_later b1 hHeld.1.2.2.2.1, cell_later b1 hHeld.1.2.2.2.2.1, cell_later b1 hHeld.1.2.2.2.2.2⟩⟩, Lib.hid ⟨hHeld.2.out.1.below b1, hHeld.2.out.2.1.below b1, next hHeld.2.out.2.2 b1⟩⟩
    clear hK K hHeld
    have hHeld := hNew
    clear hNew
    try simp only [Act.put, List.setIfInBounds_toArray, List.set_cons_zero, List.set_cons_succ]
    refine takeH (i := 2) (v := ?_) rfl rfl (by kernel_rfl) (by kernel_rfl) (by kernel_rfl) (fun _ _ _ h => h) (by rfl) ?_ (by assumption) ?_
    rotate_left 1
    · intro w hSw
      (try dsimp only at hSw)
      go_simp
      try with_reducible rfl
    try simp only [List.setIfInBounds_toArray, List.set_cons_zero, List.set_cons_succ]
    refine skipH (i := 3) rfl rfl (by kernel_rfl) (by kernel_rfl) (by kernel_rfl) (fun _ _ _ h => h) (by rfl) (by assumption) ?_
    try simp only [List.setIfInBounds_toArray, List.set_cons_zero, List.set_cons_succ]
    refine skipH (i := 4) rfl rfl (by kernel_rfl) (by kernel_rfl) (by kernel_rfl) (fun _ _ _ h => h) (by rfl) (by assumption) ?_
    try simp only [List.setIfInBounds_toArray, List.set_cons_zero, List.set_cons_succ]
    refine takeH (i := 5) (v := ?_) rfl rfl (by kernel_rfl) (by kernel_rfl) (by kernel_rfl) (fun _ _ _ h => h) (by rfl) ?_ (by assumption) ?_
    rotate_left 1
    · intro w hSw
      (try dsimp only at hSw)
      go_simp
      try with_reducible rfl
    try simp only [List.setIfInBounds_toArray, List.set_cons_zero, List.set_cons_succ]
    refine takeH (i := 6) (v := ?_) rfl rfl (by kernel_rfl) (by kernel_rfl) (by kernel_rfl) (fun _ _ _ h => h) (by rfl) ?_ (by assumption) ?_
    rotate_left 1
    · intro w hSw
      (try dsimp only at hSw)
      go_simp
      try with_reducible rfl
    try simp only [List.setIfInBounds_toArray, List.set_cons_zero, List.set_cons_succ]
    refine skipH (i := 7) rfl rfl (by kernel_rfl) (by kernel_rfl) (by kernel_rfl) (fun _ _ _ h => h) (by rfl) (by assumption) ?_
    try simp only [List.setIfInBounds_toArray, List.set_cons_zero, List.set_cons_succ]
    refine skipH (i := 8) rfl rfl (by kernel_rfl) (by kernel_rfl) (by kernel_rfl) (fun _ _ _ h => h) (by rfl) (by assumption) ?_
    try simp only [List.setIfInBounds_toArray, List.set_cons_zero, List.set_cons_succ]
    refine skipH (i := 9) rfl rfl (by kernel_rfl) (by kernel_rfl) (by kernel_rfl) (fun _ _ _ h => h) (by rfl) (by assumption) ?_
    try simp only [List.setIfInBounds_toArray, List.set_cons_zero, List.set_cons_succ]
    refine skipH (i := 10) rfl rfl (by kernel_rfl) (by kernel_rfl) (by kernel_rfl) (fun _ _ _ h => h) (by rfl) (by assumption) ?_
    try simp only [List.setIfInBounds_toArray, List.set_cons_zero, List.set_cons_succ]
    refine takeH (i := 11) (v := ?_) rfl rfl (by kernel_rfl) (by kernel_rfl) (by kernel_rfl) (fun _ _ _ h => h) (by rfl) ?_ (by assumption) ?_
    rotate_left 1
    · intro w hSw
      (try dsimp only at hSw)
      go_simp
      try with_reducible rfl
    try simp only [List.setIfInBounds_toArray, List.set_cons_zero, List.set_cons_succ]
    refine takeH (i := 12) (v := ?_) rfl rfl (by kernel_rfl) (by kernel_rfl) (by kernel_rfl) (fun _ _ _ h => h) (by rfl) ?_ (by assumption) ?_
    rotate_left 1
    · intro w hSw
      (try dsimp only at hSw)
      go_simp
      try with_reducible rfl
    try simp only [List.setIfInBounds_toArray, List.set_cons_zero, List.set_cons_succ]
    refine wpAnyH_done (by kernel_rfl) ?_ _
    have HZ := Lib.hid hHeld.2.out.2.2
    clear hHeld
    go_wp2_with fail
    go_ret
    exact ⟨ret_bool HX.out, HZ.out⟩
  | true =>
    cases hr : rtOk (f, b, P, l, M) with
    | false =>
      have HX := Lib.hid (show false = x by rw [← KX.out, clFits_no2 hr])
      refine wp_region_held_drew (S := fun W => ((W.cell? ⟨w.heap.size, 0, none⟩ = some (.int .i64 u.i) ∧ W.cell? ⟨w.heap.size, 1, none⟩ = some (.int .i64 u.n) ∧ W.cell? ⟨w.heap.size, 2, none⟩ = some (.int .i64 u.f) ∧ W.cell? ⟨w.heap.size, 3, none⟩ = some (.int .i64 u.b) ∧ W.cell? ⟨w.heap.size, 4, none⟩ = some (.bool u.x) ∧ W.cell? ⟨w.heap.size, 5, none⟩ = some (.int .i64 u.l) ∧ W.cell? ⟨w.heap.size, 6, none⟩ = some (.int .i64 u.m) ∧ W.cell? ⟨w.heap.size, 7, none⟩ = some (.int .i64 u.k)) ∧ (W.cell? ⟨w.heap.size + 1, 0, none⟩ = some (.int .i64 f) ∧ W.cell? ⟨w.heap.size + 1, 1, none⟩ = some (.int .i64 b) ∧ W.cell? ⟨w.heap.size + 1, 2, none⟩ = some (.slice a P.length c) ∧ W.cell? ⟨w.heap.size + 1, 3, none⟩ = some (.int .i64 l) ∧ W.cell? ⟨w.heap.size + 1, 4, none⟩ = some (.slice d M.length e))) ∧ Hid (RtM W a c P d e M ∧ EV W p ∧ Below w.heap.size w W)) (by kernel_rfl) ?_ (fun hHeld => ?_)
      · exact ⟨⟨H0.out.1.z8.1, H0.out.2.1.1⟩, Lib.hid ⟨H0.out.2.2.1.drew, HE.out, H0.out.2.2.2.drew⟩⟩
      refine takeH (i := 0) (v := ?_) rfl rfl (by kernel_rfl) (by kernel_rfl) (by kernel_rfl) (fun _ _ _ h => h) (by rfl) ?_ (by assumption) ?_
      rotate_left 1
      · intro w hSw
        (try dsimp only at hSw)
        go_simp
        try with_reducible rfl
      try simp only [List.setIfInBounds_toArray, List.set_cons_zero, List.set_cons_succ]
      refine wpAnyH_ready (rs := [1]) (by kernel_rfl) (by simp) ?_
      refine AllReadyH.cons rfl (fun K hK => ?_) (AllReadyH.nil)
      go_simp
      refine (iclo_is u ho _).mono ?_
      rintro en w1 ⟨rfl, b1⟩
      go_wp2_with fail
      refine hK.out _ _ ?_ (fun hNew => ?_)
      · exact ⟨⟨⟨cell_later b1 hHeld.1.1.1, cell_later b1 hHeld.1.1.2.1, cell_later b1 hHeld.1.1.2.2.1, cell_later b1 hHeld.1.1.2.2.2.1, cell_later b1 hHeld.1.1.2.2.2.2.1, cell_later b1 hHeld.1.1.2.2.2.2.2.1, cell_later b1 hHeld.1.1.2.2.2.2.2.2.1, cell_later b1 hHeld.1.1.2.2.2.2.2.2.2⟩, ⟨cell_later b1 hHeld.1.2.1, cell_later b1 hHeld.1.2.2.1, cell_later b1 hHeld.1.2.2.2.1, cell_later b1 hHeld.1.2.2.2.2.1, cell_later b1 hHeld.1.2.2.2.2.2⟩⟩, Lib.hid ⟨hHeld.2.out.1.below b1, hHeld.2.out.2.1.below b1, next hHeld.2.out.2.2 b1⟩⟩
      clear hK K hHeld
      have hHeld := hNew
      clear hNew
      try simp only [Act.put, List.setIfInBounds_toArray, List.set_cons_zero, List.set_cons_succ]
      refine takeH (i := 2) (v := ?_) rfl rfl (by kernel_rfl) (by kernel_rfl) (by kernel_rfl) (fun _ _ _ h => h) (by rfl) ?_ (by assumption) ?_
      rotate_left 1
      · intro w hSw
        (try dsimp only at hSw)
        go_simp
        try with_reducible rfl
      try simp only [List.setIfInBounds_toArray, List.set_cons_zero, List.set_cons_succ]
      refine takeH (i := 3) (v := ?_) rfl rfl (by kernel_rfl) (by kernel_rfl) (by kernel_rfl) (fun _ _ _ h => h) (by rfl) ?_ (by assumption) ?_
      rotate_left 1
      · intro w hSw
        (try dsimp only at hSw)
        go_simp
        try with_reducible rfl
      try simp only [List.setIfInBounds_toArray, List.set_cons_zero, List.set_cons_succ]
      refine wpAnyH_ready (rs := [4]) (by kernel_rfl) (by simp) ?_
      refine AllReadyH.cons rfl (fun K hK => ?_) (AllReadyH.nil)
      go_simp
      refine (riok_is f b a c P l d e M hr _ p hHeld.2.out.1 hHeld.2.out.2.1).mono ?_
      rintro en w4 ⟨rfl, b4⟩
      go_wp2_with fail
      refine hK.out _ _ ?_ (fun hNew => ?_)
      · exact ⟨⟨⟨cell_later b4 hHeld.1.1.1, cell_later b4 hHeld.1.1.2.1, cell_later b4 hHeld.1.1.2.2.1, cell_later b4 hHeld.1.1.2.2.2.1, cell_later b4 hHeld.1.1.2.2.2.2.1, cell_later b4 hHeld.1.1.2.2.2.2.2.1, cell_later b4 hHeld.1.1.2.2.2.2.2.2.1, cell_later b4 hHeld.1.1.2.2.2.2.2.2.2⟩, ⟨cell_later b4 hHeld.1.2.1, cell_later b4 hHeld.1.2.2.1, cell_later b4 hHeld.1.2.2.2.1, cell_later b4 hHeld.1.2.2.2.2.1, cell_later b4 hHeld.1.2.2.2.2.2⟩⟩, Lib.hid ⟨hHeld.2.out.1.below b4, hHeld.2.out.2.1.below b4, next hHeld.2.out.2.2 b4⟩⟩
      clear hK K hHeld
      have hHeld := hNew
      clear hNew
      try simp only [Act.put, List.setIfInBounds_toArray, List.set_cons_zero, List.set_cons_succ]
      refine takeH (i := 5) (v := ?_) rfl rfl (by kernel_rfl) (by kernel_rfl) (by kernel_rfl) (fun _ _ _ h => h) (by rfl) ?_ (by assumption) ?_
      rotate_left 1
      · intro w hSw
        (try dsimp only at hSw)
        go_simp
        try with_reducible rfl
      try simp only [List.setIfInBounds_toArray, List.set_cons_zero, List.set_cons_succ]
      refine takeH (i := 6) (v := ?_) rfl rfl (by kernel_rfl) (by kernel_rfl) (by kernel_rfl) (fun _ _ _ h => h) (by rfl) ?_ (by assumption) ?_
      rotate_left 1
      · intro w hSw
        (try dsimp only at hSw)
        go_simp
        try with_reducible rfl
      try simp only [List.setIfInBounds_toArray, List.set_cons_zero, List.set_cons_succ]
      refine skipH (i := 7) rfl rfl (by kernel_rfl) (by kernel_rfl) (by kernel_rfl) (fun _ _ _ h => h) (by rfl) (by assumption) ?_
      try simp only [List.setIfInBounds_toArray, List.set_cons_zero, List.set_cons_succ]
      refine skipH (i := 8) rfl rfl (by kernel_rfl) (by kernel_rfl) (by kernel_rfl) (fun _ _ _ h => h) (by rfl) (by assumption) ?_
      try simp only [List.setIfInBounds_toArray, List.set_cons_zero, List.set_cons_succ]
      refine skipH (i := 9) rfl rfl (by kernel_rfl) (by kernel_rfl) (by kernel_rfl) (fun _ _ _ h => h) (by rfl) (by assumption) ?_
      try simp only [List.setIfInBounds_toArray, List.set_cons_zero, List.set_cons_succ]
      refine skipH (i := 10) rfl rfl (by kernel_rfl) (by kernel_rfl) (by kernel_rfl) (fun _ _ _ h => h) (by rfl) (by assumption) ?_
      try simp only [List.setIfInBounds_toArray, List.set_cons_zero, List.set_cons_succ]
      refine takeH (i := 11) (v := ?_) rfl rfl (by kernel_rfl) (by kernel_rfl) (by kernel_rfl) (fun _ _ _ h => h) (by rfl) ?_ (by assumption) ?_
      rotate_left 1
      · intro w hSw
        (try dsimp only at hSw)
        go_simp
        try with_reducible rfl
      try simp only [List.setIfInBounds_toArray, List.set_cons_zero, List.set_cons_succ]
      refine takeH (i := 12) (v := ?_) rfl rfl (by kernel_rfl) (by kernel_rfl) (by kernel_rfl) (fun _ _ _ h => h) (by rfl) ?_ (by assumption) ?_
      rotate_left 1
      · intro w hSw
        (try dsimp only at hSw)
        go_simp
        try with_reducible rfl
      try simp only [List.setIfInBounds_toArray, List.set_cons_zero, List.set_cons_succ]
      refine wpAnyH_done (by kernel_rfl) ?_ _
      have HZ := Lib.hid hHeld.2.out.2.2
      clear hHeld
      go_wp2_with fail
      go_ret
      exact ⟨ret_bool HX.out, HZ.out⟩
    | true =>
      have HX := Lib.hid (show fitsC u (f, b, P, l, M) = x by rw [← KX.out, clFits_yes ho hr])
      have HG := Lib.hid ((rtOk_iff _).1 hr)
      obtain ⟨T, V, F, hC⟩ := cond_any ho
      have HC := Lib.hid hC
      have hfind := hC.find
      have hgoes := hC.goes
      clear hC
      refine wp_region_held_drew (S := fun W => ((W.cell? ⟨w.heap.size, 0, none⟩ = some (.int .i64 u.i) ∧ W.cell? ⟨w.heap.size, 1, none⟩ = some (.int .i64 u.n) ∧ W.cell? ⟨w.heap.size, 2, none⟩ = some (.int .i64 u.f) ∧ W.cell? ⟨w.heap.size, 3, none⟩ = some (.int .i64 u.b) ∧ W.cell? ⟨w.heap.size, 4, none⟩ = some (.bool u.x) ∧ W.cell? ⟨w.heap.size, 5, none⟩ = some (.int .i64 u.l) ∧ W.cell? ⟨w.heap.size, 6, none⟩ = some (.int .i64 u.m) ∧ W.cell? ⟨w.heap.size, 7, none⟩ = some (.int .i64 u.k)) ∧ (W.cell? ⟨w.heap.size + 1, 0, none⟩ = some (.int .i64 f) ∧ W.cell? ⟨w.heap.size + 1, 1, none⟩ = some (.int .i64 b) ∧ W.cell? ⟨w.heap.size + 1, 2, none⟩ = some (.slice a P.length c) ∧ W.cell? ⟨w.heap.size + 1, 3, none⟩ = some (.int .i64 l) ∧ W.cell? ⟨w.heap.size + 1, 4, none⟩ = some (.slice d M.length e))) ∧ Hid (RtM W a c P d e M ∧ EV W p ∧ Below w.heap.size w W)) (by kernel_rfl) ?_ (fun hHeld => ?_)
      · exact ⟨⟨H0.out.1.z8.1, H0.out.2.1.1⟩, Lib.hid ⟨H0.out.2.2.1.drew, HE.out, H0.out.2.2.2.drew⟩⟩
      refine takeH (i := 0) (v := ?_) rfl rfl (by kernel_rfl) (by kernel_rfl) (by kernel_rfl) (fun _ _ _ h => h) (by rfl) ?_ (by assumption) ?_
      rotate_left 1
      · intro w hSw
        (try dsimp only at hSw)
        go_simp
        try with_reducible rfl
      try simp only [List.setIfInBounds_toArray, List.set_cons_zero, List.set_cons_succ]
      refine wpAnyH_ready (rs := [1]) (by kernel_rfl) (by simp) ?_
      refine AllReadyH.cons rfl (fun K hK => ?_) (AllReadyH.nil)
      go_simp
      refine (iclo_is u ho _).mono ?_
      rintro en w1 ⟨rfl, b1⟩
      go_wp2_with fail
      refine hK.out _ _ ?_ (fun hNew => ?_)
      · exact ⟨⟨⟨cell_later b1 hHeld.1.1.1, cell_later b1 hHeld.1.1.2.1, cell_later b1 hHeld.1.1.2.2.1, cell_later b1 hHeld.1.1.2.2.2.1, cell_later b1 hHeld.1.1.2.2.2.2.1, cell_later b1 hHeld.1.1.2.2.2.2.2.1, cell_later b1 hHeld.1.1.2.2.2.2.2.2.1, cell_later b1 hHeld.1.1.2.2.2.2.2.2.2⟩, ⟨cell_later b1 hHeld.1.2.1, cell_later b1 hHeld.1.2.2.1, cell_later b1 hHeld.1.2.2.2.1, cell_later b1 hHeld.1.2.2.2.2.1, cell_later b1 hHeld.1.2.2.2.2.2⟩⟩, Lib.hid ⟨hHeld.2.out.1.below b1, hHeld.2.out.2.1.below b1, next hHeld.2.out.2.2 b1⟩⟩
      clear hK K hHeld
      have hHeld := hNew
      clear hNew
      try simp only [Act.put, List.setIfInBounds_toArray, List.set_cons_zero, List.set_cons_succ]
      refine takeH (i := 2) (v := ?_) rfl rfl (by kernel_rfl) (by kernel_rfl) (by kernel_rfl) (fun _ _ _ h => h) (by rfl) ?_ (by assumption) ?_
      rotate_left 1
      · intro w hSw
        (try dsimp only at hSw)
        go_simp
        try with_reducible rfl
      try simp only [List.setIfInBounds_toArray, List.set_cons_zero, List.set_cons_succ]
      refine takeH (i := 3) (v := ?_) rfl rfl (by kernel_rfl) (by kernel_rfl) (by kernel_rfl) (fun _ _ _ h => h) (by rfl) ?_ (by assumption) ?_
      rotate_left 1
      · intro w hSw
        (try dsimp only at hSw)
        go_simp
        try with_reducible rfl
      try simp only [List.setIfInBounds_toArray, List.set_cons_zero, List.set_cons_succ]
      refine wpAnyH_ready (rs := [4]) (by kernel_rfl) (by simp) ?_
      refine AllReadyH.cons rfl (fun K hK => ?_) (AllReadyH.nil)
      go_simp
      refine (riok_is f b a c P l d e M hr _ p hHeld.2.out.1 hHeld.2.out.2.1).mono ?_
      rintro en w4 ⟨rfl, b4⟩
      go_wp2_with fail
      refine hK.out _ _ ?_ (fun hNew => ?_)
      · exact ⟨⟨⟨cell_later b4 hHeld.1.1.1, cell_later b4 hHeld.1.1.2.1, cell_later b4 hHeld.1.1.2.2.1, cell_later b4 hHeld.1.1.2.2.2.1, cell_later b4 hHeld.1.1.2.2.2.2.1, cell_later b4 hHeld.1.1.2.2.2.2.2.1, cell_later b4 hHeld.1.1.2.2.2.2.2.2.1, cell_later b4 hHeld.1.1.2.2.2.2.2.2.2⟩, ⟨cell_later b4 hHeld.1.2.1, cell_later b4 hHeld.1.2.2.1, cell_later b4 hHeld.1.2.2.2.1, cell_later b4 hHeld.1.2.2.2.2.1, cell_later b4 hHeld.1.2.2.2.2.2⟩⟩, Lib.hid ⟨hHeld.2.out.1.below b4, hHeld.2.out.2.1.below b4, next hHeld.2.out.2.2 b4⟩⟩
      clear hK K hHeld
      have hHeld := hNew
      clear hNew
      try simp only [Act.put, List.setIfInBounds_toArray, List.set_cons_zero, List.set_cons_succ]
      refine takeH (i := 5) (v := ?_) rfl rfl (by kernel_rfl) (by kernel_rfl) (by kernel_rfl) (fun _ _ _ h => h) (by rfl) ?_ (by assumption) ?_
      rotate_left 1
      · intro w hSw
        (try dsimp only at hSw)
        go_simp
        try with_reducible rfl
      try simp only [List.setIfInBounds_toArray, List.set_cons_zero, List.set_cons_succ]
      refine takeH (i := 6) (v := ?_) rfl rfl (by kernel_rfl) (by kernel_rfl) (by kernel_rfl) (fun _ _ _ h => h) (by rfl) ?_ (by assumption) ?_
      rotate_left 1
      · intro w hSw
        (try dsimp only at hSw)
        go_simp
        try with_reducible rfl
      try simp only [List.setIfInBounds_toArray, List.set_cons_zero, List.set_cons_succ]
      refine takeH (i := 7) (v := ?_) rfl rfl (by kernel_rfl) (by kernel_rfl) (by kernel_rfl) (fun _ _ _ h => h) (by rfl) ?_ (by assumption) ?_
      rotate_left 1
      · intro w hSw
        (try dsimp only at hSw)
        go_simp
        try with_reducible rfl
      try simp only [List.setIfInBounds_toArray, List.set_cons_zero, List.set_cons_succ]
      refine takeH (i := 9) (v := ?_) rfl rfl (by kernel_rfl) (by kernel_rfl) (by kernel_rfl) (fun _ _ _ h => h) (by rfl) ?_ (by assumption) ?_
      rotate_left 1
      · intro w hSw
        (try dsimp only at hSw)
        go_simp
        try with_reducible rfl
      try simp only [List.setIfInBounds_toArray, List.set_cons_zero, List.set_cons_succ]
      refine wpAnyH_ready (rs := [8]) (by kernel_rfl) (by simp) ?_
      refine AllReadyH.cons rfl (fun K hK => ?_) (AllReadyH.nil)
      go_simp
      refine (HC.out.make _).mono ?_
      rintro en w8 ⟨rfl, b8⟩
      go_wp2_with fail
      refine hK.out _ _ ?_ (fun hNew => ?_)
      · exact ⟨⟨⟨cell_later b8 hHeld.1.1.1, cell_later b8 hHeld.1.1.2.1, cell_later b8 hHeld.1.1.2.2.1, cell_later b8 hHeld.1.1.2.2.2.1, cell_later b8 hHeld.1.1.2.2.2.2.1, cell_later b8 hHeld.1.1.2.2.2.2.2.1, cell_later b8 hHeld.1.1.2.2.2.2.2.2.1, cell_later b8 hHeld.1.1.2.2.2.2.2.2.2⟩, ⟨cell_later b8 hHeld.1.2.1, cell_later b8 hHeld.1.2.2.1, cell_later b8 hHeld.1.2.2.2.1, cell_later b8 hHeld.1.2.2.2.2.1, cell_later b8 hHeld.1.2.2.2.2.2⟩⟩, Lib.hid ⟨hHeld.2.out.1.below b8, hHeld.2.out.2.1.below b8, next hHeld.2.out.2.2 b8⟩⟩
      clear hK K hHeld
      have hHeld := hNew
      clear hNew
      try simp only [Act.put, List.setIfInBounds_toArray, List.set_cons_zero, List.set_cons_succ]
      refine wpAnyH_ready (rs := [10]) (by kernel_rfl) (by simp) ?_
      refine AllReadyH.cons rfl (fun K hK => ?_) (AllReadyH.nil)
      go_simp
      refine (HC.out.fits f b a c P l d e M x _ p HX.out HG.out hHeld.2.out.1 hHeld.2.out.2.1).mono ?_
      rintro en w10 ⟨rfl, b10⟩
      go_wp2_with fail
      refine hK.out _ _ ?_ (fun hNew => ?_)
      · exact ⟨⟨⟨cell_later b10 hHeld.1.1.1, cell_later b10 hHeld.1.1.2.1, cell_later b10 hHeld.1.1.2.2.1, cell_later b10 hHeld.1.1.2.2.2.1, cell_later b10 hHeld.1.1.2.2.2.2.1, cell_later b10 hHeld.1.1.2.2.2.2.2.1, cell_later b10 hHeld.1.1.2.2.2.2.2.2.1, cell_later b10 hHeld.1.1.2.2.2.2.2.2.2⟩, ⟨cell_later b10 hHeld.1.2.1, cell_later b10 hHeld.1.2.2.1, cell_later b10 hHeld.1.2.2.2.1, cell_later b10 hHeld.1.2.2.2.2.1, cell_later b10 hHeld.1.2.2.2.2.2⟩⟩, Lib.hid ⟨hHeld.2.out.1.below b10, hHeld.2.out.2.1.below b10, next hHeld.2.out.2.2 b10⟩⟩
      clear hK K hHeld
      have hHeld := hNew
      clear hNew
      try simp only [Act.put, List.setIfInBounds_toArray, List.set_cons_zero, List.set_cons_succ]
      refine takeH (i := 11) (v := ?_) rfl rfl (by kernel_rfl) (by kernel_rfl) (by kernel_rfl) (fun _ _ _ h => h) (by rfl) ?_ (by assumption) ?_
      rotate_left 1
      · intro w hSw
        (try dsimp only at hSw)
        go_simp
        try with_reducible rfl
      try simp only [List.setIfInBounds_toArray, List.set_cons_zero, List.set_cons_succ]
      refine takeH (i := 12) (v := ?_) rfl rfl (by kernel_rfl) (by kernel_rfl) (by kernel_rfl) (fun _ _ _ h => h) (by rfl) ?_ (by assumption) ?_
      rotate_left 1
      · intro w hSw
        (try dsimp only at hSw)
        go_simp
        try with_reducible rfl
      try simp only [List.setIfInBounds_toArray, List.set_cons_zero, List.set_cons_succ]
      refine wpAnyH_done (by kernel_rfl) ?_ _
      have HZ := Lib.hid hHeld.2.out.2.2
      clear hHeld
      go_wp2_with fail
      go_ret
      exact ⟨rfl, HZ.out⟩
end Go.Proofs.YtioppkalehnoaaaDoor
