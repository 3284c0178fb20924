/-
  Halves by the program: the caller of the iterator.
-/
import Derived.Test.YtnnmgbgkgnejlaaIterY
namespace Go.Proofs.Ytnnmgbgkgnejlaa
open Go.RowKit Go.Shelf
set_option linter.unusedSimpArgs false
attribute [local go_sem] Oper.semAt_some

theorem CK.put {w W : World} (l : Nat) (o o' : Obj) (_ : w.heap.size ≤ l) (h : W.heap[l]? = some o) (hc : o.isCells = false) (_ : o.isWalk = false) : CK W (W.putObj l o') :=
  fun _ _ _ e => cell_kept e (grownBy_putObj' W l o') (fun r k => by cases k; exact ⟨o, h, hc⟩)

theorem halves_stops (n Bn : Nat) (f b : Int) (w : World) (r0 : At w Bn f b) :
    SeqStopsK Fence.wide n Try.prog 33 #[.pointer (some ⟨Bn, 0, none⟩)] encH CK (fun ys => ys = halvesL f b)
      (fun pre => halfB f b = true ∧ (pre = [(false, f, b + 1)] ∨ pre = [(false, f, b + 1), (true, f + sz (b + 1), b + 1)])) 2 w := fun l J Jx W hW hJ _ hY h0 => by
  have r1 := r0.below hW
  by_cases hn : halfB f b = true
  · exact halves1_yes n l Bn f b J Jx W hJ hY r1 hn h0
  · exact halves1_no n l Bn f b J Jx W hJ r1 (by simpa using hn) h0

theorem At.kept {A B : World} {row : Option Nat} {R : Nat} {x y : Int} (h : At A R x y) (hg : A.grownBy B row) (hr : ∀ r, row = some r → ∃ o : Obj, A.heap[r]? = some o ∧ o.isCells = false) : At B R x y :=
  ⟨cell_kept h.1 hg hr, cell_kept h.2.1 hg hr, (frozen_kept h.1 hg hr).trans h.2.2.1, (frozen_kept h.2.1 hg hr).trans h.2.2.2⟩

theorem box_new (w : World) (v : Value) (t : TypeId) : (w.alloc (.cells #[v] t)).cell? ⟨w.heap.size, 0, none⟩ = some v ∧ (w.alloc (.cells #[v] t)).frozen? ⟨w.heap.size, 0, none⟩ = false := ⟨by simp, by simp⟩

/-- between two rounds -/
def HI (w : World) (u : Bool) (pre : List (Bool × Int × Int)) (W : World) : Prop :=
  ((∀ y ∈ pre, y.1 ≠ u) ∧ W.cell? ⟨w.heap.size + 1, 0, none⟩ = some (.bool u) ∧ At W (w.heap.size + 1 + 1) 0 0 ∧ W.cell? ⟨w.heap.size + 1 + 1 + 1, 0, none⟩ = some (.bool false) ∧ W.frozen? ⟨w.heap.size + 1 + 1 + 1, 0, none⟩ = false) ∧ Below w.heap.size w W
/-- a round has returned -/
def HX (w : World) (u : Bool) (c : Code) (pre : List (Bool × Int × Int)) (W : World) : Prop :=
  (c = .ret ∧ ∃ x, pre.getLast? = some x ∧ x.1 = u ∧ At W (w.heap.size + 1 + 1) x.2.1 x.2.2 ∧ W.cell? ⟨w.heap.size + 1 + 1 + 1, 0, none⟩ = some (.bool true)) ∧ Below w.heap.size w W

set_option maxRecDepth 100000 in
set_option maxHeartbeats 2000000 in
theorem rhalf_in (f b : Int) (u : Bool) (w : World) :
    CallsIn Fence.wide 10 Try.prog 10 #[.agg #[.int .i64 f, .int .i64 b], .bool u] w fun e w' => e = .returned (halfV f b u) ∧ Below w.heap.size w w' := by
  refine callsIn_of_wp_marks Try.func10 rfl trivial ?_ rfl
  simp only [Try.ntmps10, List.size_toArray, List.length_cons, List.length_nil, Nat.reduceAdd, Nat.reduceSub, Array.replicate_succ, Array.replicate_zero, List.push_toArray, List.append_toArray, List.nil_append, List.cons_append]
  gi_wp2_with fail
  refine ⟨trivial, (callsIn_wide.2 (halves_any f b _)).mono ?_⟩
  rintro e w1 ⟨rfl, rfl⟩
  gi_wp2_with fail
  have rX := At.new ((((w.alloc (.cells #[.int .i64 f, .int .i64 b] 25)).alloc (.cells #[.bool u] 4)).alloc (.cells #[.int .i64 0, .int .i64 0] 25)).alloc (.cells #[.bool false] 4)) f b 25
  have rR := ((At.new ((w.alloc (.cells #[.int .i64 f, .int .i64 b] 25)).alloc (.cells #[.bool u] 4)) 0 0 25).alloc (.cells #[.bool false] 4)).alloc (.cells #[.int .i64 f, .int .i64 b] 25)
  have hB0 : Below w.heap.size w (((((w.alloc (.cells #[.int .i64 f, .int .i64 b] 25)).alloc (.cells #[.bool u] 4)).alloc (.cells #[.int .i64 0, .int .i64 0] 25)).alloc (.cells #[.bool false] 4)).alloc (.cells #[.int .i64 f, .int .i64 b] 25)) :=
    (((((Below.refl _ w).alloc (Nat.le_refl _) _).alloc (by simp) _).alloc (by simp; omega) _).alloc (by simp; omega) _).alloc (by simp; omega) _
  have cu1 := box_new (w.alloc (.cells #[.int .i64 f, .int .i64 b] 25)) (.bool u) 4
  have ck1 := box_new (((w.alloc (.cells #[.int .i64 f, .int .i64 b] 25)).alloc (.cells #[.bool u] 4)).alloc (.cells #[.int .i64 0, .int .i64 0] 25)) (.bool false) 4
  simp only [World.size_alloc] at cu1 ck1
  have cu := cellA (cellA (cellA cu1.1 (.cells #[.int .i64 0, .int .i64 0] 25)) (.cells #[.bool false] 4)) (.cells #[.int .i64 f, .int .i64 b] 25)
  have ck := cellA ck1.1 (.cells #[.int .i64 f, .int .i64 b] 25)
  have fk := frozA ck1.1 ck1.2 (.cells #[.int .i64 f, .int .i64 b] 25)
  clear cu1 ck1
  simp only [World.size_alloc] at rX rR
  have hsz : (((((w.alloc (.cells #[.int .i64 f, .int .i64 b] 25)).alloc (.cells #[.bool u] 4)).alloc (.cells #[.int .i64 0, .int .i64 0] 25)).alloc (.cells #[.bool false] 4)).alloc (.cells #[.int .i64 f, .int .i64 b] 25)).heap.size = w.heap.size + 5 := by simp
  generalize (((((w.alloc (.cells #[.int .i64 f, .int .i64 b] 25)).alloc (.cells #[.bool u] 4)).alloc (.cells #[.int .i64 0, .int .i64 0] 25)).alloc (.cells #[.bool false] 4)).alloc (.cells #[.int .i64 f, .int .i64 b] 25)) = W0 at *
  refine wpIn_rangeFunc_ownH rfl (by omega) (gf := 33) (lb := #[.pointer (some ⟨w.heap.size + 1 + 1 + 1 + 1, 0, none⟩)]) rfl trivial (enters_of Try.func33 (by kernel_rfl) rfl)
    (halves_stops _ (w.heap.size + 1 + 1 + 1 + 1) f b W0 rX) CK.trans (fun W l o o' h1 h2 h3 h4 => CK.put l o o' h1 h2 h3 h4) (Below.refl _ _) (fun _ => rfl)
    (HI w u) (HX w u)
    (OwnFrom.and (Own.from (fun s A B row hs hg hr => ⟨hs.1, cell_kept hs.2.1 hg hr, hs.2.2.1.kept hg hr, cell_kept hs.2.2.2.1 hg hr, (frozen_kept hs.2.2.2.1 hg hr).trans hs.2.2.2.2⟩) _) (ownFrom_below (Nat.le_refl _) (by omega)))
    (fun c => OwnFrom.and (Own.from (fun s A B row hs hg hr => ⟨hs.1, by obtain ⟨x, h1, h2, h3, h4⟩ := hs.2; exact ⟨x, h1, h2, h3.kept hg hr, cell_kept h4 hg hr⟩⟩) _) (ownFrom_below (Nat.le_refl _) (by omega)))
    ⟨⟨(fun y hy => (by cases hy)), cu, rR, ck, fk⟩, hB0⟩
    (fun x a' W => ∃ Bx, w.heap.size + 3 < Bx ∧ At W Bx x.2.1 x.2.2 ∧ a' = { tmps := #[.agg #[.int .i64 f, .int .i64 b], .bool u, .pointer (some ⟨w.heap.size, 0, none⟩), .pointer (some ⟨w.heap.size + 1, 0, none⟩), .pointer (some ⟨w.heap.size + 1 + 1, 0, none⟩), .pointer (some ⟨w.heap.size + 1 + 1 + 1, 0, none⟩), .bool x.1, .pointer (some ⟨Bx, 0, none⟩), .agg #[.int .i64 f, .int .i64 b], .func (.func 33) #[] #[.pointer (some ⟨w.heap.size + 1 + 1 + 1 + 1, 0, none⟩)], .bool x.1, .agg #[.int .i64 x.2.1, .int .i64 x.2.2], undef, undef, undef, undef, undef], defers := [] })
    (fun x a' _ X Y row hs hg hr => by obtain ⟨Bx, h1, h2, h3⟩ := hs; exact ⟨Bx, h1, h2.kept hg (fun r e => (hr r e).2), h3⟩)
    ?assign ?body ?done ?stop
  case assign =>
    rintro l pre x W K ⟨⟨hp, hu, hR, hk, hf⟩, hB⟩ hK
    have hz : w.heap.size + 3 < W.heap.size := World.block_lt_of_cell? W _ hk
    obtain ⟨x1, x2, x3⟩ := x
    simp only [encH]
    gi_wp2
    exact hK _ _ ((KeepsOthers.alloc _ _).from _) (CK.below ((Below.refl _ W).alloc (Nat.le_refl _) _)) ⟨⟨hp, cellA hu _, hR.alloc _, cellA hk _, frozA hk hf _⟩, hB.alloc hB.size _⟩ ⟨W.heap.size, hz, At.new W _ _ _, rfl⟩
  case body =>
    rintro l pre x a' W hl ⟨r, hr⟩ ⟨⟨hp, hu, hR, hk, hf⟩, hB⟩ ⟨Bx, hBx, rB, rfl⟩ hlt
    obtain ⟨x1, x2, x3⟩ := x
    obtain ⟨y0, y1, _, _⟩ := id rB
    obtain ⟨k0, k1, k2, k3⟩ := id hR
    by_cases hxu : x1 = u
    · subst hxu
      have hxu' : (x1 == x1) = true := by simp
      clear hp
      have q1 := hR.put x2 x3
      have q2 := q1.far ⟨w.heap.size + 1 + 1 + 1, 0, none⟩ (.bool true) (by simp)
      have q3 : (((W.setCell ⟨w.heap.size + 1 + 1, 0, none⟩ (.int .i64 x2)).setCell ⟨w.heap.size + 1 + 1, 1, none⟩ (.int .i64 x3)).setCell ⟨w.heap.size + 1 + 1 + 1, 0, none⟩ (.bool true)).cell? ⟨w.heap.size + 1 + 1 + 1, 0, none⟩ = some (.bool true) :=
        World.cell?_setCell_same' _ _ _ (by rw [World.cell?_setCell_far _ _ _ _ (by simp), World.cell?_setCell_far _ _ _ _ (by simp), hk]; rfl)
      have q4 := (below_set2 hB (.int .i64 x2) (.int .i64 x3) (show w.heap.size ≤ w.heap.size + 1 + 1 by omega)).setCell (p := ⟨w.heap.size + 1 + 1 + 1, 0, none⟩) (show w.heap.size ≤ w.heap.size + 1 + 1 + 1 by omega) (.bool true)
      have Q := Lib.hid (And.intro q2 (And.intro q3 q4))
      clear q1 q2 q3 q4
      gi_wp2
      exact ⟨(((KeepsOthers.setCell _ _ _).trans (KeepsOthers.setCell _ _ _)).trans (KeepsOthers.setCell _ _ _)).from _, ⟨rfl, (x1, x2, x3), by simp, rfl, Q.out.1, Q.out.2.1⟩, Q.out.2.2⟩
    · have hxu' : (x1 == u) = false := by simp [hxu]
      gi_wp2
      exact ⟨KeepsFrom.refl _ _, CK.refl _, ⟨⟨fun y hy => (List.mem_append.1 hy).elim (hp y) (fun e => by simp at e; subst e; exact hxu), hu, hR, hk, hf⟩, hB⟩⟩
  case done =>
    rintro D ys W hD rfl ⟨⟨hp, hu, hR, hk, hf⟩, hB⟩ hK
    by_cases hn : halfB f b = true
    · exfalso
      have e : halvesL f b = [(false, f, b + 1), (true, f + sz (b + 1), b + 1)] := by simp [halvesL, hn]
      rw [e] at hp
      cases u
      · exact hp _ (List.mem_cons_self ..) rfl
      · exact hp _ (List.mem_cons_of_mem _ (List.mem_cons_self ..)) rfl
    · have hv : halfV f b u = .tuple #[.agg #[.int .i64 0, .int .i64 0], .bool false] := by simp [halfV, hn]
      have HV := Lib.hid hv
      clear hv hn hp
      obtain ⟨k0, k1, k2, k3⟩ := id hR
      gi_wp2
      have q2 := (hR.put 0 0).far ⟨w.heap.size + 1 + 1 + 1, 0, none⟩ (.bool false) (by simp)
      have q3 : (((W.setCell ⟨w.heap.size + 1 + 1, 0, none⟩ (.int .i64 0)).setCell ⟨w.heap.size + 1 + 1, 1, none⟩ (.int .i64 0)).setCell ⟨w.heap.size + 1 + 1 + 1, 0, none⟩ (.bool false)).cell? ⟨w.heap.size + 1 + 1 + 1, 0, none⟩ = some (.bool false) :=
        World.cell?_setCell_same' _ _ _ (by rw [World.cell?_setCell_far _ _ _ _ (by simp), World.cell?_setCell_far _ _ _ _ (by simp), hk]; rfl)
      have q4 := (below_set2 hB (.int .i64 0) (.int .i64 0) (show w.heap.size ≤ w.heap.size + 1 + 1 by omega)).setCell (p := ⟨w.heap.size + 1 + 1 + 1, 0, none⟩) (show w.heap.size ≤ w.heap.size + 1 + 1 + 1 by omega) (.bool false)
      have hK' := (((KeepsOthers.setCell W ⟨w.heap.size + 1 + 1, 0, none⟩ (.int .i64 0)).trans (KeepsOthers.setCell _ ⟨w.heap.size + 1 + 1, 1, none⟩ (.int .i64 0))).trans (KeepsOthers.setCell _ ⟨w.heap.size + 1 + 1 + 1, 0, none⟩ (.bool false))).same D _ hK rfl
      generalize ((W.setCell ⟨w.heap.size + 1 + 1, 0, none⟩ (.int .i64 0)).setCell ⟨w.heap.size + 1 + 1, 1, none⟩ (.int .i64 0)).setCell ⟨w.heap.size + 1 + 1 + 1, 0, none⟩ (.bool false) = V at *
      refine ⟨by simp, .inl ⟨_, _, rfl, run_takeDeferred hK', ?_⟩⟩
      obtain ⟨e0, e1, _, _⟩ := q2.kept (grownBy_putObj' V D (.deferred none)) (fun r e => by cases e; exact ⟨_, hK', rfl⟩)
      have e2 := cell_kept q3 (grownBy_putObj' V D (.deferred none)) (fun r e => by cases e; exact ⟨_, hK', rfl⟩)
      refine ⟨.tuple #[.agg #[.int .i64 0, .int .i64 0], .bool false], ?_, by rw [HV.out], q4.trans (belowK_b (w := w) (Nat.le_refl _) _ D _ _ (by omega) hK' rfl rfl)⟩
      simp [results, Try.f10, go_sem, e0, e1, e2]
  case stop =>
    rintro D c pre W hD hpre ⟨⟨rfl, x, hx1, hx2, hR, hk⟩, hB⟩ hK
    gi_wp2
    have hv : halfV f b u = .tuple #[.agg #[.int .i64 x.2.1, .int .i64 x.2.2], .bool true] := by
      obtain ⟨hn, hpre⟩ := hpre
      rcases hpre with rfl | rfl
      · simp at hx1; subst hx1; subst hx2; simp [halfV, hn, halfF]
      · simp at hx1; subst hx1; subst hx2; simp [halfV, hn, halfF]
    refine ⟨by simp, .inl ⟨_, _, rfl, run_takeDeferred hK, ?_⟩⟩
    obtain ⟨e0, e1, _, _⟩ := hR.kept (grownBy_putObj' W D (.deferred none)) (fun r e => by cases e; exact ⟨_, hK, rfl⟩)
    have e2 := cell_kept hk (grownBy_putObj' W D (.deferred none)) (fun r e => by cases e; exact ⟨_, hK, rfl⟩)
    refine ⟨.tuple #[.agg #[.int .i64 x.2.1, .int .i64 x.2.2], .bool true], ?_, by rw [hv], hB.trans (belowK_b (w := w) (Nat.le_refl _) _ D _ _ (by omega) hK rfl rfl)⟩
    simp [results, Try.f10, go_sem, e0, e1, e2]

theorem rhalf_any (f b : Int) (u : Bool) (w : World) :
    Calls Try.prog 10 #[.agg #[.int .i64 f, .int .i64 b], .bool u] w fun e w' => e = .returned (halfV f b u) ∧ Below w.heap.size w w' :=
  callsIn_wide.1 (rhalf_in f b u w)

theorem halfV_yes {f b : Int} (u : Bool) (h : halfB f b = true) : halfV f b u = .tuple #[.agg #[.int .i64 (halfF f b u), .int .i64 (b + 1)], .bool true] := by simp [halfV, h]
theorem halfV_no {f b : Int} (u : Bool) (h : halfB f b = false) : halfV f b u = .tuple #[.agg #[.int .i64 0, .int .i64 0], .bool false] := by simp [halfV, h]
theorem rhalf_yes {f b : Int} (u : Bool) (h : halfB f b = true) (w : World) :
    Calls Try.prog 10 #[.agg #[.int .i64 f, .int .i64 b], .bool u] w fun e w' => e = .returned (.tuple #[.agg #[.int .i64 (halfF f b u), .int .i64 (b + 1)], .bool true]) ∧ Below w.heap.size w w' := by
  rw [← halfV_yes u h]; exact rhalf_any f b u w
theorem rhalf_no {f b : Int} (u : Bool) (h : halfB f b = false) (w : World) :
    Calls Try.prog 10 #[.agg #[.int .i64 f, .int .i64 b], .bool u] w fun e w' => e = .returned (.tuple #[.agg #[.int .i64 0, .int .i64 0], .bool false]) ∧ Below w.heap.size w w' := by
  rw [← halfV_no u h]; exact rhalf_any f b u w

end Go.Proofs.Ytnnmgbgkgnejlaa
