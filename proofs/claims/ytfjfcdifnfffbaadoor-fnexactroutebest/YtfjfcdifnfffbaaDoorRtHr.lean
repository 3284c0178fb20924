/-
  The heap of a call's own: its variable and its row; Push and Pop.
-/
import Derived.Test.YtfjfcdifnfffbaaDoorRtHq
import Derived.Lib.Builder
namespace Go.Proofs.YtfjfcdifnfffbaaDoor
open Go.RowKit
set_option linter.unusedSimpArgs false
set_option linter.unusedVariables false

/-- the heap's variable H holds the row hv of the places K -/
def HpS (w : World) (R H : Nat) (L : List RV) (hv : Value) (K : List Nat) : Prop := R ≤ H ∧ w.heap[H]? = some (.cells #[hv] 82 (0, 0)) ∧ OwnH w R hv L K
section
variable {w w' : World} {R H : Nat} {L : List RV} {hv : Value} {K : List Nat}
theorem HpS.lt (h : HpS w R H L hv K) : H < w.heap.size := by
  rcases Nat.lt_or_ge H w.heap.size with h' | h'
  · exact h'
  · have := h.2.1; simp [Array.getElem?_eq_none h'] at this
theorem HpS.cell (h : HpS w R H L hv K) : w.cell? ⟨H, 0, none⟩ = some hv := by rw [Lib.cell_of_heap h.2.1]; rfl
theorem HpS.frozen (h : HpS w R H L hv K) : w.frozen? ⟨H, 0, none⟩ = false := Lib.frozen_of_heap h.2.1 0
theorem own_ne {v : Value} {K' : List Nat} (h : w.heap[H]? = some (.cells #[hv] 82 (0, 0))) (ho : OwnH w R v L K') : v.ownBlock ≠ some H := by
  rcases ho.2 with ⟨e0, _⟩ | ⟨g, cap, cur, e0, hb, hg, _⟩
  · rw [e0]; simp [Value.ownBlock]
  · rw [e0]
    intro e
    have e1 : g = H := by simpa [Value.ownBlock] using e
    rw [e1, h] at hg
    simp at hg
theorem HpS.ne (h : HpS w R H L hv K) : hv.ownBlock ≠ some H := own_ne h.2.1 h.2.2
theorem HpS.later (h : HpS w R H L hv K) (k : Below w.heap.size w w') : HpS w' R H L hv K :=
  ⟨h.1, (k.block H h.lt).trans h.2.1, World.ownsRow.kept h.2.2 (row := none) ⟨k.os, k.tape, k.output, k.size, fun i hi _ => k.block i hi⟩ (by cases hv.ownBlock with | none => exact .inl rfl | some k => exact .inr (by simp))⟩
theorem HpS.alloc (h : HpS w R H L hv K) (o : Obj) : HpS (w.alloc o) R H L hv K := h.later ((Below.refl _ _).alloc (Nat.le_refl _) o)
/-- the row is written over where it stands -/
theorem HpS.turn {K' : List Nat} (h : HpS w R H L hv K) (ho : OwnH w' R hv L K') {row : Option Nat} (hr : row = hv.ownBlock) (hg : w.grownBy w' row) : HpS w' R H L hv K' :=
  ⟨h.1, (hg.block H h.lt (fun e => h.ne (by rw [← hr]; exact e.symm))).trans h.2.1, ho⟩
/-- the variable gets another row -/
theorem HpS.set {v : Value} {K' : List Nat} (h : R ≤ H) (hb : w.heap[H]? = some (.cells #[hv] 82 (0, 0))) (ho : OwnH w R v L K') : HpS (w.setCell ⟨H, 0, none⟩ v) R H L v K' := by
  have hne := own_ne hb ho
  refine ⟨h, ?_, ?_⟩
  · simp [World.setCell, Array.getElem?_modify, hb]
  · exact World.ownsRow.kept ho (row := some H) ⟨rfl, rfl, rfl, by simp [World.setCell], fun k _ hk => Below.heap_setCell _ _ _ _ (fun e => hk (by simp [e]))⟩ (Or.inr hne)
end
theorem infoH : (Tryd.prog.info? 85).map (fun i => (i.zero, i.size, i.bytes)) = some (some (.agg #[.int .i64 0, .int .i64 0, .slice none 0 0, .int .i64 0, .slice none 0 0, .int .i64 0]), 6, 80) := by kernel_rfl
theorem At6.new (w : World) (v : RV) (p : Nat) (t : TypeId) : At6 (w.alloc (.cells #[.int .i64 v.f, .int .i64 v.b, .slice v.a v.P.length v.c, .int .i64 v.l, .slice v.d v.M.length v.e, .int .i64 p] t)) w.heap.size 0 v p :=
  ⟨⟨by simp, by simp, by simp, by simp, by simp, by simp⟩, by simp, by simp, by simp, by simp, by simp, by simp⟩
theorem At6.below {w w' : World} {g o : Nat} {v : RV} {p : Nat} (h : At6 w g o v p) (k : Below w.heap.size w w') : At6 w' g o v p := by
  have lt : g < w.heap.size := World.block_lt_of_cell? w _ h.1.1
  obtain ⟨⟨h0, h1, h2, h3, h4, h5⟩, k0, k1, k2, k3, k4, k5⟩ := h
  exact ⟨⟨cell_later k h0, cell_later k h1, cell_later k h2, cell_later k h3, cell_later k h4, cell_later k h5⟩, by rw [k.frozen (p := ⟨g, o, none⟩) lt]; exact k0, by rw [k.frozen (p := ⟨g, o + 1, none⟩) lt]; exact k1, by rw [k.frozen (p := ⟨g, o + 2, none⟩) lt]; exact k2, by rw [k.frozen (p := ⟨g, o + 3, none⟩) lt]; exact k3, by rw [k.frozen (p := ⟨g, o + 4, none⟩) lt]; exact k4, by rw [k.frozen (p := ⟨g, o + 5, none⟩) lt]; exact k5⟩
/-- 'append(h, x)' -/
theorem wp_appH {o : Oper} {act : Act} {w : World} {Kc : Act → World → Prop} {Q : Exit → Act → World → Prop} (s x : Operand)
    (hop : o.op = .call { callee := .builtin .append, args := #[s, x], argTypes := #[82, 82] })
    (R : Nat) (v : Value) (L : List RV) (K : List Nat) (hs : act.eval s = v) (hown : OwnH w R v L K)
    (D p : Nat) (hx : act.eval x = .slice (some ⟨D, 0, none⟩) 1 1) (hN : At6 w D 0 (rvAt L p) p) (hlen : K.length ≤ 2000000) (hR : R ≤ w.heap.size)
    (h : ∀ v' w', OwnH w' R v' L (K ++ [p]) → w.grownBy w' v.ownBlock → Kc (act.put o.dst v') w') : o.wp Tryd.prog act w Kc Q := by
  obtain ⟨i0, hi, hz0, hz1, hz2⟩ := info_parts infoH
  refine wp_append_own w s x 82 hop R 85 i0 (.agg #[.int .i64 0, .int .i64 0, .slice none 0 0, .int .i64 0, .slice none 0 0, .int .i64 0]) 6 80 Tryd.underlying82 hi hz0 hz1 hz2 rfl (by decide) v K.length (cells6 L K) hs hown ⟨D, 0, none⟩ 1 1 ((rvAt L p).six p) hx (six_len _ _) ?_ ?_ (by unfold maxLen; omega) (by omega) hR ?_
  · obtain ⟨⟨h0, h1, h2, h3, h4, h5⟩, _⟩ := hN
    intro j u hu
    match j, hu with
    | 0, hu => simp [RV.six, RV.cells] at hu; subst hu; exact h0
    | 1, hu => simp [RV.six, RV.cells] at hu; subst hu; exact h1
    | 2, hu => simp [RV.six, RV.cells] at hu; subst hu; exact h2
    | 3, hu => simp [RV.six, RV.cells] at hu; subst hu; exact h3
    | 4, hu => simp [RV.six, RV.cells] at hu; subst hu; exact h4
    | 5, hu => simp [RV.six, RV.cells] at hu; subst hu; exact h5
    | n + 6, hu => simp [RV.six, RV.cells] at hu
  · intro u hu
    simp only [RV.six, RV.cells, List.cons_append, List.nil_append, List.mem_cons, List.not_mem_nil, or_false] at hu
    rcases hu with rfl | rfl | rfl | rfl | rfl | rfl <;> rfl
  · intro v' w' h2 h3 _
    exact h v' w' (by rw [OwnH, List.length_append, cells6_app]; simpa [cells6] using h2) h3

theorem asserts (v : Value) (w : World) : (Instr.typeAssert (.iface 85 v) 20 85 true).run Tryd.prog w = .ok (.tuple #[v, .bool true]) w := by kernel_rfl

set_option maxRecDepth 100000 in
set_option maxHeartbeats 4000000 in
theorem hpush_is (R H : Nat) (L : List RV) (hv : Value) (Ks : List Nat) (p : Nat) (w : World) (hS : HpS w R H L hv Ks) (hlen : Ks.length ≤ 2000000) :
    Calls Tryd.prog 161 #[.pointer (some ⟨H, 0, none⟩), .iface 85 (.agg #[.int .i64 (rvAt L p).f, .int .i64 (rvAt L p).b, .slice (rvAt L p).a (rvAt L p).P.length (rvAt L p).c, .int .i64 (rvAt L p).l, .slice (rvAt L p).d (rvAt L p).M.length (rvAt L p).e, .int .i64 p])] w
      fun e w' => e = .returned (.tuple #[]) ∧ (∃ hv', HpS w' R H L hv' (Ks ++ [p])) ∧ Below R w w' := by
  have hsl : ∃ a n c, hv = .slice a n c := by
    rcases hS.2.2.2 with ⟨e0, _⟩ | ⟨g, cap, cur, e0, _⟩
    · exact ⟨_, _, _, e0⟩
    · exact ⟨_, _, _, e0⟩
  obtain ⟨ha, hn, hc, rfl⟩ := hsl
  obtain ⟨v, hv⟩ : ∃ v, rvAt L p = v := ⟨_, rfl⟩
  have HV := Lib.hid hv
  rw [hv]
  have HS1 := Lib.hid (hS.alloc (.cells #[.int .i64 v.f, .int .i64 v.b, .slice v.a v.P.length v.c, .int .i64 v.l, .slice v.d v.M.length v.e, .int .i64 p] 85))
  have HA := Lib.hid (At6.new w v p 85)
  have HB := Lib.hid ((Below.refl w.heap.size w).alloc (Nat.le_refl _) (.cells #[.int .i64 v.f, .int .i64 v.b, .slice v.a v.P.length v.c, .int .i64 v.l, .slice v.d v.M.length v.e, .int .i64 p] 85))
  have hR : R ≤ w.heap.size := by have := hS.lt; have := hS.1; omega
  have hT := asserts
  clear hS hv
  go_enter Tryd.func161, Tryd.ntmps161
  go_wp2_with fail
  generalize w.alloc (.cells #[.int .i64 v.f, .int .i64 v.b, .slice v.a v.P.length v.c, .int .i64 v.l, .slice v.d v.M.length v.e, .int .i64 p] 85) = w1 at *
  have hlt := HS1.out.lt
  have HN := Lib.hid (At6.new w1 v p 85)
  have HSD := Lib.hid (HS1.out.alloc (.cells #[.int .i64 v.f, .int .i64 v.b, .slice v.a v.P.length v.c, .int .i64 v.l, .slice v.d v.M.length v.e, .int .i64 p] 85))
  have HBD := Lib.hid (HB.out.alloc HB.out.size (.cells #[.int .i64 v.f, .int .i64 v.b, .slice v.a v.P.length v.c, .int .i64 v.l, .slice v.d v.M.length v.e, .int .i64 p] 85))
  have hw1 := HB.out.size
  have hAl : w.heap.size < w1.heap.size := World.block_lt_of_cell? w1 _ HA.out.1.1
  refine wp_region_held_drew (S := fun _ => True) (by kernel_rfl) ?_ (fun hHeld => ?_)
  · exact trivial
  refine takeH (i := 0) (v := ?_) rfl rfl (by kernel_rfl) (by kernel_rfl) (by kernel_rfl) (fun _ _ _ h => h) (by rfl) ?_ (by assumption) ?_
  rotate_left 1
  · intro w hSw
    (try dsimp only at hSw)
    go_simp
    try with_reducible rfl
  try simp only [List.setIfInBounds_toArray, List.set_cons_zero, List.set_cons_succ]
  refine takeH (i := 1) (v := ?_) rfl rfl (by kernel_rfl) (by kernel_rfl) (by kernel_rfl) (fun _ _ _ h => h) (by rfl) ?_ (by assumption) ?_
  rotate_left 1
  · intro w hSw
    (try dsimp only at hSw)
    go_simp
    try with_reducible rfl
  try simp only [List.setIfInBounds_toArray, List.set_cons_zero, List.set_cons_succ]
  refine takeH (i := 2) (v := ?_) rfl rfl (by kernel_rfl) (by kernel_rfl) (by kernel_rfl) (fun _ _ _ h => h) (by rfl) ?_ (by assumption) ?_
  rotate_left 1
  · intro w hSw
    (try dsimp only at hSw)
    go_simp
    try with_reducible rfl
  try simp only [List.setIfInBounds_toArray, List.set_cons_zero, List.set_cons_succ]
  refine wpAnyH_ready (rs := [3, 4]) (by kernel_rfl) (by simp) ?_
  refine AllReadyH.cons rfl (fun K hK => ?_) (AllReadyH.cons rfl (fun K hK => ?_) (AllReadyH.nil))
  · have q0 := HS1.out.cell
    go_simp
    refine hK.out _ _ ?_ (fun hNew => ?_)
    · exact trivial
    clear hK K hHeld
    have hHeld := hNew
    clear hNew
    try simp only [Act.put, List.setIfInBounds_toArray, List.set_cons_zero, List.set_cons_succ]
    refine wpAnyH_ready (rs := [4]) (by kernel_rfl) (by simp) ?_
    refine AllReadyH.cons rfl (fun K hK => ?_) (AllReadyH.nil)
    have a0 := HA.out.1.1
    have a1 := HA.out.1.2.1
    have a2 := HA.out.1.2.2.1
    have a3 := HA.out.1.2.2.2.1
    have a4 := HA.out.1.2.2.2.2.1
    have a5 := HA.out.1.2.2.2.2.2
    simp only [Nat.zero_add] at a0 a1 a2 a3 a4 a5
    go_simp
    refine hK.out _ _ ?_ (fun hNew => ?_)
    · exact trivial
    clear hK K hHeld
    have hHeld := hNew
    clear hNew
    try simp only [Act.put, List.setIfInBounds_toArray, List.set_cons_zero, List.set_cons_succ]
    refine wpAnyH_ready (rs := [5]) (by kernel_rfl) (by simp) ?_
    refine AllReadyH.cons rfl (fun K hK => ?_) (AllReadyH.nil)
    go_simp
    refine hK.out _ _ ?_ (fun hNew => ?_)
    · exact trivial
    clear hK K hHeld
    have hHeld := hNew
    clear hNew
    try simp only [Act.put, List.setIfInBounds_toArray, List.set_cons_zero, List.set_cons_succ]
    refine wpAnyH_ready (rs := [6]) (by kernel_rfl) (by simp) ?_
    refine AllReadyH.cons rfl (fun K hK => ?_) (AllReadyH.nil)
    refine wp_appH (.tmp 15) (.tmp 17) rfl R (.slice ha hn hc) L Ks (by simp [Act.eval]) HSD.out.2.2 w1.heap.size p (by simp [Act.eval]) (by rw [HV.out]; exact HN.out) hlen (by simp; omega) ?_
    intro v5 w5 own5 grow5
    have HO5 := Lib.hid own5
    have HG5 := Lib.hid grow5
    have hb5 : w5.heap[H]? = some (.cells #[.slice ha hn hc] 82 (0, 0)) := (grow5.block H HSD.out.lt (fun e => HSD.out.ne e.symm)).trans HSD.out.2.1
    have HH5 := Lib.hid hb5
    clear own5 grow5 hb5
    refine hK.out _ _ ?_ (fun hNew => ?_)
    · exact trivial
    clear hK K hHeld
    have hHeld := hNew
    clear hNew
    try simp only [Act.put, List.setIfInBounds_toArray, List.set_cons_zero, List.set_cons_succ]
    refine takeH (i := 7) (v := ?_) rfl rfl (by kernel_rfl) (by kernel_rfl) (by kernel_rfl) (fun _ _ _ h => h) (by rfl) ?_ (by assumption) ?_
    rotate_left 1
    · intro w hSw
      (try dsimp only at hSw)
      go_simp
      try with_reducible rfl
    try simp only [List.setIfInBounds_toArray, List.set_cons_zero, List.set_cons_succ]
    refine wpAnyH_ready (rs := [8]) (by kernel_rfl) (by simp) ?_
    refine AllReadyH.cons rfl (fun K hK => ?_) (AllReadyH.nil)
    have d0 : w5.cell? ⟨H, 0, none⟩ = some (.slice ha hn hc) := by (rw [Lib.cell_of_heap HH5.out]; rfl)
    have d1 : w5.frozen? ⟨H, 0, none⟩ = false := Lib.frozen_of_heap HH5.out 0
    obtain ⟨va, vn, vc, rfl⟩ : ∃ a n c, v5 = .slice a n c := by (rcases HO5.out.2 with ⟨e0, _⟩ | ⟨g, cap, cur, e0, _⟩; exact ⟨_, _, _, e0⟩; exact ⟨_, _, _, e0⟩)
    go_simp
    refine hK.out _ _ ?_ (fun hNew => ?_)
    · exact trivial
    clear hK K hHeld
    have hHeld := hNew
    clear hNew
    try simp only [Act.put, List.setIfInBounds_toArray, List.set_cons_zero, List.set_cons_succ]
    refine wpAnyH_done (by kernel_rfl) ?_ _
    have HF := Lib.hid (HpS.set HS1.out.1 HH5.out HO5.out)
    have HB5 := Lib.hid ((((HBD.out.mono hR).drew.grown HG5.out (by simp; omega) (fun k e => (World.ownsRow.lt HSD.out.2.2 k e).1)).setCell (p := ⟨H, 0, none⟩) HS1.out.1 (.slice va vn vc)))
    clear d0 d1
    go_wp2_with fail
    go_end0
    exact ⟨rfl, ⟨_, HF.out⟩, HB5.out⟩
  · have a0 := HA.out.1.1
    have a1 := HA.out.1.2.1
    have a2 := HA.out.1.2.2.1
    have a3 := HA.out.1.2.2.2.1
    have a4 := HA.out.1.2.2.2.2.1
    have a5 := HA.out.1.2.2.2.2.2
    simp only [Nat.zero_add] at a0 a1 a2 a3 a4 a5
    go_simp
    refine hK.out _ _ ?_ (fun hNew => ?_)
    · exact trivial
    clear hK K hHeld
    have hHeld := hNew
    clear hNew
    try simp only [Act.put, List.setIfInBounds_toArray, List.set_cons_zero, List.set_cons_succ]
    refine wpAnyH_ready (rs := [3, 5]) (by kernel_rfl) (by simp) ?_
    refine AllReadyH.cons rfl (fun K hK => ?_) (AllReadyH.cons rfl (fun K hK => ?_) (AllReadyH.nil))
    · have q0 := HS1.out.cell
      go_simp
      refine hK.out _ _ ?_ (fun hNew => ?_)
      · exact trivial
      clear hK K hHeld
      have hHeld := hNew
      clear hNew
      try simp only [Act.put, List.setIfInBounds_toArray, List.set_cons_zero, List.set_cons_succ]
      refine wpAnyH_ready (rs := [5]) (by kernel_rfl) (by simp) ?_
      refine AllReadyH.cons rfl (fun K hK => ?_) (AllReadyH.nil)
      go_simp
      refine hK.out _ _ ?_ (fun hNew => ?_)
      · exact trivial
      clear hK K hHeld
      have hHeld := hNew
      clear hNew
      try simp only [Act.put, List.setIfInBounds_toArray, List.set_cons_zero, List.set_cons_succ]
      refine wpAnyH_ready (rs := [6]) (by kernel_rfl) (by simp) ?_
      refine AllReadyH.cons rfl (fun K hK => ?_) (AllReadyH.nil)
      refine wp_appH (.tmp 15) (.tmp 17) rfl R (.slice ha hn hc) L Ks (by simp [Act.eval]) HSD.out.2.2 w1.heap.size p (by simp [Act.eval]) (by rw [HV.out]; exact HN.out) hlen (by simp; omega) ?_
      intro v5 w5 own5 grow5
      have HO5 := Lib.hid own5
      have HG5 := Lib.hid grow5
      have hb5 : w5.heap[H]? = some (.cells #[.slice ha hn hc] 82 (0, 0)) := (grow5.block H HSD.out.lt (fun e => HSD.out.ne e.symm)).trans HSD.out.2.1
      have HH5 := Lib.hid hb5
      clear own5 grow5 hb5
      refine hK.out _ _ ?_ (fun hNew => ?_)
      · exact trivial
      clear hK K hHeld
      have hHeld := hNew
      clear hNew
      try simp only [Act.put, List.setIfInBounds_toArray, List.set_cons_zero, List.set_cons_succ]
      refine takeH (i := 7) (v := ?_) rfl rfl (by kernel_rfl) (by kernel_rfl) (by kernel_rfl) (fun _ _ _ h => h) (by rfl) ?_ (by assumption) ?_
      rotate_left 1
      · intro w hSw
        (try dsimp only at hSw)
        go_simp
        try with_reducible rfl
      try simp only [List.setIfInBounds_toArray, List.set_cons_zero, List.set_cons_succ]
      refine wpAnyH_ready (rs := [8]) (by kernel_rfl) (by simp) ?_
      refine AllReadyH.cons rfl (fun K hK => ?_) (AllReadyH.nil)
      have d0 : w5.cell? ⟨H, 0, none⟩ = some (.slice ha hn hc) := by (rw [Lib.cell_of_heap HH5.out]; rfl)
      have d1 : w5.frozen? ⟨H, 0, none⟩ = false := Lib.frozen_of_heap HH5.out 0
      obtain ⟨va, vn, vc, rfl⟩ : ∃ a n c, v5 = .slice a n c := by (rcases HO5.out.2 with ⟨e0, _⟩ | ⟨g, cap, cur, e0, _⟩; exact ⟨_, _, _, e0⟩; exact ⟨_, _, _, e0⟩)
      go_simp
      refine hK.out _ _ ?_ (fun hNew => ?_)
      · exact trivial
      clear hK K hHeld
      have hHeld := hNew
      clear hNew
      try simp only [Act.put, List.setIfInBounds_toArray, List.set_cons_zero, List.set_cons_succ]
      refine wpAnyH_done (by kernel_rfl) ?_ _
      have HF := Lib.hid (HpS.set HS1.out.1 HH5.out HO5.out)
      have HB5 := Lib.hid ((((HBD.out.mono hR).drew.grown HG5.out (by simp; omega) (fun k e => (World.ownsRow.lt HSD.out.2.2 k e).1)).setCell (p := ⟨H, 0, none⟩) HS1.out.1 (.slice va vn vc)))
      clear d0 d1
      go_wp2_with fail
      go_end0
      exact ⟨rfl, ⟨_, HF.out⟩, HB5.out⟩
    · go_simp
      refine hK.out _ _ ?_ (fun hNew => ?_)
      · exact trivial
      clear hK K hHeld
      have hHeld := hNew
      clear hNew
      try simp only [Act.put, List.setIfInBounds_toArray, List.set_cons_zero, List.set_cons_succ]
      refine wpAnyH_ready (rs := [3]) (by kernel_rfl) (by simp) ?_
      refine AllReadyH.cons rfl (fun K hK => ?_) (AllReadyH.nil)
      have q0 := HS1.out.cell
      go_simp
      refine hK.out _ _ ?_ (fun hNew => ?_)
      · exact trivial
      clear hK K hHeld
      have hHeld := hNew
      clear hNew
      try simp only [Act.put, List.setIfInBounds_toArray, List.set_cons_zero, List.set_cons_succ]
      refine wpAnyH_ready (rs := [6]) (by kernel_rfl) (by simp) ?_
      refine AllReadyH.cons rfl (fun K hK => ?_) (AllReadyH.nil)
      refine wp_appH (.tmp 15) (.tmp 17) rfl R (.slice ha hn hc) L Ks (by simp [Act.eval]) HSD.out.2.2 w1.heap.size p (by simp [Act.eval]) (by rw [HV.out]; exact HN.out) hlen (by simp; omega) ?_
      intro v5 w5 own5 grow5
      have HO5 := Lib.hid own5
      have HG5 := Lib.hid grow5
      have hb5 : w5.heap[H]? = some (.cells #[.slice ha hn hc] 82 (0, 0)) := (grow5.block H HSD.out.lt (fun e => HSD.out.ne e.symm)).trans HSD.out.2.1
      have HH5 := Lib.hid hb5
      clear own5 grow5 hb5
      refine hK.out _ _ ?_ (fun hNew => ?_)
      · exact trivial
      clear hK K hHeld
      have hHeld := hNew
      clear hNew
      try simp only [Act.put, List.setIfInBounds_toArray, List.set_cons_zero, List.set_cons_succ]
      refine takeH (i := 7) (v := ?_) rfl rfl (by kernel_rfl) (by kernel_rfl) (by kernel_rfl) (fun _ _ _ h => h) (by rfl) ?_ (by assumption) ?_
      rotate_left 1
      · intro w hSw
        (try dsimp only at hSw)
        go_simp
        try with_reducible rfl
      try simp only [List.setIfInBounds_toArray, List.set_cons_zero, List.set_cons_succ]
      refine wpAnyH_ready (rs := [8]) (by kernel_rfl) (by simp) ?_
      refine AllReadyH.cons rfl (fun K hK => ?_) (AllReadyH.nil)
      have d0 : w5.cell? ⟨H, 0, none⟩ = some (.slice ha hn hc) := by (rw [Lib.cell_of_heap HH5.out]; rfl)
      have d1 : w5.frozen? ⟨H, 0, none⟩ = false := Lib.frozen_of_heap HH5.out 0
      obtain ⟨va, vn, vc, rfl⟩ : ∃ a n c, v5 = .slice a n c := by (rcases HO5.out.2 with ⟨e0, _⟩ | ⟨g, cap, cur, e0, _⟩; exact ⟨_, _, _, e0⟩; exact ⟨_, _, _, e0⟩)
      go_simp
      refine hK.out _ _ ?_ (fun hNew => ?_)
      · exact trivial
      clear hK K hHeld
      have hHeld := hNew
      clear hNew
      try simp only [Act.put, List.setIfInBounds_toArray, List.set_cons_zero, List.set_cons_succ]
      refine wpAnyH_done (by kernel_rfl) ?_ _
      have HF := Lib.hid (HpS.set HS1.out.1 HH5.out HO5.out)
      have HB5 := Lib.hid ((((HBD.out.mono hR).drew.grown HG5.out (by simp; omega) (fun k e => (World.ownsRow.lt HSD.out.2.2 k e).1)).setCell (p := ⟨H, 0, none⟩) HS1.out.1 (.slice va vn vc)))
      clear d0 d1
      go_wp2_with fail
      go_end0
      exact ⟨rfl, ⟨_, HF.out⟩, HB5.out⟩

set_option maxRecDepth 100000 in
set_option maxHeartbeats 4000000 in
theorem hpop_is (R H : Nat) (L : List RV) (g n cap : Nat) (K : List Nat) (p : Nat) (w : World) (hS : HpS w R H L (.slice (some ⟨g, 0, none⟩) (n + 1) cap) K) (hp : K[n]? = some p) (hn : n ≤ 2000000) (hc : n + 1 ≤ cap) :
    Calls Tryd.prog 160 #[.pointer (some ⟨H, 0, none⟩)] w
      fun e w' => e = .returned (.iface 85 (.agg #[.int .i64 (rvAt L p).f, .int .i64 (rvAt L p).b, .slice (rvAt L p).a (rvAt L p).P.length (rvAt L p).c, .int .i64 (rvAt L p).l, .slice (rvAt L p).d (rvAt L p).M.length (rvAt L p).e, .int .i64 p])) ∧ Below R w w' := by
  have HA := Lib.hid (OwnH.at hS.2.2 hp)
  have hR : R ≤ w.heap.size := by have := hS.lt; have := hS.1; omega
  obtain ⟨v, hv⟩ : ∃ v, rvAt L p = v := ⟨_, rfl⟩
  rw [hv] at HA ⊢
  have hRH := hS.1
  have hlt := hS.lt
  have q0 := hS.cell
  have q1 := hS.frozen
  have ne1 : ¬ H = w.heap.size := by omega
  have ne2 : ¬ w.heap.size = H := by omega
  have n0 : (0 : Int) ≤ (n : Int) := by omega
  have n1 : (n : Int) < ((n + 1 : Nat) : Int) := by omega
  have n2 : IntKind.i64.wrap (((n + 1 : Nat) : Int) - 1) = (n : Int) := by rw [IntKind.wrap_i64]; omega
  have n3 : (n : Int) ≤ (cap : Int) := by omega
  have a0 := HA.out.1.1
  have a1 := HA.out.1.2.1
  have a2 := HA.out.1.2.2.1
  have a3 := HA.out.1.2.2.2.1
  have a4 := HA.out.1.2.2.2.2.1
  have a5 := HA.out.1.2.2.2.2.2
  clear hS hp hv
  go_enter Tryd.func160, Tryd.ntmps160
  go_wp2_with fail
  go_ret
  exact ⟨rfl, ((Below.refl R w).setCell (p := ⟨H, 0, none⟩) hRH _).alloc (by simp; omega) _⟩
end Go.Proofs.YtfjfcdifnfffbaaDoor
