/-
  Own slices of routes; a drawn list of routes.
-/
import Derived.Test.YtioppkalehnoaaaGreatDoorRtHv
import Derived.Test.YtioppkalehnoaaaGreatDoorRtDs
namespace Go.Proofs.YtioppkalehnoaaaGreatDoor
open Go.RowKit
set_option linter.unusedSimpArgs false
set_option linter.unusedVariables false

def cells5 (L : List RV) : List Value := L.flatMap RV.cells
theorem five_len (v : RV) : v.cells.length = 5 := rfl
theorem cells5_cons (v : RV) (L : List RV) : cells5 (v :: L) = v.cells ++ cells5 L := rfl
theorem cells5_app (L M : List RV) : cells5 (L ++ M) = cells5 L ++ cells5 M := by simp [cells5]
theorem cells5_len : ∀ L : List RV, (cells5 L).length = L.length * 5
  | [] => rfl
  | v :: L => by rw [cells5_cons, List.length_append, five_len, cells5_len L, List.length_cons]; omega
theorem cells5_at : ∀ {L : List RV} {k : Nat} {v : RV} {j : Nat}, L[k]? = some v → j < 5 → (cells5 L)[k * 5 + j]? = v.cells[j]?
  | [], k, v, j, h, _ => by simp at h
  | u :: L, 0, v, j, h, hj => by
    obtain rfl : u = v := by simpa using h
    rw [cells5_cons, Nat.zero_mul, Nat.zero_add, List.getElem?_append_left (by rw [five_len]; exact hj)]
  | u :: L, k + 1, v, j, h, hj => by
    rw [cells5_cons, List.getElem?_append_right (by rw [five_len]; omega), five_len, show (k + 1) * 5 + j - 5 = k * 5 + j by omega]
    exact cells5_at (by simpa using h) hj
/-- an own slice of routes, not nil -/
abbrev OwnW (w : World) (R g cap : Nat) (L : List RV) : Prop := w.ownsRow R 32 5 (.slice (some ⟨g, 0, none⟩) L.length cap) L.length (cells5 L)
def RV.own (v : RV) (w : World) (R : Nat) : Prop := OwnI w R (.slice v.a v.P.length v.c) v.P ∧ OwnI w R (.slice v.d v.M.length v.e) v.M
theorem RV.own.m {v : RV} {w : World} {R : Nat} (h : v.own w R) (h1 : v.P.length ≤ 2000000) (h2 : v.M.length ≤ 2000000) : v.m w :=
  ⟨⟨(OwnI.intA h.1).2.2, (OwnI.intA h.2).2.2⟩, (OwnI.intA h.1).2.1, (OwnI.intA h.2).2.1, h1, h2⟩
theorem OwnW.cellsA {w : World} {R g cap : Nat} {L : List RV} (h : OwnW w R g cap L) (j : Nat) (u : Value) (hu : (cells5 L)[j]? = some u) : w.cell? ⟨g, j, none⟩ = some u := by
  have := World.ownsRow.cells h (g := g) rfl j u hu
  by_cases hj : j = 0
  · subst hj; simpa [Addr.add] using this
  · simpa [Addr.add, hj] using this
theorem OwnW.rsa {w : World} {R g cap : Nat} {L : List RV} (h : OwnW w R g cap L) (hm : ∀ v ∈ L, v.m w) : RsA w (some ⟨g, 0, none⟩) L := by
  refine ⟨.inr ⟨g, 0, rfl, fun i v hi => ?_⟩, hm⟩
  have c := OwnW.cellsA h
  rw [Nat.zero_add]
  exact ⟨c _ _ (cells5_at (j := 0) hi (by omega)), c _ _ (cells5_at (j := 1) hi (by omega)), c _ _ (cells5_at (j := 2) hi (by omega)), c _ _ (cells5_at (j := 3) hi (by omega)), c _ _ (cells5_at (j := 4) hi (by omega))⟩
theorem OwnW.low {w : World} {R g cap : Nat} {L : List RV} (h : OwnW w R g cap L) : R ≤ g ∧ g < w.heap.size := by
  have := World.ownsRow.lt h g (by simp [Value.ownBlock])
  exact this
/-- rows of ints and rows of routes lie apart -/
theorem owni_far {w w' : World} {R R' g cap : Nat} {L : List RV} {v : Value} {P : List Int} (h : OwnW w R g cap L) (ho : OwnI w R' v P) (hg : w.grownBy w' (some g)) : OwnI w' R' v P := by
  refine World.ownsRow.kept ho hg ?_
  rcases ho.2 with ⟨e0, _⟩ | ⟨b, c, cur, e0, _, hb, _⟩
  · rw [e0]; exact .inl (by simp [Value.ownBlock])
  · refine .inr (fun e => ?_)
    have e1 : b = g := by rw [e0] at e; simpa [Value.ownBlock] using e
    rcases h.2 with ⟨e2, _⟩ | ⟨g', c', cur', e2, _, hb', _⟩
    · cases e2
    · have e3 : g = g' := by injection e2 with x; injection x with x; injection x
      rw [e1, e3, hb'] at hb
      simp at hb
theorem infoR : (Tryz.prog.info? 32).map (fun i => (i.zero, i.size, i.bytes)) = some (some (.agg #[.int .i64 0, .int .i64 0, .slice none 0 0, .int .i64 0, .slice none 0 0]), 5, 72) := by kernel_rfl
theorem one5 (L : List RV) : ∀ u ∈ cells5 L, u.oneCell' = true := fun u hu => by
  obtain ⟨v, _, hv⟩ := List.mem_flatMap.1 hu
  simp only [RV.cells, List.mem_cons, List.not_mem_nil, or_false] at hv
  rcases hv with rfl | rfl | rfl | rfl | rfl <;> rfl
/-- 'append(own, xs...)' on routes -/
theorem wpList_appV {ops : Array Oper} {rest : List Oper} {o : Oper} {act : Act} {w : World} {Q : Exit → Act → World → Prop} (hgd : o.guard = none) (s x : Operand)
    (hop : o.op = .call { callee := .builtin .append, args := #[s, x], argTypes := #[45, 45] })
    (R g cap : Nat) (L : List RV) (n : Nat) (hn : n = L.length) (hs : act.eval s = .slice (some ⟨g, 0, none⟩) n cap) (hown : OwnW w R g cap L)
    (D m c : Nat) (M : List RV) (hm : m = M.length) (hx : act.eval x = .slice (some ⟨D, 0, none⟩) m c) (hM : ∀ (j : Nat) u, (cells5 M)[j]? = some u → w.cell? ⟨D, j, none⟩ = some u) (hlen : L.length + M.length ≤ 2000000) (hR : R ≤ w.heap.size)
    (h : ∀ g' cap' w', OwnW w' R g' cap' (L ++ M) → w.grownBy w' (some g) → wpList Tryz.prog ops Q rest (act.put o.dst (.slice (some ⟨g', 0, none⟩) (L ++ M).length cap')) w') : wpList Tryz.prog ops Q (o :: rest) act w := by
  subst hn hm
  obtain ⟨i0, hi, hz0, hz1, hz2⟩ := info_parts infoR
  refine wpList_append_own w hgd s x 45 hop R 32 i0 (.agg #[.int .i64 0, .int .i64 0, .slice none 0 0, .int .i64 0, .slice none 0 0]) 5 72 Tryz.underlying45 hi hz0 hz1 hz2 rfl (by decide) _ L.length (cells5 L) hs hown ⟨D, 0, none⟩ M.length c (cells5 M) hx (cells5_len M) ?_ (one5 M) (by unfold maxLen; omega) (by omega) hR ?_
  · intro j u hu
    have := hM j u hu
    by_cases hj : j = 0
    · subst hj; simpa [Addr.add] using this
    · simpa [Addr.add, hj] using this
  · intro v' w' h2 h3 h4
    have h5 : w'.ownsRow R 32 5 v' (L ++ M).length (cells5 (L ++ M)) := by rw [List.length_append, cells5_app]; exact h2
    rcases h5.2 with ⟨e0, _⟩ | ⟨g', cap', cur, e0, _⟩
    · rw [h4] at e0; cases e0.1
    · subst e0
      exact h g' cap' w' h5 (by simpa [Value.ownBlock] using h3)
theorem ownw_empty (w : World) (R : Nat) (hR : R ≤ w.heap.size) : OwnW (w.alloc (.cells #[] 32)) R w.heap.size 0 [] := World.ownsRow_lit w #[] 0 hR (by unfold maxLen; omega) rfl
theorem new5 (w : World) (v : RV) (j : Nat) (u : Value) (hu : (cells5 [v])[j]? = some u) : (w.alloc (.cells #[.int .i64 v.f, .int .i64 v.b, .slice v.a v.P.length v.c, .int .i64 v.l, .slice v.d v.M.length v.e] 32)).cell? ⟨w.heap.size, j, none⟩ = some u := by
  have h : OwnW (w.alloc (.cells #[.int .i64 v.f, .int .i64 v.b, .slice v.a v.P.length v.c, .int .i64 v.l, .slice v.d v.M.length v.e] 32)) w.heap.size w.heap.size 1 [v] := World.ownsRow_lit w #[.int .i64 v.f, .int .i64 v.b, .slice v.a v.P.length v.c, .int .i64 v.l, .slice v.d v.M.length v.e] 1 (Nat.le_refl _) (by unfold maxLen; omega) rfl
  exact OwnW.cellsA h j u hu

/-- a list of routes of one's own -/
def RtsO (w : World) (R g cap : Nat) (L : List RV) : Prop := OwnW w R g cap L ∧ ∀ v ∈ L, v.own w R ∧ v.P.length ≤ 6 ∧ v.M.length ≤ 11
theorem RtsO.rsa {w : World} {R g cap : Nat} {L : List RV} (h : RtsO w R g cap L) : RsA w (some ⟨g, 0, none⟩) L := OwnW.rsa h.1 (fun v hv => (h.2 v hv).1.m (by have := (h.2 v hv).2.1; omega) (by have := (h.2 v hv).2.2; omega))
theorem RtsO.pick {w w' : World} {R g cap B : Nat} {L : List RV} (h : RtsO w R g cap L) (hg : w.grownBy w' (some B)) (hB : B < R) : RtsO w' R g cap L :=
  ⟨World.ownsRow.kept h.1 hg (.inr (fun e => by have := (OwnW.low h.1).1; simp [Value.ownBlock] at e; omega)), fun v hv => ⟨⟨owni_pick (h.2 v hv).1.1 hg hB, owni_pick (h.2 v hv).1.2 hg hB⟩, (h.2 v hv).2⟩⟩
theorem RtsO.later {w w' : World} {R g cap : Nat} {L : List RV} (h : RtsO w R g cap L) (k : Below w.heap.size w w') : RtsO w' R g cap L :=
  ⟨World.ownsRow.kept h.1 (row := none) ⟨k.os, k.tape, k.output, k.size, fun i hi _ => k.block i hi⟩ (.inr (by simp [Value.ownBlock])), fun v hv => ⟨⟨owni_later (h.2 v hv).1.1 k, owni_later (h.2 v hv).1.2 k⟩, (h.2 v hv).2⟩⟩
theorem RtsO.alloc {w : World} {R g cap : Nat} {L : List RV} (h : RtsO w R g cap L) (o : Obj) : RtsO (w.alloc o) R g cap L := h.later ((Below.refl _ _).alloc (Nat.le_refl _) o)
/-- more routes were appended -/
theorem RtsO.app {w w' : World} {R g cap g' cap' : Nat} {L : List RV} {v : RV} (h : RtsO w R g cap L) (hv : v.own w R ∧ v.P.length ≤ 6 ∧ v.M.length ≤ 11) (ho : OwnW w' R g' cap' (L ++ [v])) (hg : w.grownBy w' (some g)) : RtsO w' R g' cap' (L ++ [v]) :=
  ⟨ho, fun u hu => by
    have hu' : u.own w R ∧ u.P.length ≤ 6 ∧ u.M.length ≤ 11 := by
      rcases List.mem_append.1 hu with k | k
      · exact h.2 u k
      · obtain rfl : u = v := by simpa using k
        exact hv
    exact ⟨⟨owni_far h.1 hu'.1.1 hg, owni_far h.1 hu'.1.2 hg⟩, hu'.2⟩⟩
def RtsI (w : World) (B q : Nat) (L : List RV) (g cap : Nat) (W : World) : Prop := RtsO W w.heap.size g cap L ∧ (∃ q', Rd W B q' ∧ q' ≤ q) ∧ w.grownBy W (some B)

set_option maxRecDepth 100000 in
set_option maxHeartbeats 2000000 in
theorem routes_any (w : World) (B p : Nat) (hp : p < 100000) (hr : Rd w B p) :
    Calls Tryz.prog 46 #[.pointer (some ⟨B, 0, none⟩), .int .i64 5] w fun e w' => ∃ (L : List RV) (g cap : Nat), e = .returned (.slice (some ⟨g, 0, none⟩) L.length cap) ∧ L.length ≤ 5 ∧ RtsO w' w.heap.size g cap L ∧ w.grownBy w' (some B) := by
  have hBw := rd_lt hr
  have HR := Lib.hid (rd_alloc hr (.cells #[] 32))
  have HO := Lib.hid (ownw_empty w w.heap.size (Nat.le_refl _))
  have HG := Lib.hid (only_alloc (World.grownBy.refl w (some B)) (.cells #[] 32))
  clear hr
  go_enter Tryz.func46, Tryz.ntmps46
  go_wp2_with fail
  refine (pick_any 6 _ B p (by omega) (by omega) HR.out).mono ?_
  rintro en w1 ⟨y, y0, y1, rfl, hr1, hg1⟩
  have HI : Hid (RtsI w B (p + 1) [] w.heap.size 0 w1) := Lib.hid ⟨⟨World.ownsRow.kept HO.out hg1 (.inr (fun e => by simp [Value.ownBlock] at e; omega)), fun v hv => by cases hv⟩, ⟨_, hr1, Nat.le_refl _⟩, only_on HG.out hg1⟩
  clear hr1 hg1 HR HO HG
  obtain ⟨ny, rfl⟩ := Int.eq_ofNat_of_zero_le y0
  go_wp2_with fail
  go_loopw [5, 6] (fun l i wr => ∃ (k : Nat) (L : List RV) (g cap : Nat), i = .int .i64 (k : Int) ∧ l = .slice (some ⟨g, 0, none⟩) L.length cap ∧ k + L.length ≤ 5 ∧ Hid (RtsI w B (p + 1 + 60 * L.length) L g cap wr)) (fun _ i _ => (intOf i).toNat)
  case atStart => exact ⟨ny, [], w.heap.size, 0, rfl, rfl, by simp; omega, HI⟩
  case round =>
    clear HI
    obtain ⟨k, L, g, cap, rfl, rfl, hk, HI⟩ := hrel
    by_cases hk0 : k = 0
    · subst hk0
      have i0 : ¬ (0 : Int) < ((0 : Nat) : Int) := by omega
      go_wp2_with fail
      go_ret
      exact ⟨L, g, cap, rfl, by omega, HI.out.1, HI.out.2.2⟩
    · have i0 : (0 : Int) < (k : Int) := by omega
      have i1 : IntKind.i64.wrap ((k : Int) - 1) = ((k - 1 : Nat) : Int) := by rw [IntKind.wrap_i64]; omega
      obtain ⟨q', hr', hq'⟩ := HI.out.2.1
      have hws := HI.out.2.2.size
      go_wp2_with fail
      refine (route_any _ B q' (by omega) hr').mono ?_
      rintro en w2 ⟨f, b, l, P, M, pv, mv, q2, rfl, ⟨hlP, hlM⟩, ⟨o1, o2⟩, hr2, hq2, hg2⟩
      obtain ⟨a, c, rfl, _, _⟩ := OwnI.tab o1
      obtain ⟨d, e, rfl, _, _⟩ := OwnI.tab o2
      have hgs := hg2.size
      have HO2 := Lib.hid (HI.out.1.pick hg2 hBw)
      have HV : Hid ((⟨f, b, a, c, P, l, d, e, M⟩ : RV).own w2 w.heap.size ∧ P.length ≤ 6 ∧ M.length ≤ 11) := Lib.hid ⟨⟨owni_mono o1 hws, owni_mono o2 hws⟩, hlP, hlM⟩
      have HR2 := Lib.hid (And.intro hr2 (only_on HI.out.2.2 hg2))
      have HN := Lib.hid (new5 w2 ⟨f, b, a, c, P, l, d, e, M⟩)
      clear hr2 hg2 o1 o2 hr' HI
      go_wp2_with (at_builtin; refine wpList_appV rfl (.tmp 16) (.tmp 19) rfl w.heap.size g cap L _ rfl rfl ?e1 w2.heap.size 1 1 [⟨f, b, a, c, P, l, d, e, M⟩] rfl rfl ?e2 ?e3 ?e4 ?e5)
      case e1 => exact (HO2.out.alloc _).1
      case e2 => exact HN.out
      case e3 => (simp; omega)
      case e4 => (simp; omega)
      intro g5 cap5 w5 own5 grow5
      have HI5 : Hid (RtsI w B (p + 1 + 60 * (L.length + 1)) (L ++ [⟨f, b, a, c, P, l, d, e, M⟩]) g5 cap5 w5) := Lib.hid ⟨(HO2.out.alloc _).app ⟨⟨World.ownsRow.alloc HV.out.1.1 _, World.ownsRow.alloc HV.out.1.2 _⟩, HV.out.2⟩ own5 grow5, ⟨q2, prd_own (v := .slice (some ⟨g, 0, none⟩) L.length cap) (R := w.heap.size) (rd_alloc HR2.out.1 _) (by simpa [Value.ownBlock] using grow5) (fun k hk => by have := (OwnW.low HO2.out.1).1; simp [Value.ownBlock] at hk; omega) hBw, by omega⟩, ponly_own (v := .slice (some ⟨g, 0, none⟩) L.length cap) (only_alloc HR2.out.2 _) (by simpa [Value.ownBlock] using grow5) (fun k hk => by have := (OwnW.low HO2.out.1).1; simp [Value.ownBlock] at hk; omega)⟩
      have hLl : (L ++ [(⟨f, b, a, c, P, l, d, e, M⟩ : RV)]).length = L.length + 1 := by simp
      clear own5 grow5 HN HR2 HV HO2
      generalize L ++ [(⟨f, b, a, c, P, l, d, e, M⟩ : RV)] = L5 at *
      have HLl := Lib.hid hLl
      clear hLl
      go_wp2_with fail
      go_roundw
      case rel => exact ⟨k - 1, L5, g5, cap5, rfl, by rw [HLl.out], by have := HLl.out; omega, by have := HLl.out; rw [this]; exact HI5⟩
      case measure => simp [intOf]; omega
end Go.Proofs.YtioppkalehnoaaaGreatDoor
