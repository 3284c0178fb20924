/-
  Own slices of routes, nil ones too; what a policy makes of routes: memory; are all routes ok (slices.ContainsFunc).
-/
import Derived.Test.YtioppkalehnoaaaGreatDoorClSd
import Derived.Test.YtioppkalehnoaaaGreatDoorRtVr
namespace Go.Proofs.YtioppkalehnoaaaGreatDoor
open Go.RowKit
set_option linter.unusedSimpArgs false
set_option linter.unusedVariables false

abbrev OwnV (w : World) (R : Nat) (v : Value) (L : List RV) : Prop := w.ownsRow R 32 5 v L.length (cells5 L)
theorem OwnV.tab {w : World} {R : Nat} {v : Value} {L : List RV} (h : OwnV w R v L) : ∃ a c, v = .slice a L.length c ∧ L.length ≤ c := by
  rcases h.2 with ⟨e0, h0⟩ | ⟨g, cap, cur, e0, hb, hg, hn, _⟩
  · exact ⟨none, 0, by rw [e0, h0], by omega⟩
  · exact ⟨some ⟨g, 0, none⟩, cap, e0, hn⟩
theorem OwnV.rsa {w : World} {R n cap : Nat} {a : Option Addr} {L : List RV} (h : OwnV w R (.slice a n cap) L) (hm : ∀ v ∈ L, v.m w) : RsA w a L := by
  rcases h.2 with ⟨e0, h0⟩ | ⟨g, cap', cur, e0, _⟩
  · exact ⟨.inl (List.eq_nil_of_length_eq_zero h0), hm⟩
  · injection e0 with e1 e2 e3
    subst e1 e2 e3
    exact OwnW.rsa (g := g) (cap := cap) h hm
theorem ownv_nil (w : World) (R : Nat) : OwnV w R (.slice none 0 0) [] := World.ownsRow_nil w R _ _
theorem ownv_empty (w : World) (R : Nat) (hR : R ≤ w.heap.size) : OwnV (w.alloc (.cells #[] 32)) R (.slice (some ⟨w.heap.size, 0, none⟩) 0 0) [] := ownw_empty w R hR
theorem ownv_later {w w' : World} {R : Nat} {v : Value} {L : List RV} (h : OwnV w R v L) (k : Below w.heap.size w w') : OwnV w' R v L :=
  World.ownsRow.kept h (row := none) ⟨k.os, k.tape, k.output, k.size, fun i hi _ => k.block i hi⟩ (by cases v.ownBlock with | none => exact .inl rfl | some k => exact .inr (by simp))
theorem owni_farV {w w' : World} {R R' : Nat} {v u : Value} {L : List RV} {P : List Int} (h : OwnV w R v L) (ho : OwnI w R' u P) (hg : w.grownBy w' v.ownBlock) : OwnI w' R' u P := by
  refine World.ownsRow.kept ho hg ?_
  rcases ho.2 with ⟨e0, _⟩ | ⟨b, c, cur, e0, _, hb, _⟩
  · rw [e0]; exact .inl (by simp [Value.ownBlock])
  · refine .inr (fun e => ?_)
    have e1 : v.ownBlock = some b := by rw [← e, e0]; simp [Value.ownBlock]
    rcases h.2 with ⟨e2, _⟩ | ⟨g', c', cur', e2, _, hb', _⟩
    · rw [e2] at e1; simp [Value.ownBlock] at e1
    · have e3 : b = g' := by rw [e2] at e1; simp [Value.ownBlock] at e1; exact e1.symm
      rw [e3, hb'] at hb
      simp at hb
/-- 'append(own, x)' on routes, onto a nil slice too -/
theorem wpList_appG {ops : Array Oper} {rest : List Oper} {o : Oper} {act : Act} {w : World} {Q : Exit → Act → World → Prop} (hgd : o.guard = none) (s x : Operand)
    (hop : o.op = .call { callee := .builtin .append, args := #[s, x], argTypes := #[45, 45] })
    (R : Nat) (v : Value) (L : List RV) (hs : act.eval s = v) (hown : OwnV w R v L)
    (D : Nat) (y : RV) (hx : act.eval x = .slice (some ⟨D, 0, none⟩) 1 1) (hM : ∀ (j : Nat) u, (cells5 [y])[j]? = some u → w.cell? ⟨D, j, none⟩ = some u) (hlen : L.length ≤ 2000000) (hR : R ≤ w.heap.size)
    (h : ∀ v' w', OwnV w' R v' (L ++ [y]) → w.grownBy w' v.ownBlock → wpList Tryz.prog ops Q rest (act.put o.dst v') w') : wpList Tryz.prog ops Q (o :: rest) act w := by
  obtain ⟨i0, hi, hz0, hz1, hz2⟩ := info_parts infoR
  refine wpList_append_own w hgd s x 45 hop R 32 i0 (.agg #[.int .i64 0, .int .i64 0, .slice none 0 0, .int .i64 0, .slice none 0 0]) 5 72 Tryz.underlying45 hi hz0 hz1 hz2 rfl (by decide) v L.length (cells5 L) hs hown ⟨D, 0, none⟩ 1 1 (cells5 [y]) hx rfl ?_ (one5 [y]) (by unfold maxLen; omega) (by omega) hR ?_
  · intro j u hu
    rw [Addr.add_lit, Nat.zero_add]
    exact hM j u hu
  · intro v' w' h2 h3 h4
    exact h v' w' (by rw [OwnV, List.length_append, cells5_app]; exact h2) h3
/-- the blocks of a route's rows -/
def RV.blk (x : RV) (k : Nat) : Prop := (Value.slice x.a x.P.length x.c).ownBlock = some k ∨ (Value.slice x.d x.M.length x.e).ownBlock = some k
def RV.ap (x y : RV) : Prop := ∀ k, x.blk k → ¬ y.blk k
def RV.self (x : RV) : Prop := ∀ k, (Value.slice x.a x.P.length x.c).ownBlock = some k → (Value.slice x.d x.M.length x.e).ownBlock ≠ some k
theorem RV.own.lt {x : RV} {w : World} {R : Nat} (h : x.own w R) {k : Nat} (hk : x.blk k) : R ≤ k ∧ k < w.heap.size := by
  rcases hk with e | e
  · exact World.ownsRow.lt h.1 k e
  · exact World.ownsRow.lt h.2 k e
theorem RV.own.later {x : RV} {w w' : World} {R : Nat} (h : x.own w R) (k : Below w.heap.size w w') : x.own w' R := ⟨owni_later h.1 k, owni_later h.2 k⟩
theorem RV.own.mono {x : RV} {w : World} {R R' : Nat} (h : x.own w R) (hR : R' ≤ R) : x.own w R' := ⟨owni_mono h.1 hR, owni_mono h.2 hR⟩
/-- routes of one's own, all apart -/
structure PaI (w : World) (LB : List RV) (v : Value) (W : World) : Prop where
  row : OwnV W w.heap.size v LB
  own : ∀ x ∈ LB, x.own W w.heap.size
  ap : LB.Pairwise RV.ap
  self : ∀ x ∈ LB, x.self
  bel : Below w.heap.size w W
section
variable {w W W' : World} {LB : List RV} {v v' : Value}
theorem PaI.later (h : PaI w LB v W) (k : Below W.heap.size W W') : PaI w LB v W' := ⟨ownv_later h.row k, fun x hx => (h.own x hx).later k, h.ap, h.self, next h.bel k⟩
theorem PaI.alloc (h : PaI w LB v W) (o : Obj) : PaI w LB v (W.alloc o) := h.later ((Below.refl _ _).alloc (Nat.le_refl _) o)
theorem PaI.app {y : RV} {N : Nat} (h : PaI w LB v W) (hN : ∀ x ∈ LB, ∀ k, x.blk k → k < N) (hy : y.own W N) (hs : y.self) (hNw : w.heap.size ≤ N) (own : OwnV W' w.heap.size v' (LB ++ [y])) (grow : W.grownBy W' v.ownBlock) : PaI w (LB ++ [y]) v' W' := by
  have all : ∀ x ∈ LB ++ [y], x.own W w.heap.size ∧ x.self := fun x hx => by
    rcases List.mem_append.1 hx with k | k
    · exact ⟨h.own x k, h.self x k⟩
    · obtain rfl : x = y := by simpa using k
      exact ⟨hy.mono hNw, hs⟩
  refine ⟨own, fun x hx => ⟨owni_farV h.row (all x hx).1.1 grow, owni_farV h.row (all x hx).1.2 grow⟩, ?_, fun x hx => (all x hx).2, h.bel.grown grow h.bel.size (fun k e => (World.ownsRow.lt h.row k e).1)⟩
  rw [List.pairwise_append]
  refine ⟨h.ap, by simp, fun x hx z hz k hk hz2 => ?_⟩
  obtain rfl : z = y := by simpa using hz
  have := hN x hx k hk
  have := (hy.lt hz2).1
  omega
theorem PaI.lt (h : PaI w LB v W) : ∀ x ∈ LB, ∀ k, x.blk k → k < W.heap.size := fun x hx k hk => ((h.own x hx).lt hk).2
end
/-- a route that was made anew -/
theorem OwnRt.rv {w w' : World} {f b l : Int} {P M : List Int} {a d : Option Addr} {c e : Nat} (h : OwnRt w (f, b, P, l, M) (.slice a P.length c) (.slice d M.length e) w') : (⟨f, b, a, c, P, l, d, e, M⟩ : RV).own w' w.heap.size ∧ (⟨f, b, a, c, P, l, d, e, M⟩ : RV).self := by
  obtain ⟨S, o1, b1, o2, hS, _⟩ := h
  exact ⟨⟨o1, owni_mono o2 hS⟩, fun k e1 e2 => by have := (b1 k e1).2; have := (World.ownsRow.lt o2 k e2).1; omega⟩

theorem ipal1_is (f b : Int) (a : Option Addr) (c : Nat) (P : List Int) (l : Int) (d : Option Addr) (e : Nat) (M : List Int) {x : Bool} (k : rtOk (f, b, P, l, M) = x) (w : World) (p : Addr) (hm : RtM w a c P d e M) (hE : EV w p) :
    Calls Tryz.prog 43 #[.agg #[.int .i64 f, .int .i64 b, .slice a P.length c, .int .i64 l, .slice d M.length e]] w fun en w' => en = .returned (.bool (!x)) ∧ Below w.heap.size w w' := by
  have KX := Lib.hid k
  have HB := Lib.hid ((Below.refl w.heap.size w).alloc (Nat.le_refl _) (.cells #[.int .i64 f, .int .i64 b, .slice a P.length c, .int .i64 l, .slice d M.length e] 32))
  have HM := Lib.hid (hm.alloc (.cells #[.int .i64 f, .int .i64 b, .slice a P.length c, .int .i64 l, .slice d M.length e] 32))
  have HE := Lib.hid (hE.alloc (.cells #[.int .i64 f, .int .i64 b, .slice a P.length c, .int .i64 l, .slice d M.length e] 32))
  clear k hm hE
  go_enter Tryz.func43, Tryz.ntmps43
  go_wp2_with fail
  refine (riok_is f b a c P l d e M KX.out _ p HM.out HE.out).mono ?_
  rintro en w1 ⟨rfl, b1⟩
  have HB1 := Lib.hid (next HB.out b1)
  clear b1
  go_wp2_with fail
  go_ret
  exact ⟨rfl, HB1.out⟩
set_option maxHeartbeats 2000000 in
theorem idxR_is (L : List RV) {z : Bool} (hz : (L.map RV.rt).all rtOk = z) (a : Option Addr) (cap n : Nat) (w : World) (p : Addr) (hn : n = L.length) (hA : RsA w a L) (hE : EV w p) (hl : L.length ≤ 2000000) :
    Calls Tryz.prog 65 #[.slice a n cap, .func (.func 43) #[] #[]] w fun e w' => ∃ i : Int, e = .returned (.int .i64 i) ∧ decide (0 ≤ i) = !z ∧ Below w.heap.size w w' := by
  subst hn
  have KX := Lib.hid hz
  have HA := Lib.hid hA
  have HE := Lib.hid hE
  clear hz hA hE
  go_enter Tryz.func65, Tryz.ntmps65
  go_wp2_with fail
  go_loopw [5, 8] (fun _ i wr => ∃ k : Nat, k ≤ L.length ∧ i = .int .i64 k ∧ Hid (∀ (j : Nat) c, j < k → L[j]? = some c → rtOk c.rt = true) ∧ Hid (Below w.heap.size w wr)) (fun _ i _ => L.length - (intOf i).toNat)
  case atStart => exact ⟨0, Nat.zero_le _, rfl, Lib.hid (fun j c hj => by omega), Lib.hid (Below.refl _ _)⟩
  case round =>
    obtain ⟨k, hk, rfl, HN, HB⟩ := hrel
    by_cases hlt : k < L.length
    · obtain ⟨v, hv⟩ : ∃ v, L[k]? = some v := ⟨_, List.getElem?_eq_getElem hlt⟩
      have HV := Lib.hid hv
      obtain ⟨b, off, rfl, ⟨q0, q1, q2, q3, q4⟩, hm⟩ := (HA.out.below HB.out).at hv
      have HM : Hid (RtM _ v.a v.c v.P v.d v.e v.M) := Lib.hid hm
      have i0 : (0 : Int) ≤ (k : Int) := by omega
      have i1 : (k : Int) < (L.length : Int) := by omega
      clear hv hm
      cases ho : rtOk v.rt with
      | false =>
        have HX := Lib.hid (show z = false by
          rw [← KX.out, ← Bool.not_eq_true, List.all_eq_true]
          intro h
          have := h v.rt (List.mem_map.2 ⟨v, List.mem_of_getElem? HV.out, rfl⟩)
          rw [ho] at this; cases this)
        go_wp2_with fail
        refine (ipal1_is v.f v.b v.a v.c v.P v.l v.d v.e v.M ho _ p HM.out (HE.out.below HB.out)).mono ?_
        rintro e w2 ⟨rfl, b2⟩
        have HB2 := Lib.hid (next HB.out b2)
        clear b2
        go_wp2_with fail
        go_ret
        exact ⟨_, rfl, by rw [HX.out]; simp, HB2.out⟩
      | true =>
        have HN2 : Hid (∀ (j : Nat) d, j < k + 1 → L[j]? = some d → rtOk d.rt = true) := Lib.hid (fun j d hj hd => by
          by_cases e : j = k
          · subst e; rw [HV.out] at hd; cases hd; exact ho
          · exact HN.out j d (by omega) hd)
        go_wp2_with fail
        refine (ipal1_is v.f v.b v.a v.c v.P v.l v.d v.e v.M ho _ p HM.out (HE.out.below HB.out)).mono ?_
        rintro e w2 ⟨rfl, b2⟩
        have HB2 := Lib.hid (next HB.out b2)
        clear b2 q0 q1 q2 q3 q4
        go_wp2_with fail
        go_roundw
        case rel => exact ⟨k + 1, by omega, by go_num, HN2, HB2⟩
        case measure => simp [intOf]; omega
    · obtain rfl : k = L.length := by omega
      have HX := Lib.hid (show z = true by
        rw [← KX.out, List.all_eq_true]
        intro r hr
        obtain ⟨c, hc, rfl⟩ := List.mem_map.1 hr
        obtain ⟨j, hj⟩ := List.mem_iff_getElem?.1 hc
        exact HN.out j c (List.getElem?_eq_some_iff.1 hj).1 hj)
      go_wp2_with fail
      go_ret
      exact ⟨_, rfl, by rw [HX.out]; rfl, HB.out⟩
set_option maxHeartbeats 2000000 in
theorem hasR_is (L : List RV) {z : Bool} (hz : (L.map RV.rt).all rtOk = z) (a : Option Addr) (cap n : Nat) (w : World) (p : Addr) (hn : n = L.length) (hA : RsA w a L) (hE : EV w p) (hl : L.length ≤ 2000000) :
    Calls Tryz.prog 42 #[.slice a n cap, .func (.func 43) #[] #[]] w fun e w' => e = .returned (.bool (!z)) ∧ Below w.heap.size w w' := by
  subst hn
  have KX := Lib.hid hz
  have HA := Lib.hid hA
  have HE := Lib.hid hE
  clear hz hA hE
  go_enter Tryz.func42, Tryz.ntmps42
  go_wp2_with fail
  refine (idxR_is L KX.out a cap _ _ p rfl HA.out HE.out hl).mono ?_
  rintro e w1 ⟨i, rfl, hi, b1⟩
  have HB1 := Lib.hid b1
  have HI := Lib.hid hi
  clear b1 hi
  go_wp2_with fail
  go_ret
  exact ⟨ret_bool HI.out, HB1.out⟩
end Go.Proofs.YtioppkalehnoaaaGreatDoor
