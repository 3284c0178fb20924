/-
  Routes of one's own in a slice, all apart: marks into them, what they hold, and a copy of such a slice.
-/
import Derived.Test.YtioppkalehnoaaaGreatDoorClMl
import Derived.Test.YtioppkalehnoaaaGreatDoorClHd
import Derived.Test.YtioppkalehnoaaaGreatDoorRtVv
namespace Go.Proofs.YtioppkalehnoaaaGreatDoor
open Go.RowKit
set_option linter.unusedSimpArgs false
set_option linter.unusedVariables false

/-- blocks that S names alone were written -/
structure Tch (S : Nat → Prop) (w w' : World) : Prop where
  os : w'.os = w.os
  tape : w'.tape = w.tape
  output : w'.output = w.output
  size : w.heap.size ≤ w'.heap.size
  block : ∀ k, k < w.heap.size → ¬ S k → w'.heap[k]? = w.heap[k]?
theorem Tch.refl (S : Nat → Prop) (w : World) : Tch S w w := ⟨rfl, rfl, rfl, Nat.le_refl _, fun _ _ _ => rfl⟩
theorem Tch.of {S : Nat → Prop} {w w' : World} {row : Option Nat} (h : w.grownBy w' row) (hr : ∀ k, row = some k → S k) : Tch S w w' := ⟨h.os, h.tape, h.output, h.size, fun k hk hs => h.block k hk (fun e => hs (hr k e.symm))⟩
theorem Tch.trans {S : Nat → Prop} {a b c : World} (h : Tch S a b) (k : Tch S b c) : Tch S a c :=
  ⟨k.os.trans h.os, k.tape.trans h.tape, k.output.trans h.output, Nat.le_trans h.size k.size, fun i hi hs => (k.block i (Nat.lt_of_lt_of_le hi h.size) hs).trans (h.block i hi hs)⟩
theorem Tch.mono {S T : Nat → Prop} {w w' : World} (h : Tch S w w') (k : ∀ i, S i → T i) : Tch T w w' := ⟨h.os, h.tape, h.output, h.size, fun i hi ht => h.block i hi (fun hs => ht (k i hs))⟩
theorem Tch.own {S : Nat → Prop} {w w' : World} {R z n : Nat} {e : TypeId} {v : Value} {xs : List Value} (h : w.ownsRow R e z v n xs) (k : Tch S w w') (hn : ∀ b, v.ownBlock = some b → ¬ S b) : w'.ownsRow R e z v n xs := by
  refine ⟨h.1, ?_⟩
  rcases h.2 with h2 | ⟨g, cap, cur, rfl, hb, hg, rest⟩
  · exact .inl h2
  · refine .inr ⟨g, cap, cur, rfl, hb, ?_, rest⟩
    rw [k.block g (Array.getElem?_eq_some_iff.1 hg).1 (hn g (by simp [Value.ownBlock]))]
    exact hg
theorem Tch.below {S : Nat → Prop} {w w' : World} {A : Nat} (k : Tch S w w') (hA : A ≤ w.heap.size) (hS : ∀ i, S i → A ≤ i) : Below A w w' := ⟨k.os, k.tape, k.output, k.size, fun i hi => k.block i (by omega) (fun hs => by have := hS i hs; omega)⟩

structure PaR (W : World) (R : Nat) (v : Value) (LB : List RV) : Prop where
  row : OwnV W R v LB
  own : ∀ x ∈ LB, x.own W R
  ap : LB.Pairwise RV.ap
  self : ∀ x ∈ LB, x.self
theorem PaI.par {w W : World} {LB : List RV} {v : Value} (h : PaI w LB v W) : PaR W w.heap.size v LB := ⟨h.row, h.own, h.ap, h.self⟩
theorem PaR.later {W W' : World} {R : Nat} {v : Value} {LB : List RV} (h : PaR W R v LB) (k : Below W.heap.size W W') : PaR W' R v LB := ⟨ownv_later h.row k, fun x hx => (h.own x hx).later k, h.ap, h.self⟩
theorem RV.ap.symm' {x y : RV} (h : x.ap y) : y.ap x := fun k h1 h2 => h k h2 h1
theorem rv_blk {x y : RV} (ha : y.a = x.a) (hd : y.d = x.d) (k : Nat) : y.blk k ↔ x.blk k := by
  have e1 : (Value.slice y.a y.P.length y.c).ownBlock = (Value.slice x.a x.P.length x.c).ownBlock := by rw [ha]; cases x.a <;> rfl
  have e2 : (Value.slice y.d y.M.length y.e).ownBlock = (Value.slice x.d x.M.length x.e).ownBlock := by rw [hd]; cases x.d <;> rfl
  unfold RV.blk
  rw [e1, e2]
theorem PaR.apAt {W : World} {R : Nat} {v : Value} {LB : List RV} (h : PaR W R v LB) {i j : Nat} {x y : RV} (hx : LB[i]? = some x) (hy : LB[j]? = some y) (hij : i ≠ j) : x.ap y := by
  obtain ⟨hi, rfl⟩ := List.getElem?_eq_some_iff.1 hx
  obtain ⟨hj, rfl⟩ := List.getElem?_eq_some_iff.1 hy
  rcases Nat.lt_or_gt_of_ne hij with k | k
  · exact (List.pairwise_iff_getElem.1 h.ap) i j hi hj k
  · exact ((List.pairwise_iff_getElem.1 h.ap) j i hj hi k).symm'
theorem cells5_set3 {L : List RV} {k : Nat} {x y : RV} (hx : L[k]? = some x) (ha : y.a = x.a) (hc : y.c = x.c) (hP : y.P.length = x.P.length) (hd : y.d = x.d) (he : y.e = x.e) (hM : y.M.length = x.M.length) :
    (((cells5 L).set (k * 5) (.int .i64 y.f)).set (k * 5 + 1) (.int .i64 y.b)).set (k * 5 + 3) (.int .i64 y.l) = cells5 (L.set k y) := by
  have hk := (List.getElem?_eq_some_iff.1 hx).1
  have e1 : L = L.take k ++ x :: L.drop (k + 1) := by
    rw [← cset_mid x L k hk]
    refine List.ext_getElem? fun j => ?_
    by_cases e : j = k
    · subst e; rw [List.getElem?_set_self hk]; exact hx
    · rw [List.getElem?_set_ne (fun h => e h.symm)]
  have e2 : L.set k y = L.take k ++ y :: L.drop (k + 1) := cset_mid y L k hk
  have hA : (cells5 (L.take k)).length = k * 5 := by rw [cells5_len, List.length_take, Nat.min_eq_left (by omega)]
  have e3 : cells5 L = cells5 (L.take k) ++ (x.cells ++ cells5 (L.drop (k + 1))) := by
    conv => lhs; rw [e1]
    rw [cells5_app, cells5_cons]
  rw [e2, e3, cells5_app, cells5_cons]
  generalize cells5 (L.take k) = A at *
  generalize cells5 (L.drop (k + 1)) = B at *
  rw [List.set_append_right _ _ (by omega), List.set_append_right _ _ (by omega), List.set_append_right _ _ (by omega), hA, show k * 5 - k * 5 = 0 by omega, show k * 5 + 1 - k * 5 = 1 by omega, show k * 5 + 3 - k * 5 = 3 by omega]
  congr 1
  unfold RV.cells
  rw [ha, hc, hP, hd, he, hM]
  rfl
/-- one route was marked -/
theorem PaR.step {wr w5 : World} {R g cap k : Nat} {CUR : List RV} {x y : RV} (h : PaR wr R (.slice (some ⟨g, 0, none⟩) CUR.length cap) CUR) (hx : CUR[k]? = some x) (ha : y.a = x.a) (hd : y.d = x.d)
    (hrow : OwnW w5 R g cap (CUR.set k y)) (hy : y.own w5 R) (T : Tch (fun b => b = g ∨ x.blk b) wr w5) : PaR w5 R (.slice (some ⟨g, 0, none⟩) CUR.length cap) (CUR.set k y) := by
  have hk := (List.getElem?_eq_some_iff.1 hx).1
  refine ⟨by have := hrow; rw [OwnW, List.length_set] at this; rw [OwnV, List.length_set]; exact this, fun z hz => ?_, ?_, fun z hz => ?_⟩
  · obtain ⟨j, hj⟩ := List.mem_iff_getElem?.1 hz
    by_cases e : j = k
    · subst e; rw [List.getElem?_set_self hk] at hj; cases hj; exact hy
    · rw [List.getElem?_set_ne (fun q => e q.symm)] at hj
      have ho := h.own z (List.mem_of_getElem? hj)
      have hap := h.apAt hj hx e
      have hr1 := rows_apart ho.1 h.row (by decide)
      have hr2 := rows_apart ho.2 h.row (by decide)
      refine ⟨Tch.own ho.1 T (fun b hb hs => ?_), Tch.own ho.2 T (fun b hb hs => ?_)⟩
      · rcases hs with rfl | hs
        · rcases hr1 with q | q
          · rw [q] at hb; cases hb
          · exact q (by rw [hb]; rfl)
        · exact hap b (.inl hb) hs
      · rcases hs with rfl | hs
        · rcases hr2 with q | q
          · rw [q] at hb; cases hb
          · exact q (by rw [hb]; rfl)
        · exact hap b (.inr hb) hs
  · rw [List.pairwise_iff_getElem]
    intro i j hi hj hij
    have hi' : i < CUR.length := by simpa using hi
    have hj' : j < CUR.length := by simpa using hj
    rw [List.getElem_set, List.getElem_set]
    by_cases e1 : k = i
    · subst e1
      have e2 : k ≠ j := by omega
      rw [if_pos rfl, if_neg e2]
      intro b hb hb2
      exact h.apAt hx (List.getElem?_eq_getElem hj') e2 b ((rv_blk ha hd b).1 hb) hb2
    · rw [if_neg e1]
      by_cases e2 : k = j
      · subst e2
        rw [if_pos rfl]
        intro b hb hb2
        exact h.apAt (List.getElem?_eq_getElem hi') hx (fun q => e1 q.symm) b hb ((rv_blk ha hd b).1 hb2)
      · rw [if_neg e2]
        exact h.apAt (List.getElem?_eq_getElem hi') (List.getElem?_eq_getElem hj') (by omega)
  · rcases List.mem_or_eq_of_mem_set hz with q | rfl
    · exact h.self z q
    · intro b hb hb2
      have e1 : (Value.slice z.a z.P.length z.c).ownBlock = (Value.slice x.a x.P.length x.c).ownBlock := by rw [ha]; cases x.a <;> rfl
      have e2 : (Value.slice z.d z.M.length z.e).ownBlock = (Value.slice x.d x.M.length x.e).ownBlock := by rw [hd]; cases x.d <;> rfl
      exact h.self x (List.mem_of_getElem? hx) b (by rw [← e1]; exact hb) (by rw [← e2]; exact hb2)

/-- marked routes -/
def mkR (t : Nat) (x : RV) : RV := ⟨(t : Int), (t : Int) + 1, x.a, x.c, pmarkG (t + 2) x.P.length, ((t + 2 + x.P.length : Nat) : Int), x.d, x.e, pmarkG (t + 3 + x.P.length) x.M.length⟩
def mkNx (t : Nat) (x : RV) : Nat := t + 3 + x.P.length + x.M.length
def mkRs : Nat → List RV → List RV
  | _, [] => []
  | t, x :: L => mkR t x :: mkRs (mkNx t x) L
def mkN : Nat → List RV → Nat
  | t, [] => t
  | t, x :: L => mkN (mkNx t x) L
theorem mkRs_len : ∀ (t : Nat) (L : List RV), (mkRs t L).length = L.length
  | _, [] => rfl
  | t, x :: L => by simp [mkRs, mkRs_len]
theorem bmark_z (z : Int) (s : Nat) (hz : z = (s : Int)) (v : Value) (L : List Int) (R : Nat) (w : World) (ho : OwnI w R v L) (hl : L.length ≤ 2000000) (hs : s ≤ 4000000000000000) :
    Calls Tryz.prog 40 #[v, .int .i64 z] w fun e w' => e = .returned (.int .i64 ((s + L.length : Nat) : Int)) ∧ OwnI w' R v (pmarkG s L.length) ∧ w.grownBy w' v.ownBlock := by
  subst hz; exact bmark_any s v L R w ho hl hs
theorem bheld_z (z : Int) (s : Nat) (hz : z = (s : Int)) (a : Option Addr) (cap n : Nat) (w : World) (hT : IntA w a (pmarkG s n)) (hl : n ≤ 2000000) (hs : s ≤ 4000000000000000) :
    Calls Tryz.prog 41 #[.slice a n cap, .int .i64 z] w fun e w' => e = .returned (.int .i64 ((s + n : Nat) : Int)) ∧ w = w' := by
  subst hz; exact bheld_any s a cap n w hT hl hs
/-- one cell of an own row is stored: the world behind it is a letter -/
theorem wpList_stO {P : Program} {ops : Array Oper} {rest : List Oper} {op : Oper} {a : Act} {w : World} {Q : Exit → Act → World → Prop} (hgd : op.guard = none) (ty : TypeId) (x y : Operand) (ho : op.op = .store ty x y)
    (g i : Nat) (v : Value) (hx : a.eval x = .pointer (some ⟨g, i, none⟩)) (hy : a.eval y = v) (hc : v.cells = #[v]) (h1 : v.oneCell' = true) (hi : (P.info? ty).map (·.size) = some 1)
    (R cap n z : Nat) (e : TypeId) (xs : List Value) (hO : w.ownsRow R e z (.slice (some ⟨g, 0, none⟩) n cap) n xs) (hil : i < xs.length)
    (h : ∀ w', w'.ownsRow R e z (.slice (some ⟨g, 0, none⟩) n cap) n (xs.set i v) → w.grownBy w' (some g) → wpList P ops Q rest (a.put op.dst undef) w') : wpList P ops Q (op :: rest) a w := by
  refine wpList_plain hgd fun K hK => ?_
  have q1 : w.cell? ⟨g, i, none⟩ = some xs[i] := by
    have := World.ownsRow.cells hO (g := g) rfl i _ (List.getElem?_eq_getElem hil)
    rwa [Addr.add_mid, Nat.zero_add] at this
  have q2 := World.ownsRow.frozenAt hO i
  have ht : w.there g i 1 := fun j hj => by
    have e : j = 0 := by omega
    subst e
    exact ⟨by rw [Nat.add_zero, q1]; rfl, by rw [Nat.add_zero]; exact q2⟩
  have hr : (storeVar ty ⟨g, i, none⟩ v).run P w = .ok () (w.setCells g i [v]) := by
    have := run_storeCells_cells (P := P) g i [v] 0 w (fun j hj => by simpa using (ht j (by simpa using hj)).1) (fun j hj => by simpa using (ht j (by simpa using hj)).2) (fun u hu => by simp at hu; subst hu; exact h1)
    cases hq : P.info? ty with
    | none => simp [hq] at hi
    | some q =>
      have hs : 1 = q.size := by simp [hq] at hi; omega
      simp only [Nat.add_zero] at this
      simp [storeVar, sizeOf, typeInfo, hq, hc, hs.symm, this]
  unfold Oper.wp execOp
  simp only [ho, hx, hy, Instr.storeAt, Instr.sureAddr, Sem.run_bind, Sem.run_pure, Result.andThen_ok, hr]
  exact hK _ _ (h _ (World.ownsRow.stored hO i v).1 (only_sets [v] i w))
/-- how far the marks have come -/
structure MrI (w wr : World) (R S : Nat) (v : Value) (LB : List RV) (s k t : Nat) (DONE : List RV) : Prop where
  len : DONE.length = k
  par : PaR wr R v (DONE ++ LB.drop k)
  rest : DONE ++ mkRs t (LB.drop k) = mkRs s LB
  num : mkN t (LB.drop k) = mkN s LB
  tch : Tch (fun b => R ≤ b ∧ b < S) w wr

set_option maxRecDepth 100000 in
set_option maxHeartbeats 4000000 in
theorem markrts_own (s : Nat) (hs : s ≤ 100000000) (LB : List RV) (g cap R S : Nat) (w : World) (hP : PaR w R (.slice (some ⟨g, 0, none⟩) LB.length cap) LB) (hl : LB.length ≤ 1048576) (hz : ∀ x ∈ LB, x.P.length ≤ 1048576 ∧ x.M.length ≤ 1048576)
    (hg : g < S) (hb : ∀ x ∈ LB, ∀ k, x.blk k → k < S) :
    Calls Tryz.prog 22 #[.slice (some ⟨g, 0, none⟩) LB.length cap, .int .i64 (s : Int)] w fun e w' => e = .returned (.int .i64 ((mkN s LB : Nat) : Int)) ∧ PaR w' R (.slice (some ⟨g, 0, none⟩) LB.length cap) (mkRs s LB) ∧ Tch (fun b => R ≤ b ∧ b < S) w w' := by
  have HZ := Lib.hid hz
  have HBk := Lib.hid hb
  have hgR := (OwnW.low (L := LB) (w := w) (R := R) (g := g) (cap := cap) hP.row).1
  have I0 : Hid (MrI w w R S (.slice (some ⟨g, 0, none⟩) LB.length cap) LB s 0 s []) := Lib.hid ⟨rfl, by simpa using hP, by simp, by simp, Tch.refl _ _⟩
  clear hP hz hb
  go_enter Tryz.func22, Tryz.ntmps22
  go_wp2_with fail
  go_loopw [1, 5] (fun q i wr => ∃ (k t : Nat) (DONE : List RV), k ≤ LB.length ∧ i = .int .i64 k ∧ q = .int .i64 ((t : Nat) : Int) ∧ t ≤ s + k * 2100000 ∧ Hid (MrI w wr R S (.slice (some ⟨g, 0, none⟩) LB.length cap) LB s k t DONE)) (fun _ i _ => LB.length - (intOf i).toNat)
  case atStart => exact ⟨0, s, [], Nat.zero_le _, rfl, rfl, by omega, I0⟩
  case round =>
    clear I0
    obtain ⟨k, t, DONE, hk, rfl, rfl, ht, HI⟩ := hrel
    by_cases hlt : k < LB.length
    · have j0 : (0 : Int) ≤ (k : Int) := by omega
      have j1 : (k : Int) < (LB.length : Int) := by omega
      obtain ⟨x, hx⟩ : ∃ x, LB[k]? = some x := ⟨_, List.getElem?_eq_getElem hlt⟩
      have HX := Lib.hid hx
      have hxe : LB[k] = x := (List.getElem?_eq_some_iff.1 hx).2
      have hdr : LB.drop k = x :: LB.drop (k + 1) := by rw [List.drop_eq_getElem_cons hlt, hxe]
      obtain ⟨CUR, hCUR⟩ : ∃ C, C = DONE ++ LB.drop k := ⟨_, rfl⟩
      have hlD := HI.out.len
      have hCl : CUR.length = LB.length := by rw [hCUR, List.length_append, List.length_drop, hlD]; omega
      have hCx : CUR[k]? = some x := by rw [hCUR, hdr, List.getElem?_append_right (by omega), hlD, Nat.sub_self]; rfl
      have hset : ∀ y : RV, CUR.set k y = (DONE ++ [y]) ++ LB.drop (k + 1) := fun y => by rw [hCUR, hdr, List.set_append_right _ _ (by omega), hlD, Nat.sub_self]; simp
      have hpar : PaR wr R (.slice (some ⟨g, 0, none⟩) CUR.length cap) CUR := by rw [hCl, hCUR]; exact HI.out.par
      have hox := hpar.own x (List.mem_of_getElem? hCx)
      have hsx := hpar.self x (List.mem_of_getElem? hCx)
      have hbx := HBk.out x (List.mem_of_getElem? hx)
      have hzx := HZ.out x (List.mem_of_getElem? hx)
      have hlo : ∀ b, x.blk b → R ≤ b := fun b hb => (hox.lt hb).1
      have hrow : wr.ownsRow R 32 5 (.slice (some ⟨g, 0, none⟩) LB.length cap) LB.length (cells5 CUR) := by have := hpar.row; rw [OwnV, hCl] at this; exact this
      have hcl : (cells5 CUR).length = LB.length * 5 := by rw [cells5_len, hCl]
      have hap : (Value.slice x.d x.M.length x.e).ownBlock = none ∨ (Value.slice x.d x.M.length x.e).ownBlock ≠ (Value.slice x.a x.P.length x.c).ownBlock := by
        cases e : (Value.slice x.d x.M.length x.e).ownBlock with
        | none => exact .inl rfl
        | some b => exact .inr (fun q => hsx b q.symm e)
      have HPAR := Lib.hid hpar
      have HCX := Lib.hid hCx
      have HSET := Lib.hid hset
      have HDR := Lib.hid hdr
      have HAP := Lib.hid hap
      have HS0 := Lib.hid (And.intro hlo hbx)
      have HR0 := Lib.hid hrow
      have HP0 := Lib.hid hox.1
      have HM0 := Lib.hid hox.2
      have HCL := Lib.hid (And.intro hCl hcl)
      clear hx hxe hdr hCUR hCx hset hpar hox hsx hbx hlo hrow hap hCl hcl
      go_wp2_with (refine wpList_stO rfl 3 _ _ rfl g (k * 5) _ rfl rfl rfl rfl infoI1 R cap LB.length 5 32 _ HR0.out (by have := HCL.out.2; omega) ?_)
      intro w1 a1 g1
      have HR1 := Lib.hid a1
      have HP1 := Lib.hid (World.ownsRow.kept HP0.out g1 (rows_apart HP0.out HR0.out (by decide)))
      have HM1 := Lib.hid (World.ownsRow.kept HM0.out g1 (rows_apart HM0.out HR0.out (by decide)))
      have HT1 : Hid (Tch (fun b => b = g ∨ x.blk b) wr w1) := Lib.hid (Tch.of g1 (fun b e => .inl (by cases e; rfl)))
      clear a1 g1
      go_wp2_with (refine wpList_stO rfl 3 _ _ rfl g (k * 5 + 1) _ rfl rfl rfl rfl infoI1 R cap LB.length 5 32 _ HR1.out (by have := HCL.out.2; simp only [setAt_len]; omega) ?_)
      intro w2 a2 g2
      have HR2 := Lib.hid a2
      have HP2 := Lib.hid (World.ownsRow.kept HP1.out g2 (rows_apart HP1.out HR1.out (by decide)))
      have HM2 := Lib.hid (World.ownsRow.kept HM1.out g2 (rows_apart HM1.out HR1.out (by decide)))
      have HT2 : Hid (Tch (fun b => b = g ∨ x.blk b) wr w2) := Lib.hid (HT1.out.trans (Tch.of g2 (fun b e => .inl (by cases e; rfl))))
      clear a2 g2 HT1 HP0 HM0 HP1 HM1
      have q2 : w2.cell? ⟨g, k * 5 + 2, none⟩ = some (.slice x.a x.P.length x.c) := by
        have h5 := cells5_at (j := 2) HCX.out (by omega)
        have := World.ownsRow.cells HR2.out (g := g) rfl (k * 5 + 2) (.slice x.a x.P.length x.c) (by rw [List.getElem?_set_ne (by omega), List.getElem?_set_ne (by omega), h5]; rfl)
        rwa [Addr.add_mid, Nat.zero_add] at this
      go_wp2_with fail
      clear q2
      refine (bmark_z _ (t + 2) (by omega) _ x.P R _ HP2.out (by omega) (by omega)).mono ?_
      rintro en w3 ⟨rfl, o3, g3⟩
      have HP3 := Lib.hid o3
      have HR3 := Lib.hid (World.ownsRow.kept HR2.out g3 (rows_apart HR2.out HP2.out (by decide)))
      have HM3 := Lib.hid (World.ownsRow.kept HM2.out g3 HAP.out)
      have HT3 : Hid (Tch (fun b => b = g ∨ x.blk b) wr w3) := Lib.hid (HT2.out.trans (Tch.of g3 (fun b e => .inr (.inl e))))
      clear o3 g3 HT2 HP2 HM2
      generalize hu : t + 2 + x.P.length = u at *
      have hu2 : u ≤ 4000000000000 := by omega
      have HU := Lib.hid hu
      clear hu
      go_wp2_with (refine wpList_stO rfl 3 _ _ rfl g (k * 5 + 3) _ rfl rfl rfl rfl infoI1 R cap LB.length 5 32 _ HR3.out (by have := HCL.out.2; simp only [setAt_len]; omega) ?_)
      intro w4 a4 g4
      have HR4 := Lib.hid a4
      have HP4 := Lib.hid (World.ownsRow.kept HP3.out g4 (rows_apart HP3.out HR3.out (by decide)))
      have HM4 := Lib.hid (World.ownsRow.kept HM3.out g4 (rows_apart HM3.out HR3.out (by decide)))
      have HT4 : Hid (Tch (fun b => b = g ∨ x.blk b) wr w4) := Lib.hid (HT3.out.trans (Tch.of g4 (fun b e => .inl (by cases e; rfl))))
      clear a4 g4 HT3 HP3 HM3 HR2 HR1 HR0
      have q4 : w4.cell? ⟨g, k * 5 + 4, none⟩ = some (.slice x.d x.M.length x.e) := by
        have h5 := cells5_at (j := 4) HCX.out (by omega)
        have := World.ownsRow.cells HR4.out (g := g) rfl (k * 5 + 4) (.slice x.d x.M.length x.e) (by rw [List.getElem?_set_ne (by omega), List.getElem?_set_ne (by omega), List.getElem?_set_ne (by omega), h5]; rfl)
        rwa [Addr.add_mid, Nat.zero_add] at this
      go_wp2_with fail
      clear q4
      refine (bmark_z _ (t + 3 + x.P.length) (by have := HU.out; omega) _ x.M R _ HM4.out (by omega) (by omega)).mono ?_
      rintro en w5 ⟨rfl, o5, g5⟩
      have HY : Hid (∃ y : RV, y = mkR t x) := Lib.hid ⟨_, rfl⟩
      obtain ⟨y, hy⟩ := HY.out
      have HM5 := Lib.hid o5
      have HR5 := Lib.hid (World.ownsRow.kept HR4.out g5 (rows_apart HR4.out HM4.out (by decide)))
      have HP5 := Lib.hid (World.ownsRow.kept HP4.out g5 (apart_sym HAP.out))
      have HT5 : Hid (Tch (fun b => b = g ∨ x.blk b) wr w5) := Lib.hid (HT4.out.trans (Tch.of g5 (fun b e => .inr (.inr e))))
      have hyo : y.own w5 R := by
        rw [hy]
        refine ⟨?_, ?_⟩
        · have := HP5.out; simp only [mkR, OwnI, pmarkG_len] at this ⊢; exact this
        · have := HM5.out; simp only [mkR, OwnI, pmarkG_len] at this ⊢; exact this
      have hrw : OwnW w5 R g cap (CUR.set k y) := by
        have e := cells5_set3 (y := y) HCX.out (by rw [hy]; rfl) (by rw [hy]; rfl) (by rw [hy]; simp [mkR, pmarkG_len]) (by rw [hy]; rfl) (by rw [hy]; rfl) (by rw [hy]; simp [mkR, pmarkG_len])
        have h5 := HR5.out
        rw [OwnW, List.length_set, HCL.out.1, ← e, hy]
        simp only [mkR]
        rw [HU.out]
        exact h5
      have hst := PaR.step HPAR.out HCX.out (by rw [hy]; rfl) (by rw [hy]; rfl) hrw hyo HT5.out
      rw [HSET.out y, HCL.out.1] at hst
      have HI2 : Hid (MrI w w5 R S (.slice (some ⟨g, 0, none⟩) LB.length cap) LB s (k + 1) (mkNx t x) (DONE ++ [y])) := Lib.hid ⟨by rw [List.length_append, HI.out.len]; rfl, hst, by
          have := HI.out.rest; rw [HDR.out] at this; rw [← this, hy]; simp [mkRs], by
          have := HI.out.num; rw [HDR.out] at this; rw [← this]; rfl, HI.out.tch.trans (HT5.out.mono (fun b hb => by
            rcases hb with rfl | hb
            · exact ⟨hgR, hg⟩
            · exact ⟨HS0.out.1 b hb, HS0.out.2 b hb⟩))⟩
      have hnx : t + 3 + x.P.length + x.M.length = mkNx t x := rfl
      have hnb : mkNx t x ≤ s + (k + 1) * 2100000 := by rw [← hnx]; omega
      clear o5 g5 hst hrw hyo hy HY
      rw [hnx]
      generalize mkNx t x = t2 at *
      generalize DONE ++ [y] = D2 at *
      clear hnx
      go_wp2_with fail
      go_roundw
      case rel => exact ⟨k + 1, t2, D2, by omega, by go_num, rfl, hnb, HI2⟩
      case measure => simp [intOf]; omega
    · obtain rfl : k = LB.length := by omega
      have h1 := HI.out.rest
      have h2 := HI.out.num
      have h3 := HI.out.par
      rw [List.drop_length] at h1 h2 h3
      simp only [mkRs, List.append_nil] at h1 h3
      simp only [mkN] at h2
      subst h2
      have HF := Lib.hid (And.intro h3 HI.out.tch)
      rw [h1] at HF
      clear h1 h3 HI
      go_wp2_with fail
      go_ret
      exact ⟨rfl, HF.out.1, HF.out.2⟩

set_option maxRecDepth 100000 in
set_option maxHeartbeats 4000000 in
theorem heldrts_any (s : Nat) (hs : s ≤ 100000000) (LB : List RV) (a : Option Addr) (n cap : Nat) (w : World) (hn : n = LB.length) (hA : RsA w a (mkRs s LB)) (hl : LB.length ≤ 1048576) (hz : ∀ x ∈ LB, x.P.length ≤ 1048576 ∧ x.M.length ≤ 1048576) :
    Calls Tryz.prog 23 #[.slice a n cap, .int .i64 (s : Int)] w fun e w' => e = .returned (.int .i64 ((mkN s LB : Nat) : Int)) ∧ w = w' := by
  subst hn
  have HZ := Lib.hid hz
  have HA := Lib.hid hA
  have I0 : Hid ((mkRs s LB).drop 0 = mkRs s (LB.drop 0) ∧ mkN s (LB.drop 0) = mkN s LB) := Lib.hid ⟨by simp, by simp⟩
  clear hz hA
  go_enter Tryz.func23, Tryz.ntmps23
  go_wp2_with fail
  go_loopw [1, 5] (fun q i wr => ∃ (k t : Nat), k ≤ LB.length ∧ i = .int .i64 k ∧ q = .int .i64 ((t : Nat) : Int) ∧ t ≤ s + k * 2100000 ∧ Hid ((mkRs s LB).drop k = mkRs t (LB.drop k) ∧ mkN t (LB.drop k) = mkN s LB) ∧ wr = w) (fun _ i _ => LB.length - (intOf i).toNat)
  case atStart => exact ⟨0, s, Nat.zero_le _, rfl, rfl, by omega, I0, rfl⟩
  case round =>
    clear I0
    obtain ⟨k, t, hk, rfl, rfl, ht, HI, rfl⟩ := hrel
    by_cases hlt : k < LB.length
    · have j0 : (0 : Int) ≤ (k : Int) := by omega
      have j1 : (k : Int) < (LB.length : Int) := by omega
      obtain ⟨x, hx⟩ : ∃ x, LB[k]? = some x := ⟨_, List.getElem?_eq_getElem hlt⟩
      have hxe : LB[k] = x := (List.getElem?_eq_some_iff.1 hx).2
      have hdr : LB.drop k = x :: LB.drop (k + 1) := by rw [List.drop_eq_getElem_cons hlt, hxe]
      have hzx := HZ.out x (List.mem_of_getElem? hx)
      have h1 := HI.out.1
      have h2 := HI.out.2
      rw [hdr] at h1 h2
      simp only [mkRs] at h1
      have hy : (mkRs s LB)[k]? = some (mkR t x) := by
        have : ((mkRs s LB).drop k)[0]? = some (mkR t x) := by rw [h1]; rfl
        rwa [List.getElem?_drop, Nat.add_zero] at this
      have HI2 : Hid ((mkRs s LB).drop (k + 1) = mkRs (mkNx t x) (LB.drop (k + 1)) ∧ mkN (mkNx t x) (LB.drop (k + 1)) = mkN s LB) := Lib.hid ⟨by
        have := congrArg (List.drop 1) h1
        rw [List.drop_drop] at this
        simpa using this, h2⟩
      obtain ⟨b, off, rfl, ⟨q0, q1, q2, q3, q4⟩, hm⟩ := HA.out.at hy
      simp only [mkR, pmarkG_len] at q0 q1 q2 q3 q4
      have hmP : IntA wr x.a (pmarkG (t + 2) x.P.length) := hm.1.1
      have hmM : IntA wr x.d (pmarkG (t + 3 + x.P.length) x.M.length) := hm.1.2
      have HP := Lib.hid hmP
      have HM := Lib.hid hmM
      have n1 : ¬ ((t + 2 + x.P.length : Nat) : Int) < 0 := by omega
      have e1 : ((t : Int) != (t : Int)) = false := by simp
      have e2 : (((t : Int) + 1) != ((t : Int) + 1)) = false := by simp
      have hnx : t + 3 + x.P.length + x.M.length = mkNx t x := rfl
      have hnb : mkNx t x ≤ s + (k + 1) * 2100000 := by rw [← hnx]; omega
      have n2 : ¬ ((mkNx t x : Nat) : Int) < 0 := by omega
      clear hx hxe hdr h1 h2 hy hm hmP hmM HI
      generalize hu : t + 2 + x.P.length = u at *
      have hu2 : u ≤ 4000000000000 := by omega
      have e3 : ((u : Int) != (u : Int)) = false := by simp
      have HU := Lib.hid hu
      clear hu
      go_wp2_with fail
      refine (bheld_z _ (t + 2) (by omega) _ _ _ _ HP.out (by omega) (by omega)).mono ?_
      rintro en w3 ⟨rfl, rfl⟩
      rw [HU.out]
      go_wp2_with fail
      refine (bheld_z _ (t + 3 + x.P.length) (by have := HU.out; omega) _ _ _ _ HM.out (by omega) (by omega)).mono ?_
      rintro en w3 ⟨rfl, rfl⟩
      rw [hnx]
      generalize mkNx t x = t2 at *
      clear q0 q1 q2 q3 q4 hnx
      go_wp2_with fail
      go_roundw
      case rel => exact ⟨k + 1, t2, by omega, by go_num, rfl, hnb, HI2, by first | rfl | trivial⟩
      case measure => simp [intOf]; omega
    · obtain rfl : k = LB.length := by omega
      have h2 := HI.out.2
      rw [List.drop_length] at h2
      simp only [mkN] at h2
      subst h2
      go_wp2_with fail
      go_ret
      exact ⟨rfl, rfl⟩

theorem zrv_blk (b : Nat) : ¬ zRV.blk b := fun h => by rcases h with h | h <;> simp [zRV, Value.ownBlock] at h
theorem par_rep {W : World} {R g n : Nat} (h : OwnW W R g n (List.replicate n zRV)) : PaR W R (.slice (some ⟨g, 0, none⟩) (List.replicate n zRV).length n) (List.replicate n zRV) := by
  refine ⟨h, fun x hx => ?_, ?_, fun x hx => ?_⟩
  · obtain rfl := List.eq_of_mem_replicate hx
    exact ⟨owni_nil _ _, owni_nil _ _⟩
  · rw [List.pairwise_iff_getElem]
    intro i j hi hj _ b hb
    rw [List.getElem_replicate] at hb
    exact (zrv_blk b hb).elim
  · obtain rfl := List.eq_of_mem_replicate hx
    intro b hb
    exact (zrv_blk b (.inl hb)).elim
/-- a route made later is put in -/
theorem PaR.put {w2 w3 : World} {R g c k N : Nat} {LB : List RV} {y : RV} (h : PaR w2 R (.slice (some ⟨g, 0, none⟩) LB.length c) LB) (hk : k < LB.length) (hN : R ≤ N) (hlt : ∀ x ∈ LB, ∀ b, x.blk b → b < N) (hy : y.own w2 N) (hs : y.self)
    (hrow : w3.ownsRow R 32 5 (.slice (some ⟨g, 0, none⟩) LB.length c) LB.length (cells5 (LB.set k y))) (hg : w2.grownBy w3 (some g)) : PaR w3 R (.slice (some ⟨g, 0, none⟩) LB.length c) (LB.set k y) := by
  have keep : ∀ x : RV, x.own w2 R → x.own w3 R := fun x hx => ⟨World.ownsRow.kept hx.1 hg (by have := rows_apart hx.1 h.row (by decide); exact this), World.ownsRow.kept hx.2 hg (by have := rows_apart hx.2 h.row (by decide); exact this)⟩
  refine ⟨by rw [OwnV, List.length_set]; exact hrow, fun z hz => ?_, ?_, fun z hz => ?_⟩
  · rcases List.mem_or_eq_of_mem_set hz with q | rfl
    · exact keep z (h.own z q)
    · exact keep z (hy.mono hN)
  · rw [List.pairwise_iff_getElem]
    intro i j hi hj hij
    have hi' : i < LB.length := by simpa using hi
    have hj' : j < LB.length := by simpa using hj
    rw [List.getElem_set, List.getElem_set]
    by_cases e1 : k = i
    · rw [if_pos e1, if_neg (by omega)]
      intro b hb hb2
      have h1 := (hy.lt hb).1
      have h2 := hlt _ (List.getElem_mem hj') b hb2
      omega
    · rw [if_neg e1]
      by_cases e2 : k = j
      · rw [if_pos e2]
        intro b hb hb2
        have h1 := (hy.lt hb2).1
        have h2 := hlt _ (List.getElem_mem hi') b hb
        omega
      · rw [if_neg e2]
        exact h.apAt (List.getElem?_eq_getElem hi') (List.getElem?_eq_getElem hj') (by omega)
  · rcases List.mem_or_eq_of_mem_set hz with q | rfl
    · exact h.self z q
    · exact hs
/-- routes of one's own, in blocks between two numbers -/
structure PaB (W : World) (lo hi : Nat) (v : Value) (L : List RV) : Prop where
  par : PaR W lo v L
  row : ∀ b, v.ownBlock = some b → b < hi
  blk : ∀ x ∈ L, ∀ b, x.blk b → b < hi
theorem PaR.pab {W : World} {lo : Nat} {v : Value} {L : List RV} (h : PaR W lo v L) : PaB W lo W.heap.size v L := ⟨h, fun b hb => (World.ownsRow.lt h.row b hb).2, fun x hx b hb => ((h.own x hx).lt hb).2⟩
theorem PaB.later {W W' : World} {lo hi : Nat} {v : Value} {L : List RV} (h : PaB W lo hi v L) (k : Below W.heap.size W W') : PaB W' lo hi v L := ⟨h.par.later k, h.row, h.blk⟩
theorem PaB.tch {W W' : World} {lo hi : Nat} {v : Value} {L : List RV} {S : Nat → Prop} (h : PaB W lo hi v L) (T : Tch S W W') (hS : ∀ b, S b → b < lo ∨ hi ≤ b) : PaB W' lo hi v L :=
  ⟨⟨Tch.own h.par.row T (fun b hb hs => by
      have h1 := (World.ownsRow.lt h.par.row b hb).1
      have h2 := h.row b hb
      rcases hS b hs with q | q <;> omega),
    fun x hx => ⟨Tch.own (h.par.own x hx).1 T (fun b hb hs => by
      have h1 := ((h.par.own x hx).lt (.inl hb)).1
      have h2 := h.blk x hx b (.inl hb)
      rcases hS b hs with q | q <;> omega), Tch.own (h.par.own x hx).2 T (fun b hb hs => by
      have h1 := ((h.par.own x hx).lt (.inr hb)).1
      have h2 := h.blk x hx b (.inr hb)
      rcases hS b hs with q | q <;> omega)⟩, h.par.ap, h.par.self⟩, h.row, h.blk⟩
theorem PaR.rsa {W : World} {R n c : Nat} {a : Option Addr} {L : List RV} (h : PaR W R (.slice a n c) L) (hs : ∀ x ∈ L, x.P.length ≤ 2000000 ∧ x.M.length ≤ 2000000) : RsA W a L :=
  OwnV.rsa h.row (fun x hx => (h.own x hx).m (hs x hx).1 (hs x hx).2)
theorem rt_small {L M : List RV} {N : Nat} (he : L.map RV.rt = M.map RV.rt) (hs : ∀ v ∈ M, v.P.length ≤ N ∧ v.M.length ≤ N) : ∀ x ∈ L, x.P.length ≤ N ∧ x.M.length ≤ N := fun x hx => by
  have : x.rt ∈ M.map RV.rt := by rw [← he]; exact List.mem_map_of_mem hx
  obtain ⟨y, hy, e⟩ := List.mem_map.1 this
  have h := hs y hy
  simp only [RV.rt, Prod.mk.injEq] at e
  rw [e.2.2.1, e.2.2.2.2] at h
  exact h
theorem pol_small {Lp : List CL} {l : List Rt} {L : List RV} (hk : L.map RV.rt = polAll Lp l) : ∀ x ∈ L, x.P.length ≤ 9 ∧ x.M.length ≤ 9 := fun x hx => by
  have g := polAll_good Lp l x.rt (by rw [← hk]; exact List.mem_map_of_mem hx)
  have h1 : x.P.length ≤ 5 := g.path.len
  have h2 : x.M.length ≤ 9 := g.marks.len
  omega
theorem mkRs_small {N : Nat} : ∀ {t : Nat} {L : List RV}, (∀ x ∈ L, x.P.length ≤ N ∧ x.M.length ≤ N) → ∀ y ∈ mkRs t L, y.P.length ≤ N ∧ y.M.length ≤ N
  | _, [], _, y, hy => by simp [mkRs] at hy
  | t, x :: L, h, y, hy => by
    simp only [mkRs, List.mem_cons] at hy
    rcases hy with rfl | hy
    · have := h x (by simp); simp only [mkR, pmarkG_len]; exact this
    · exact mkRs_small (fun z hz => h z (by simp [hz])) y hy

set_option maxRecDepth 100000 in
set_option maxHeartbeats 2000000 in
theorem szs_z (Z0 : Int) (hZ0 : 0 ≤ Z0) (hZ1 : Z0 ≤ 1048576) (L : List RV) (a : Option Addr) (cap n : Nat) (w : World) (hn : n = L.length) (hA : RsB w a L) (hl : L.length ≤ 9223372036854775807) :
    Calls Tryz.prog 17 #[.slice a n cap, .int .i64 Z0] w fun e w' => ∃ z, e = .returned (.int .i64 z) ∧ (0 ≤ z → L.length ≤ 1048576 ∧ ∀ v ∈ L, v.P.length ≤ 1048576 ∧ v.M.length ≤ 1048576) ∧ Below w.heap.size w w' := by
  subst hn
  have HA := Lib.hid hA
  clear hA
  have s1 : IntKind.i64.wrap (Z0 - (L.length : Int)) = Z0 - (L.length : Int) := by rw [IntKind.wrap_i64]; omega
  by_cases hbig : Z0 < L.length
  · have d1 : Z0 - (L.length : Int) < 0 := by omega
    go_enter Tryz.func17, Tryz.ntmps17
    go_wp2_with fail
    go_ret
    exact ⟨-1, rfl, fun h => by omega, Below.refl _ _⟩
  · have d1 : ¬ Z0 - (L.length : Int) < 0 := by omega
    go_enter Tryz.func17, Tryz.ntmps17
    go_wp2_with fail
    go_loopw [1, 5] (fun q i wr => ∃ (k : Nat) (z : Int), i = .int .i64 (k : Int) ∧ q = .int .i64 z ∧ k ≤ L.length ∧ 0 ≤ z ∧ z ≤ 1048576 ∧ Hid (∀ (j : Nat) v, j < k → L[j]? = some v → v.P.length ≤ 1048576 ∧ v.M.length ≤ 1048576) ∧ Hid (Below w.heap.size w wr)) (fun _ i _ => L.length - (intOf i).toNat)
    case atStart => exact ⟨0, _, rfl, rfl, Nat.zero_le _, by omega, by omega, Lib.hid (fun j v hj => by omega), Lib.hid (Below.refl _ _)⟩
    case round =>
      obtain ⟨k, z, rfl, rfl, hk, hz0, hz1, HS, HW⟩ := hrel
      by_cases hlt : k < L.length
      · obtain ⟨v, hv⟩ : ∃ v, L[k]? = some v := ⟨_, List.getElem?_eq_getElem hlt⟩
        have HV := Lib.hid hv
        have hmem := List.mem_of_getElem? hv
        have hB := HA.out.below HW.out
        obtain ⟨b, off, rfl, q0, q1, q2, q3, q4⟩ : ∃ b off, a = some ⟨b, off, none⟩ ∧ wr.cell? ⟨b, off + k * 5, none⟩ = some (.int .i64 v.f) ∧ wr.cell? ⟨b, off + k * 5 + 1, none⟩ = some (.int .i64 v.b) ∧ wr.cell? ⟨b, off + k * 5 + 2, none⟩ = some (.slice v.a v.P.length v.c) ∧ wr.cell? ⟨b, off + k * 5 + 3, none⟩ = some (.int .i64 v.l) ∧ wr.cell? ⟨b, off + k * 5 + 4, none⟩ = some (.slice v.d v.M.length v.e) := by
          rcases hB.1 with rfl | ⟨b, off, e, h⟩
          · simp at hv
          · obtain ⟨h0, h1, h2, h3, h4⟩ := h k v hv
            exact ⟨b, off, e, h0, h1, h2, h3, h4⟩
        have hp1 := (hB.2 v hmem).2.1
        have hp2 := (hB.2 v hmem).2.2
        have i0 : (0 : Int) ≤ (k : Int) := by omega
        have i1 : (k : Int) < (L.length : Int) := by omega
        clear hv hmem hB
        by_cases hfit : (v.P.length : Int) + v.M.length ≤ z
        · have HZ := Lib.hid (szR_pos hfit)
          have d2 : ¬ z - (v.P.length : Int) - (v.M.length : Int) < 0 := by omega
          have HS2 : Hid (∀ (j : Nat) u, j < k + 1 → L[j]? = some u → u.P.length ≤ 1048576 ∧ u.M.length ≤ 1048576) := Lib.hid (fun j u hj hu => by
            by_cases e : j = k
            · subst e
              rw [HV.out] at hu
              cases hu
              omega
            · exact HS.out j u (by omega) hu)
          obtain ⟨y, hy⟩ : ∃ y, z - (v.P.length : Int) - (v.M.length : Int) = y := ⟨_, rfl⟩
          rw [hy] at HZ d2
          have hy0 : 0 ≤ y ∧ y ≤ 1048576 := by omega
          clear hy hfit
          go_wp2_with fail
          refine (szrt_is v.f v.b v.l v.a v.d _ v.c _ v.e HZ.out hz0 (by omega) hp1 hp2 _).mono ?_
          rintro en w3 ⟨rfl, b3⟩
          have HW3 := Lib.hid (next HW.out b3)
          clear b3 q0 q1 q2 q3 q4
          go_wp2_with fail
          go_roundw
          case rel => exact ⟨k + 1, y, by go_num, rfl, by omega, hy0.1, hy0.2, HS2, HW3⟩
          case measure => simp [intOf]; omega
        · have HZ := Lib.hid (szR_neg (left := z) (n := v.P.length) (m := v.M.length) (by omega))
          go_wp2_with fail
          refine (szrt_is v.f v.b v.l v.a v.d _ v.c _ v.e HZ.out hz0 (by omega) hp1 hp2 _).mono ?_
          rintro en w3 ⟨rfl, b3⟩
          have HW3 := Lib.hid (next HW.out b3)
          clear b3 q0 q1 q2 q3 q4
          go_wp2_with fail
          go_ret
          exact ⟨-1, rfl, fun h => by omega, HW3.out⟩
      · obtain rfl : k = L.length := by omega
        go_wp2_with fail
        go_ret
        exact ⟨z, rfl, fun _ => ⟨by omega, fun v hv => by
          obtain ⟨i, hi⟩ := List.mem_iff_getElem?.1 hv
          exact HS.out i v (List.getElem?_eq_some_iff.1 hi).1 hi⟩, HW.out⟩


/-- marks into own routes, nil ones too -/
theorem markrts_any (s : Nat) (hs : s ≤ 100000000) (LB : List RV) (v : Value) (R S : Nat) (w : World) (h : PaB w R S v LB) (hl : LB.length ≤ 1048576) (hz : ∀ x ∈ LB, x.P.length ≤ 1048576 ∧ x.M.length ≤ 1048576) :
    Calls Tryz.prog 22 #[v, .int .i64 (s : Int)] w fun e w' => e = .returned (.int .i64 ((mkN s LB : Nat) : Int)) ∧ PaR w' R v (mkRs s LB) ∧ Tch (fun b => R ≤ b ∧ b < S) w w' := by
  obtain ⟨_, h2⟩ := id h.par.row
  rcases h2 with ⟨rfl, h0⟩ | ⟨g, cap, cur, rfl, _⟩
  · have hL : LB = [] := List.eq_nil_of_length_eq_zero h0
    subst hL
    have HO := Lib.hid h.par
    clear h
    go_enter Tryz.func22, Tryz.ntmps22
    go_wp2_with fail
    refine wp_loop_rounds 1 ?_
    rw [rounds_succ]
    go_wp2_with fail
    go_ret
    exact ⟨by simp [mkN], HO.out, Tch.refl _ _⟩
  · exact markrts_own s hs LB g cap R S w h.par hl hz (h.row g (by simp [Value.ownBlock])) h.blk

/-- how far the copy has come -/
def ToJ (w : World) (L : List RV) (g n k : Nat) (LB : List RV) (W : World) : Prop :=
  LB.length = n ∧ OwnW W w.heap.size g n LB ∧ (∀ (j : Nat) y v, j < k → LB[j]? = some y → L[j]? = some v → y.own W w.heap.size ∧ y.rt = v.rt) ∧ Below w.heap.size w W ∧ PaR W w.heap.size (.slice (some ⟨g, 0, none⟩) LB.length n) LB

set_option maxRecDepth 100000 in
set_option maxHeartbeats 2000000 in
theorem tos_own (L : List RV) (a : Option Addr) (cap n : Nat) (w : World) (hn : n = L.length) (hA : RsA w a L) (hl : L.length ≤ 1048576) (hs : ∀ v ∈ L, v.P.length ≤ 1048576 ∧ v.M.length ≤ 1048576) :
    Calls Tryz.prog 19 #[.slice a n cap] w fun e w' => ∃ (LB : List RV) (g c : Nat), e = .returned (.slice (some ⟨g, 0, none⟩) LB.length c) ∧ PaR w' w.heap.size (.slice (some ⟨g, 0, none⟩) LB.length c) LB ∧ LB.map RV.rt = L.map RV.rt ∧ Below w.heap.size w w' := by
  subst hn
  have HA := Lib.hid hA
  have HS := Lib.hid hs
  obtain ⟨i0, hi, hz0, hz1, hz2⟩ := info_parts infoR
  clear hA hs
  go_enter Tryz.func19, Tryz.ntmps19
  go_wp2_with (first | (refine wpList_make_full _ rfl (.tmp 6) (.tmp 6) 45 rfl w.heap.size 32 i0 (.agg #[.int .i64 0, .int .i64 0, .slice none 0 0, .int .i64 0, .slice none 0 0]) 5 Tryz.underlying45 hi hz0 hz1 .i64 .i64 _ _ L.length rfl rfl rfl rfl (by rw [hz2]; omega) (by unfold maxLen; omega) (by simp) ?_; intro w1 own1 grow1; have HBm := Lib.hid (And.intro own1 grow1); clear own1 grow1))
  have own1 := HBm.out.1
  rw [show (Value.agg #[.int .i64 0, .int .i64 0, .slice none 0 0, .int .i64 0, .slice none 0 0]).cells = #[.int .i64 0, .int .i64 0, .slice none 0 0, .int .i64 0, .slice none 0 0] from rfl, madeV] at own1
  have hb1 : Below w.heap.size w w1 := (Below.refl _ w).grown HBm.out.2 (Nat.le_refl _) (fun _ h => by cases h)
  have I0 : Hid (ToJ w L w.heap.size L.length 0 (List.replicate L.length zRV) w1) := Lib.hid ⟨by simp, by rw [OwnW, List.length_replicate]; simpa using own1, fun j y v hj => by omega, hb1, par_rep (by rw [OwnW, List.length_replicate]; simpa using own1)⟩
  clear own1 hb1 HBm
  go_loopw [4] (fun i wr => ∃ (k : Nat) (LB : List RV), i = .int .i64 (k : Int) ∧ k ≤ L.length ∧ Hid (ToJ w L w.heap.size L.length k LB wr)) (fun i _ => L.length - (intOf i).toNat)
  case atStart => exact ⟨0, _, rfl, Nat.zero_le _, I0⟩
  case round =>
    clear I0
    obtain ⟨k, LB, rfl, hk, HI⟩ := hrel
    by_cases hlt : k < L.length
    · obtain ⟨v, hv⟩ : ∃ v, L[k]? = some v := ⟨_, List.getElem?_eq_getElem hlt⟩
      obtain ⟨b, off, rfl, ⟨q0, q1, q2, q3, q4⟩, hm⟩ := (HA.out.below HI.out.2.2.2.1).at hv
      have HV := Lib.hid hv
      have hsv := HS.out v (List.mem_of_getElem? hv)
      have i0' : (0 : Int) ≤ (k : Int) := by omega
      have i1 : (k : Int) < (L.length : Int) := by omega
      have hsz := HI.out.2.2.2.1.size
      clear hv
      go_wp2_with fail
      refine (tort_is v.f v.b v.a v.c v.P v.l v.d v.e v.M _ hm hsv.1 hsv.2).mono ?_
      rintro en w2 ⟨pv, mv, rfl, hOR⟩
      have HOR := Lib.hid hOR
      obtain ⟨S, o1, bP, o2, hS, b2⟩ := hOR
      replace o1 : OwnI w2 wr.heap.size pv v.P := o1
      replace o2 : OwnI w2 S mv v.M := o2
      obtain ⟨a2, c2, rfl, _, _⟩ := OwnI.tab o1
      obtain ⟨d2, e2, rfl, _, _⟩ := OwnI.tab o2
      obtain ⟨y, hy⟩ : ∃ y : RV, y = ⟨v.f, v.b, a2, c2, v.P, v.l, d2, e2, v.M⟩ := ⟨_, rfl⟩
      have HW2 := Lib.hid (next HI.out.2.2.2.1 b2)
      have HO2 : Hid (OwnW w2 w.heap.size w.heap.size L.length LB) := Lib.hid (World.ownsRow.kept HI.out.2.1 (row := none) ⟨b2.os, b2.tape, b2.output, b2.size, fun i hi _ => b2.block i hi⟩ (.inr (by simp [Value.ownBlock])))
      have HE2 : Hid (∀ (j : Nat) x u, j < k → LB[j]? = some x → L[j]? = some u → x.own w2 w.heap.size ∧ x.rt = u.rt) := Lib.hid (fun j x u hj hx hu => ⟨⟨owni_later (HI.out.2.2.1 j x u hj hx hu).1.1 b2, owni_later (HI.out.2.2.1 j x u hj hx hu).1.2 b2⟩, (HI.out.2.2.1 j x u hj hx hu).2⟩)
      have HY : Hid (y.own w2 w.heap.size ∧ y.rt = v.rt) := Lib.hid (by rw [hy]; exact ⟨⟨owni_mono o1 hsz, owni_mono o2 (Nat.le_trans hsz hS)⟩, rfl⟩)
      have hlb := HI.out.1
      have hkl : k < LB.length := by omega
      have HPR2 := Lib.hid (HI.out.2.2.2.2.later b2)
      have HYS : Hid (y.own w2 wr.heap.size ∧ y.self) := Lib.hid (by rw [hy]; exact HOR.out.rv)
      have HLT := Lib.hid (show ∀ x ∈ LB, ∀ b, x.blk b → b < wr.heap.size from fun x hx b hb => ((HI.out.2.2.2.2.own x hx).lt hb).2)
      have HP := Lib.hid (OwnW.put HO2.out hkl y)
      obtain ⟨z, hz⟩ : ∃ z, LB[k]? = some z := ⟨_, List.getElem?_eq_getElem hkl⟩
      have cA := OwnW.cellsA HO2.out
      have r0 := cA _ _ (cells5_at (j := 0) hz (by omega))
      have r1 := cA _ _ (cells5_at (j := 1) hz (by omega))
      have r2 := cA _ _ (cells5_at (j := 2) hz (by omega))
      have r3 := cA _ _ (cells5_at (j := 3) hz (by omega))
      have r4 := cA _ _ (cells5_at (j := 4) hz (by omega))
      simp only [Nat.add_zero] at r0
      have u0 := OwnW.fz HO2.out (k * 5)
      have u1 := OwnW.fz HO2.out (k * 5 + 1)
      have u2 := OwnW.fz HO2.out (k * 5 + 2)
      have u3 := OwnW.fz HO2.out (k * 5 + 3)
      have u4 := OwnW.fz HO2.out (k * 5 + 4)
      have hlow := (OwnW.low HO2.out).1
      have j1 : (k : Int) < (LB.length : Int) := by omega
      have HLB := Lib.hid hlb
      clear o1 o2 bP hS b2 q0 q1 q2 q3 q4 hm hz cA HI hlb
      go_wp2_with fail
      clear r0 r1 r2 r3 r4 u0 u1 u2 u3 u4
      have hX0 : set5o w2 w.heap.size (k * 5) y = set5o w2 w.heap.size (k * 5) ⟨v.f, v.b, a2, c2, v.P, v.l, d2, e2, v.M⟩ := by rw [hy]
      rw [hX0] at HP
      generalize hX : set5o w2 w.heap.size (k * 5) ⟨v.f, v.b, a2, c2, v.P, v.l, d2, e2, v.M⟩ = w3 at *
      unfold set5o at hX
      dsimp only at hX
      rw [hX]
      have HI3 : Hid (ToJ w L w.heap.size L.length (k + 1) (LB.set k y) w3) := Lib.hid ⟨by rw [List.length_set]; exact HLB.out, HP.out.1, fun j x u hj hx hu => by
        by_cases e : j = k
        · subst e
          rw [List.getElem?_set_self hkl] at hx
          rw [HV.out] at hu
          cases hx
          cases hu
          exact ⟨⟨owni_far HO2.out HY.out.1.1 HP.out.2, owni_far HO2.out HY.out.1.2 HP.out.2⟩, HY.out.2⟩
        · rw [List.getElem?_set_ne (fun h => e h.symm)] at hx
          have h := HE2.out j x u (by omega) hx hu
          exact ⟨⟨owni_far HO2.out h.1.1 HP.out.2, owni_far HO2.out h.1.2 HP.out.2⟩, h.2⟩, HW2.out.grown HP.out.2 HW2.out.size (fun q e => by cases e; omega), by
          have h := PaR.put HPR2.out hkl hsz HLT.out HYS.out.1 HYS.out.2 (by have := HP.out.1; rw [OwnW, List.length_set] at this; rw [HLB.out]; rw [HLB.out] at this; exact this) (by have h := HP.out.2; exact h)
          rw [List.length_set]; rw [HLB.out] at h ⊢; exact h⟩
      clear hX hX0 HP HO2 HE2 HY HW2 HPR2 HYS HLT HOR
      go_wp2_with fail
      go_roundw
      case rel => exact ⟨k + 1, LB.set k y, by go_num, by omega, HI3⟩
      case measure => simp [intOf]; omega
    · obtain rfl : k = L.length := by omega
      have hlb := HI.out.1
      have HLB := Lib.hid hlb
      have HR : Hid (LB.map RV.rt = L.map RV.rt) := Lib.hid (List.ext_getElem? fun j => by
        rw [List.getElem?_map, List.getElem?_map]
        by_cases hj : j < L.length
        · have h1 : LB[j]? = some LB[j] := List.getElem?_eq_getElem (by omega)
          have h2 : L[j]? = some L[j] := List.getElem?_eq_getElem hj
          rw [h1, h2]
          simp only [Option.map_some]
          rw [(HI.out.2.2.1 j _ _ hj h1 h2).2]
        · rw [List.getElem?_eq_none (by omega), List.getElem?_eq_none (by omega)])
      have HF := Lib.hid HI.out.2.2.2.2
      clear hlb
      go_wp2_with fail
      go_ret
      exact ⟨LB, w.heap.size, L.length, by rw [HLB.out]; rfl, HF.out, HR.out, HI.out.2.2.2.1⟩
end Go.Proofs.YtioppkalehnoaaaGreatDoor
