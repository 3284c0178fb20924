/-
  Marks into seals of one's own, and what they hold.
-/
import Derived.Test.YtnnmgbgkgnejlaaDoorSlEb
namespace Go.Proofs.YtnnmgbgkgnejlaaDoor
open Go.RowKit
set_option linter.unusedSimpArgs false
set_option linter.unusedVariables false

/-- marked seals -/
def mkS (t : Nat) (x : SV) : SV := ⟨(t : Int), ((t + 1 : Nat) : Int), ((t + 2 : Nat) : Int), ((t + 3 : Nat) : Int), x.a, x.c, pmarkG (t + 4) x.P.length⟩
def mkSx (t : Nat) (x : SV) : Nat := t + 4 + x.P.length
def mkSs : Nat → List SV → List SV
  | _, [] => []
  | t, x :: L => mkS t x :: mkSs (mkSx t x) L
def mkSn : Nat → List SV → Nat
  | t, [] => t
  | t, x :: L => mkSn (mkSx t x) L
theorem mkSs_len : ∀ (t : Nat) (L : List SV), (mkSs t L).length = L.length
  | _, [] => rfl
  | t, x :: L => by simp [mkSs, mkSs_len]
theorem SV.ap.symm' {x y : SV} (h : x.ap y) : y.ap x := fun k h1 h2 => h k h2 h1
theorem SlR.apAt {W : World} {R : Nat} {v : Value} {L : List SV} (h : SlR W R v L) {i j : Nat} {x y : SV} (hx : L[i]? = some x) (hy : L[j]? = some y) (hij : i ≠ j) : x.ap y := by
  obtain ⟨hi, rfl⟩ := List.getElem?_eq_some_iff.1 hx
  obtain ⟨hj, rfl⟩ := List.getElem?_eq_some_iff.1 hy
  rcases Nat.lt_or_gt_of_ne hij with k | k
  · exact (List.pairwise_iff_getElem.1 h.ap) i j hi hj k
  · exact ((List.pairwise_iff_getElem.1 h.ap) j i hj hi k).symm'
theorem sv_blk {x y : SV} (ha : y.a = x.a) : y.s.ownBlock = x.s.ownBlock := by
  unfold SV.s; rw [ha]; cases x.a <;> rfl
theorem cellsSl_set4 {L : List SV} {k : Nat} {x y : SV} (hx : L[k]? = some x) (ha : y.a = x.a) (hc : y.c = x.c) (hP : y.P.length = x.P.length) :
    ((((cellsSl L).set (k * 5) (.int .i64 y.y)).set (k * 5 + 1) (.int .i64 y.t)).set (k * 5 + 2) (.int .i64 y.f)).set (k * 5 + 3) (.int .i64 y.b) = cellsSl (L.set k y) := by
  have hk := (List.getElem?_eq_some_iff.1 hx).1
  have e1 : L = L.take k ++ x :: L.drop (k + 1) := by
    have h1 := rw_mid x L k hk
    rw [← h1]
    refine List.ext_getElem? fun j => ?_
    by_cases e : j = k
    · subst e; rw [List.getElem?_set_self hk]; exact hx
    · rw [List.getElem?_set_ne (fun h => e h.symm)]
  have e2 : L.set k y = L.take k ++ y :: L.drop (k + 1) := rw_mid y L k hk
  have hA : (cellsSl (L.take k)).length = k * 5 := by rw [cellsSl_len, List.length_take, Nat.min_eq_left (by omega)]
  have e3 : cellsSl L = cellsSl (L.take k) ++ (x.cells ++ cellsSl (L.drop (k + 1))) := by
    conv => lhs; rw [e1]
    rw [cellsSl_app, cellsSl_cons]
  rw [e2, e3, cellsSl_app, cellsSl_cons]
  generalize cellsSl (L.take k) = A at *
  generalize cellsSl (L.drop (k + 1)) = B at *
  rw [List.set_append_right _ _ (by omega), List.set_append_right _ _ (by omega), List.set_append_right _ _ (by omega), List.set_append_right _ _ (by omega), hA, show k * 5 - k * 5 = 0 by omega, show k * 5 + 1 - k * 5 = 1 by omega, show k * 5 + 2 - k * 5 = 2 by omega, show k * 5 + 3 - k * 5 = 3 by omega]
  congr 1
  unfold SV.cells
  rw [ha, hc, hP]
  rfl
/-- one seal was marked -/
theorem SlR.step {wr w5 : World} {R g cap k : Nat} {CUR : List SV} {x y : SV} (h : SlR wr R (.slice (some ⟨g, 0, none⟩) CUR.length cap) CUR) (hx : CUR[k]? = some x) (ha : y.a = x.a)
    (hrow : OwnSl w5 R (.slice (some ⟨g, 0, none⟩) (CUR.set k y).length cap) (CUR.set k y)) (hy : OwnI w5 R y.s y.P) (keep : ∀ z : SV, OwnI wr R z.s z.P → z.ap x → OwnI w5 R z.s z.P) : SlR w5 R (.slice (some ⟨g, 0, none⟩) (CUR.set k y).length cap) (CUR.set k y) := by
  have hk := (List.getElem?_eq_some_iff.1 hx).1
  refine ⟨hrow, fun z hz => ?_, ?_⟩
  · obtain ⟨j, hj⟩ := List.mem_iff_getElem?.1 hz
    by_cases e : j = k
    · subst e; rw [List.getElem?_set_self hk] at hj; cases hj; exact hy
    · rw [List.getElem?_set_ne (fun q => e q.symm)] at hj
      exact keep z (h.own z (List.mem_of_getElem? hj)) (h.apAt hj hx e)
  · rw [List.pairwise_iff_getElem]
    intro i j hi hj hij
    have hi' : i < CUR.length := by simpa using hi
    have hj' : j < CUR.length := by simpa using hj
    rw [List.getElem_set, List.getElem_set]
    by_cases e1 : k = i
    · subst e1
      have e2 : k ≠ j := by omega
      rw [if_pos rfl, if_neg e2]
      intro b hb hb2
      rw [sv_blk ha] at hb
      exact h.apAt hx (List.getElem?_eq_getElem hj') e2 b hb hb2
    · rw [if_neg e1]
      by_cases e2 : k = j
      · subst e2
        rw [if_pos rfl]
        intro b hb hb2
        rw [sv_blk ha] at hb2
        exact h.apAt (List.getElem?_eq_getElem hi') hx (fun q => e1 q.symm) b hb hb2
      · rw [if_neg e2]
        exact h.apAt (List.getElem?_eq_getElem hi') (List.getElem?_eq_getElem hj') (by omega)
/-- one cell of an own row is stored: the world behind it is a letter -/
theorem wpList_stP {P : Program} {ops : Array Oper} {rest : List Oper} {op : Oper} {a : Act} {w : World} {Q : Exit → Act → World → Prop} (hgd : op.guard = none) (ty : TypeId) (x y : Operand) (ho : op.op = .store ty x y)
    (g i : Nat) (v : Value) (hx : a.eval x = .pointer (some ⟨g, i, none⟩)) (hy : a.eval y = v) (hc : v.cells = #[v]) (h1 : v.oneCell' = true) (hi : (P.info? ty).map (·.size) = some 1)
    (R cap n z : Nat) (e : TypeId) (xs : List Value) (hO : w.ownsRow R e z (.slice (some ⟨g, 0, none⟩) n cap) n xs) (hil : i < xs.length)
    (h : ∀ w', w'.ownsRow R e z (.slice (some ⟨g, 0, none⟩) n cap) n (xs.set i v) → w.grownBy w' (some g) → wpList P ops Q rest (a.put op.dst undef) w') : wpList P ops Q (op :: rest) a w := by
  refine wpList_plain hgd fun K hK => ?_
  have q1 : w.cell? ⟨g, i, none⟩ = some xs[i] := by
    have := World.ownsRow.cells hO (g := g) rfl i _ (List.getElem?_eq_getElem hil)
    rwa [Addr.add_mid, Nat.zero_add] at this
  have q2 := World.ownsRow.frozenAt hO i
  have ht : w.there g i 1 := fun j hj => by
    have e : j = 0 := by omega
    subst e
    exact ⟨by rw [Nat.add_zero, q1]; rfl, by rw [Nat.add_zero]; exact q2⟩
  have hr : (storeVar ty ⟨g, i, none⟩ v).run P w = .ok () (w.setCells g i [v]) := by
    have := run_storeCells_cells (P := P) g i [v] 0 w (fun j hj => by simpa using (ht j (by simpa using hj)).1) (fun j hj => by simpa using (ht j (by simpa using hj)).2) (fun u hu => by simp at hu; subst hu; exact h1)
    cases hq : P.info? ty with
    | none => simp [hq] at hi
    | some q =>
      have hs : 1 = q.size := by simp [hq] at hi; omega
      simp only [Nat.add_zero] at this
      simp [storeVar, sizeOf, typeInfo, hq, hc, hs.symm, this]
  unfold Oper.wp execOp
  simp only [ho, hx, hy, Instr.storeAt, Instr.sureAddr, Sem.run_bind, Sem.run_pure, Result.andThen_ok, hr]
  exact hK _ _ (h _ (World.ownsRow.stored hO i v).1 (onlyY_sets [v] i w))
theorem gmark_z (z : Int) (s : Nat) (hz : z = (s : Int)) (v : Value) (L : List Int) (R : Nat) (w : World) (ho : OwnI w R v L) (hl : L.length ≤ 2000000) (hs : s ≤ 3000000) :
    Calls Tryd.prog 83 #[v, .int .i64 z] w fun e w' => e = .returned (.int .i64 ((s + L.length : Nat) : Int)) ∧ OwnI w' R v (pmarkG s L.length) ∧ w.grownBy w' v.ownBlock := by
  subst hz; exact gmark_any s v L R w ho hl hs
theorem gheld_z (z : Int) (s : Nat) (hz : z = (s : Int)) (a : Option Addr) (cap n : Nat) (w : World) (hT : IntA w a (pmarkG s n)) (hl : n ≤ 2000000) (hs : s ≤ 3000000) :
    Calls Tryd.prog 84 #[.slice a n cap, .int .i64 z] w fun e w' => e = .returned (.int .i64 ((s + n : Nat) : Int)) ∧ w = w' := by
  subst hz; exact gheld_any s a cap n w hT hl hs
/-- how far the marks have come -/
structure MsI (w wr : World) (R : Nat) (g cap : Nat) (L : List SV) (s k t : Nat) (DONE : List SV) : Prop where
  len : DONE.length = k
  par : SlR wr R (.slice (some ⟨g, 0, none⟩) L.length cap) (DONE ++ L.drop k)
  rest : DONE ++ mkSs t (L.drop k) = mkSs s L
  num : mkSn t (L.drop k) = mkSn s L
  bel : Below R w wr
set_option maxRecDepth 100000 in
set_option maxHeartbeats 4000000 in
theorem marksls_own (s : Nat) (hs : s ≤ 1000) (L : List SV) (g cap R : Nat) (w : World) (hR : SlR w R (.slice (some ⟨g, 0, none⟩) L.length cap) L) (hl : L.length ≤ 1000) (hz : ∀ x ∈ L, x.P.length ≤ 1000) (hRw : R ≤ w.heap.size) :
    Calls Tryd.prog 41 #[.slice (some ⟨g, 0, none⟩) L.length cap, .int .i64 (s : Int)] w fun e w' => e = .returned (.int .i64 ((mkSn s L : Nat) : Int)) ∧ SlR w' R (.slice (some ⟨g, 0, none⟩) L.length cap) (mkSs s L) ∧ Below R w w' := by
  have HZ := Lib.hid hz
  have I0 : Hid (MsI w w R g cap L s 0 s []) := Lib.hid ⟨rfl, by simpa using hR, by simp, by simp, ⟨rfl, rfl, rfl, Nat.le_refl _, fun _ _ => rfl⟩⟩
  clear hR hz
  go_enter Tryd.func41, Tryd.ntmps41
  go_wp2_with fail
  go_loopw [1, 5] (fun q i wr => ∃ (k t : Nat) (DONE : List SV), k ≤ L.length ∧ i = .int .i64 k ∧ q = .int .i64 ((t : Nat) : Int) ∧ t ≤ s + k * 1004 ∧ Hid (MsI w wr R g cap L s k t DONE)) (fun _ i _ => L.length - (intOf i).toNat)
  case atStart => exact ⟨0, s, [], Nat.zero_le _, rfl, rfl, by omega, I0⟩
  case round =>
    clear I0
    obtain ⟨k, t, DONE, hk, rfl, rfl, ht, HI⟩ := hrel
    by_cases hlt : k < L.length
    · have j0 : (0 : Int) ≤ (k : Int) := by omega
      have j1 : (k : Int) < (L.length : Int) := by omega
      obtain ⟨x, hx⟩ : ∃ x, L[k]? = some x := ⟨_, List.getElem?_eq_getElem hlt⟩
      have hxe : L[k] = x := (List.getElem?_eq_some_iff.1 hx).2
      have hdr : L.drop k = x :: L.drop (k + 1) := by rw [List.drop_eq_getElem_cons hlt, hxe]
      obtain ⟨CUR, hCUR⟩ : ∃ C, C = DONE ++ L.drop k := ⟨_, rfl⟩
      have hlD := HI.out.len
      have hCl : CUR.length = L.length := by rw [hCUR, List.length_append, List.length_drop, hlD]; omega
      have hCx : CUR[k]? = some x := by rw [hCUR, hdr, List.getElem?_append_right (by omega), hlD, Nat.sub_self]; rfl
      have hset : ∀ y : SV, CUR.set k y = (DONE ++ [y]) ++ L.drop (k + 1) := fun y => by rw [hCUR, hdr, List.set_append_right _ _ (by omega), hlD, Nat.sub_self]; simp
      have hpar : SlR wr R (.slice (some ⟨g, 0, none⟩) CUR.length cap) CUR := by rw [hCl, hCUR]; exact HI.out.par
      have hox := hpar.own x (List.mem_of_getElem? hCx)
      have hzx := HZ.out x (List.mem_of_getElem? hx)
      have hrow : wr.ownsRow R 34 5 (.slice (some ⟨g, 0, none⟩) L.length cap) L.length (cellsSl CUR) := by have := hpar.row; rw [OwnSl, hCl] at this; exact this
      have hcl : (cellsSl CUR).length = L.length * 5 := by rw [cellsSl_len, hCl]
      have hgR : R ≤ g := (World.ownsRow.lt hrow g rfl).1
      have hxR : ∀ b, x.s.ownBlock = some b → R ≤ b := fun b hb => (hox.lt b hb).1
      have HPAR := Lib.hid hpar
      have HCX := Lib.hid hCx
      have HSET := Lib.hid hset
      have HDR := Lib.hid hdr
      have HR0 := Lib.hid hrow
      have HP0 := Lib.hid hox
      have HCL := Lib.hid (And.intro hCl hcl)
      have HGR := Lib.hid (And.intro hgR hxR)
      have HB0 := Lib.hid HI.out.bel
      have HK0 := Lib.hid (show ∀ z : SV, OwnI wr R z.s z.P → z.ap x → OwnI wr R z.s z.P from fun z h _ => h)
      clear hx hxe hdr hCUR hCx hset hpar hox hrow hCl hcl hgR hxR hlD
      go_wp2_with (refine wpList_stP rfl 3 _ _ rfl g (k * 5) _ rfl rfl rfl rfl infoI1s R cap L.length 5 34 _ HR0.out (by have := HCL.out.2; omega) ?_)
      intro w1 a1 g1
      have HR1 := Lib.hid a1
      have HP1 := Lib.hid (World.ownsRow.kept HP0.out g1 (slrows_apart HP0.out HR0.out (by decide)))
      have HK1 := Lib.hid (show ∀ z : SV, OwnI wr R z.s z.P → z.ap x → OwnI w1 R z.s z.P from fun z h a => World.ownsRow.kept (HK0.out z h a) g1 (slrows_apart (HK0.out z h a) HR0.out (by decide)))
      have HB1 := Lib.hid (HB0.out.grown g1 (Nat.le_trans hRw HB0.out.size) (fun b hb => by cases hb; exact HGR.out.1))
      clear a1 g1
      go_wp2_with (refine wpList_stP rfl 3 _ _ rfl g (k * 5 + 1) _ rfl rfl rfl rfl infoI1s R cap L.length 5 34 _ HR1.out (by have := HCL.out.2; simp only [List.length_set]; omega) ?_)
      intro w2 a2 g2
      have HR2 := Lib.hid a2
      have HP2 := Lib.hid (World.ownsRow.kept HP1.out g2 (slrows_apart HP1.out HR1.out (by decide)))
      have HK2 := Lib.hid (show ∀ z : SV, OwnI wr R z.s z.P → z.ap x → OwnI w2 R z.s z.P from fun z h a => World.ownsRow.kept (HK1.out z h a) g2 (slrows_apart (HK1.out z h a) HR1.out (by decide)))
      have HB2 := Lib.hid (HB1.out.grown g2 (Nat.le_trans hRw HB1.out.size) (fun b hb => by cases hb; exact HGR.out.1))
      clear a2 g2
      go_wp2_with (refine wpList_stP rfl 3 _ _ rfl g (k * 5 + 2) _ rfl rfl rfl rfl infoI1s R cap L.length 5 34 _ HR2.out (by have := HCL.out.2; simp only [List.length_set]; omega) ?_)
      intro w3 a3 g3
      have HR3 := Lib.hid a3
      have HP3 := Lib.hid (World.ownsRow.kept HP2.out g3 (slrows_apart HP2.out HR2.out (by decide)))
      have HK3 := Lib.hid (show ∀ z : SV, OwnI wr R z.s z.P → z.ap x → OwnI w3 R z.s z.P from fun z h a => World.ownsRow.kept (HK2.out z h a) g3 (slrows_apart (HK2.out z h a) HR2.out (by decide)))
      have HB3 := Lib.hid (HB2.out.grown g3 (Nat.le_trans hRw HB2.out.size) (fun b hb => by cases hb; exact HGR.out.1))
      clear a3 g3
      go_wp2_with (refine wpList_stP rfl 3 _ _ rfl g (k * 5 + 3) _ rfl rfl rfl rfl infoI1s R cap L.length 5 34 _ HR3.out (by have := HCL.out.2; simp only [List.length_set]; omega) ?_)
      intro w4 a4 g4
      have HR4 := Lib.hid a4
      have HP4 := Lib.hid (World.ownsRow.kept HP3.out g4 (slrows_apart HP3.out HR3.out (by decide)))
      have HK4 := Lib.hid (show ∀ z : SV, OwnI wr R z.s z.P → z.ap x → OwnI w4 R z.s z.P from fun z h a => World.ownsRow.kept (HK3.out z h a) g4 (slrows_apart (HK3.out z h a) HR3.out (by decide)))
      have HB4 := Lib.hid (HB3.out.grown g4 (Nat.le_trans hRw HB3.out.size) (fun b hb => by cases hb; exact HGR.out.1))
      clear a4 g4
      have q4 : w4.cell? ⟨g, k * 5 + 4, none⟩ = some (.slice x.a x.P.length x.c) := by
        have h5 := cellsSl_at (j := 4) HCX.out (by omega)
        have := World.ownsRow.cells HR4.out (g := g) rfl (k * 5 + 4) (.slice x.a x.P.length x.c) (by rw [List.getElem?_set_ne (by omega), List.getElem?_set_ne (by omega), List.getElem?_set_ne (by omega), List.getElem?_set_ne (by omega), h5]; rfl)
        rwa [Addr.add_mid, Nat.zero_add] at this
      go_wp2_with fail
      clear q4
      refine (gmark_z _ (t + 4) (by omega) _ x.P R _ HP4.out (by omega) (by omega)).mono ?_
      rintro en w5 ⟨rfl, o5, g5⟩
      obtain ⟨y, hy⟩ : ∃ y : SV, y = mkS t x := ⟨_, rfl⟩
      have HP5 := Lib.hid o5
      have HR5 := Lib.hid (World.ownsRow.kept HR4.out g5 (slrows_apart HR4.out HP4.out (by decide)))
      have HK5 := Lib.hid (show ∀ z : SV, OwnI wr R z.s z.P → z.ap x → OwnI w5 R z.s z.P from fun z h a => World.ownsRow.kept (HK4.out z h a) g5 (by
        cases e : z.s.ownBlock with
        | none => exact .inl rfl
        | some b => exact .inr (fun q => a b e q.symm)))
      have HB5 := Lib.hid (HB4.out.grown g5 (Nat.le_trans hRw HB4.out.size) (fun b hb => HGR.out.2 b hb))
      have hyo : OwnI w5 R y.s y.P := by
        rw [hy]
        have := HP5.out; simp only [mkS, SV.s, OwnI, pmarkG_len] at this ⊢; exact this
      have hrw : OwnSl w5 R (.slice (some ⟨g, 0, none⟩) (CUR.set k y).length cap) (CUR.set k y) := by
        have e := cellsSl_set4 (y := y) HCX.out (by rw [hy]; rfl) (by rw [hy]; rfl) (by rw [hy]; simp [mkS, pmarkG_len])
        have h5 := HR5.out
        rw [OwnSl, List.length_set, HCL.out.1, ← e, hy]
        simp only [mkS]
        first | exact h5 | (push_cast; exact h5) | (simp only [Int.natCast_add] at h5 ⊢; exact h5)
      have hst := SlR.step HPAR.out HCX.out (by rw [hy]; rfl) hrw hyo HK5.out
      rw [List.length_set, HSET.out y, HCL.out.1] at hst
      have HI2 : Hid (MsI w w5 R g cap L s (k + 1) (mkSx t x) (DONE ++ [y])) := Lib.hid ⟨by rw [List.length_append, HI.out.len]; rfl, hst, by
          have := HI.out.rest; rw [HDR.out] at this; rw [← this, hy]; simp [mkSs], by
          have := HI.out.num; rw [HDR.out] at this; rw [← this]; rfl, HB5.out⟩
      have hnx : t + 4 + x.P.length = mkSx t x := rfl
      have hnb : mkSx t x ≤ s + (k + 1) * 1004 := by rw [← hnx]; omega
      rw [hnx]
      clear o5 g5 hyo hrw hst hy hnx
      go_wp2_with fail
      go_roundw
      case rel => exact ⟨k + 1, mkSx t x, _, by omega, by go_num, rfl, hnb, HI2⟩
      case measure => simp [intOf]; omega
    · obtain rfl : k = L.length := by omega
      have HN := Lib.hid (show t = mkSn s L ∧ DONE = mkSs s L ∧ SlR wr R (.slice (some ⟨g, 0, none⟩) L.length cap) DONE from by
        have h1 := HI.out.num; have h2 := HI.out.rest; have h3 := HI.out.par
        rw [List.drop_length] at h1 h2 h3
        simp only [mkSs, List.append_nil] at h2 h3
        exact ⟨h1, h2, h3⟩)
      go_wp2_with fail
      go_ret
      exact ⟨(by rw [HN.out.1]; rfl), by rw [← HN.out.2.1]; exact HN.out.2.2, HI.out.bel⟩
theorem marksls_any (s : Nat) (hs : s ≤ 1000) (v : Value) (L : List SV) (R : Nat) (w : World) (hR : SlR w R v L) (hl : L.length ≤ 1000) (hz : ∀ x ∈ L, x.P.length ≤ 1000) (hRw : R ≤ w.heap.size) :
    Calls Tryd.prog 41 #[v, .int .i64 (s : Int)] w fun e w' => e = .returned (.int .i64 ((mkSn s L : Nat) : Int)) ∧ SlR w' R v (mkSs s L) ∧ Below R w w' := by
  obtain ⟨_, h2⟩ := id hR.row
  rcases h2 with ⟨rfl, h0⟩ | ⟨g, cap, cur, rfl, _⟩
  · have hL : L = [] := List.eq_nil_of_length_eq_zero h0
    subst hL
    have HO := Lib.hid hR
    clear hR
    go_enter Tryd.func41, Tryd.ntmps41
    go_wp2_with fail
    refine wp_loop_rounds 1 ?_
    rw [rounds_succ]
    go_wp2_with fail
    go_ret
    exact ⟨rfl, HO.out, ⟨rfl, rfl, rfl, Nat.le_refl _, fun _ _ => rfl⟩⟩
  · exact marksls_own s hs L g cap R w hR hl hz hRw
theorem mkSs_small {s : Nat} {L : List SV} {N : Nat} (h : ∀ x ∈ L, x.P.length ≤ N) : ∀ x ∈ mkSs s L, x.P.length ≤ N := by
  induction L generalizing s with
  | nil => intro x hx; cases hx
  | cons y L ih =>
    intro x hx
    rcases List.mem_cons.1 hx with rfl | hx
    · simp only [mkS, pmarkG_len]; exact h y List.mem_cons_self
    · exact ih (fun z hz => h z (List.mem_cons_of_mem _ hz)) x hx
set_option maxRecDepth 100000 in
set_option maxHeartbeats 4000000 in
theorem heldsls_any (s : Nat) (hs : s ≤ 1000) (L : List SV) (a : Option Addr) (cap n : Nat) (w : World) (hn : n = L.length) (hA : SlA w a (mkSs s L)) (hl : L.length ≤ 1000) (hz : ∀ x ∈ L, x.P.length ≤ 1000) :
    Calls Tryd.prog 42 #[.slice a n cap, .int .i64 (s : Int)] w fun e w' => e = .returned (.int .i64 ((mkSn s L : Nat) : Int)) ∧ w = w' := by
  subst hn
  have HA := Lib.hid hA
  have HZ := Lib.hid hz
  clear hA hz
  go_enter Tryd.func42, Tryd.ntmps42
  go_wp2_with fail
  go_loopw [1, 5] (fun q i wr => ∃ (k t : Nat), k ≤ L.length ∧ i = .int .i64 k ∧ q = .int .i64 ((t : Nat) : Int) ∧ t ≤ s + k * 1004 ∧ Hid ((mkSs s L).drop k = mkSs t (L.drop k) ∧ mkSn t (L.drop k) = mkSn s L) ∧ wr = w) (fun _ i _ => L.length - (intOf i).toNat)
  case atStart => exact ⟨0, s, Nat.zero_le _, rfl, rfl, by omega, Lib.hid ⟨by simp, by simp⟩, rfl⟩
  case round =>
    obtain ⟨k, t, hk, rfl, rfl, ht, HD, rfl⟩ := hrel
    by_cases hlt : k < L.length
    · have j0 : (0 : Int) ≤ (k : Int) := by omega
      have j1 : (k : Int) < (L.length : Int) := by omega
      obtain ⟨x, hx⟩ : ∃ x, L[k]? = some x := ⟨_, List.getElem?_eq_getElem hlt⟩
      have hxe : L[k] = x := (List.getElem?_eq_some_iff.1 hx).2
      have hdr : L.drop k = x :: L.drop (k + 1) := by rw [List.drop_eq_getElem_cons hlt, hxe]
      have hzx := HZ.out x (List.mem_of_getElem? hx)
      have hd := HD.out.1
      rw [hdr, mkSs] at hd
      have hy : (mkSs s L)[k]? = some (mkS t x) := by
        have h1 : ((mkSs s L).drop k)[0]? = some (mkS t x) := by rw [hd]; rfl
        rwa [List.getElem?_drop, Nat.add_zero] at h1
      have hd2 : (mkSs s L).drop (k + 1) = mkSs (mkSx t x) (L.drop (k + 1)) := by
        rw [show (mkSs s L).drop (k + 1) = ((mkSs s L).drop k).drop 1 by rw [List.drop_drop], hd]; rfl
      have hn2 : mkSn (mkSx t x) (L.drop (k + 1)) = mkSn s L := by have h1 := HD.out.2; rw [hdr] at h1; exact h1
      obtain ⟨b, off, rfl, hc, hm⟩ := HA.out.at hy
      have HD2 := Lib.hid (And.intro hd2 hn2)
      have HI := Lib.hid (show IntA wr x.a (pmarkG (t + 4) x.P.length) from hm.1)
      obtain ⟨q0, q1, q2, q3, q4⟩ := hc
      simp only [mkS, pmarkG_len] at q0 q1 q2 q3 q4
      have n0 : ((t : Int) != (t : Int)) = false := by simp
      have n1 : (((t + 1 : Nat) : Int) != ((t + 1 : Nat) : Int)) = false := by simp
      have n2 : (((t + 2 : Nat) : Int) != ((t + 2 : Nat) : Int)) = false := by simp
      have n3 : (((t + 3 : Nat) : Int) != ((t + 3 : Nat) : Int)) = false := by simp
      have hnx : t + 4 + x.P.length = mkSx t x := rfl
      have hnb : mkSx t x ≤ s + (k + 1) * 1004 := by rw [← hnx]; omega
      clear hx hxe hdr hd hy hd2 hn2 hm
      go_wp2_with fail
      refine (gheld_z _ (t + 4) (by omega) x.a x.c x.P.length _ HI.out (by omega) (by omega)).mono ?_
      rintro en wq ⟨rfl, rfl⟩
      rw [hnx]
      have hnn : ¬ ((mkSx t x : Nat) : Int) < 0 := by omega
      clear hnx q0 q1 q2 q3 q4
      go_wp2_with fail
      go_roundw
      case rel => exact ⟨k + 1, mkSx t x, by omega, by go_num, rfl, hnb, HD2, by first | rfl | trivial⟩
      case measure => simp [intOf]; omega
    · obtain rfl : k = L.length := by omega
      have HN := Lib.hid (show t = mkSn s L from by have h1 := HD.out.2; rw [List.drop_length] at h1; exact h1)
      go_wp2_with fail
      go_ret
      exact ⟨(by rw [HN.out]; rfl), rfl⟩
end Go.Proofs.YtnnmgbgkgnejlaaDoor
