/-
  Drawn routes: DrawRouteText, DrawRouteOk, DrawRouteMark.
-/
import Derived.Test.YtfjfcdifnfffbaaDoorRtDs
import Derived.Test.YtfjfcdifnfffbaaDoorRtMs
import Derived.Test.YtfjfcdifnfffbaaDoorPLawA
namespace Go.Proofs.YtfjfcdifnfffbaaDoor
open Go.RowKit
set_option linter.unusedSimpArgs false
set_option linter.unusedVariables false

theorem rd_apart {v : Value} {A C B : Nat} (h : pBtw v A C) (hB : B < A) : v.ownBlock = none ∨ v.ownBlock ≠ some B := by
  cases e : v.ownBlock with
  | none => exact .inl rfl
  | some k => exact .inr fun q => by have := (h k e).1; simp at q; omega
theorem isrow_on {w w' : World} {a : Option Addr} {len cap : Nat} {zs : List Int} (h : IsRow w a len cap zs) (k : Below w.heap.size w w') : IsRow w' a len cap zs := isrow_later h k
/-- a drawn route; with a number; two of them -/
def DnR (w : World) (en : Ending) (w' : World) : Prop := ∃ (f b l : Int) (P M : List Int) (pv mv : Value), en = .returned (.agg #[.int .i64 f, .int .i64 b, pv, .int .i64 l, mv]) ∧ (P.length ≤ 6 ∧ M.length ≤ 11) ∧ (OwnI w' w.heap.size pv P ∧ OwnI w' w.heap.size mv M) ∧ Below w.heap.size w w'
def DnRM (w : World) (en : Ending) (w' : World) : Prop := ∃ (f b l : Int) (P M : List Int) (pv mv : Value) (m : Int), en = .returned (.tuple #[.agg #[.int .i64 f, .int .i64 b, pv, .int .i64 l, mv], .int .i64 m]) ∧ (P.length ≤ 6 ∧ M.length ≤ 11) ∧ (OwnI w' w.heap.size pv P ∧ OwnI w' w.heap.size mv M) ∧ Below w.heap.size w w'
def DnRR (w : World) (en : Ending) (w' : World) : Prop := ∃ (f b l : Int) (P M : List Int) (pv mv : Value) (f' b' l' : Int) (P' M' : List Int) (pv' mv' : Value), en = .returned (.tuple #[.agg #[.int .i64 f, .int .i64 b, pv, .int .i64 l, mv], .agg #[.int .i64 f', .int .i64 b', pv', .int .i64 l', mv']]) ∧ ((P.length ≤ 6 ∧ M.length ≤ 11) ∧ P'.length ≤ 6 ∧ M'.length ≤ 11) ∧ ((OwnI w' w.heap.size pv P ∧ OwnI w' w.heap.size mv M) ∧ OwnI w' w.heap.size pv' P' ∧ OwnI w' w.heap.size mv' M') ∧ Below w.heap.size w w'
/-- the answer's cells behind the last store -/
theorem dd_fin {w W : World} {Q R A B A' B' : Nat} {pv mv : Value} {P M : List Int} {z0' z1 z2 z3 z4 : Value} (x0 x1 x3 : Value) (hP : OwnI W R pv P) (bP : pBtw pv A B) (hM : OwnI W R mv M) (bM : pBtw mv A' B') (hA : At5 W Q z0' z1 z2 z3 z4)
    (hq : Q < A) (hq' : Q < A') (hB : Below w.heap.size w W) (hQ : w.heap.size ≤ Q) :
    At5 (set5 W Q x0 x1 pv x3 mv) Q x0 x1 pv x3 mv ∧ (OwnI (set5 W Q x0 x1 pv x3 mv) R pv P ∧ OwnI (set5 W Q x0 x1 pv x3 mv) R mv M) ∧ Below w.heap.size w (set5 W Q x0 x1 pv x3 mv) :=
  ⟨hA.put _ _ _ _ _, ⟨owni_set5 hP bP (.inl hq) _ _ _ _ _, owni_set5 hM bM (.inl hq') _ _ _ _ _⟩, below_set5 hB hQ _ _ _ _ _⟩

set_option maxRecDepth 100000 in
set_option maxHeartbeats 4000000 in
theorem dRouteText_any (a0 : Option Addr) (len0 cap0 : Nat) (zs0 : List Int) (w : World) (h : IsRow w a0 len0 cap0 zs0) :
    Calls Tryd.prog 37 #[.slice a0 len0 cap0] w (DnR w) := by
  have H0 := Lib.hid h
  clear h
  have HB0 := Lib.hid (Below.refl w.heap.size w)
  go_enter Tryd.func37, Tryd.ntmps37
  have HB1 := Lib.hid (HB0.out.alloc HB0.out.size (.cells #[.int .i64 0, .int .i64 0, .slice none 0 0, .int .i64 0, .slice none 0 0] 27))
  have hs1 := Lib.hid (show w.heap.size + 1 = (w.alloc (.cells #[.int .i64 0, .int .i64 0, .slice none 0 0, .int .i64 0, .slice none 0 0] 27)).heap.size by simp)
  have XZ_1 := Lib.hid (At5.new w (.int .i64 0) (.int .i64 0) (.slice none 0 0) (.int .i64 0) (.slice none 0 0) 27)
  go_wp2_with fail
  generalize w.alloc (.cells #[.int .i64 0, .int .i64 0, .slice none 0 0, .int .i64 0, .slice none 0 0] 27) = w1 at *
  refine (open_any a0 len0 cap0 zs0 _ (isrow_later H0.out HB1.out)).mono ?_
  rintro en w2 ⟨rfl, hr, b⟩
  have HB2 := Lib.hid (HB1.out.trans (b.mono HB1.out.size))
  have hs2 := Lib.hid b.size
  have hB0 := Lib.hid (rd_lt hr)
  have hlB := Lib.hid HB1.out.size
  have XZ_2 := Lib.hid (At5.below XZ_1.out b)
  have RD2 := Lib.hid hr
  clear hr b
  obtain ⟨⟨qZ0, qZ1, qZ2, qZ3, qZ4⟩, _⟩ := XZ_2.out
  go_wp2_with fail
  clear qZ0 qZ1 qZ2 qZ3 qZ4
  refine (route_any _ (w1.heap.size) (0) (by omega) RD2.out).mono ?_
  rintro en w3 ⟨fx, bx, lx, Px, Mx, pv, mv, qx, rfl, ⟨hlPx, hlMx⟩, ⟨o, o2⟩, hr, hqx, hg⟩
  have HB3 := Lib.hid (below_only HB2.out hg HB2.out.size hlB.out)
  have hs3 := Lib.hid hg.size
  have XZ_3 := Lib.hid (At5.only XZ_2.out hg (by have := hs1.out; have := hs2.out; have := hB0.out; have := hs3.out; simp; omega))
  obtain ⟨axp, cxp, rfl, _, _⟩ := OwnI.tab o
  obtain ⟨axm, cxm, rfl, _, _⟩ := OwnI.tab o2
  have Bxp := Lib.hid (OwnI.btw o)
  have Bxm := Lib.hid (OwnI.btw o2)
  have Oxp_3 := Lib.hid (owni_mono o HB2.out.size)
  have Oxm_3 := Lib.hid (owni_mono o2 HB2.out.size)
  have RD3 := Lib.hid hr
  clear o o2 hr hg
  have HF := Lib.hid (dd_fin (w := w) (.int .i64 fx) (.int .i64 bx) (.int .i64 lx) Oxp_3.out Bxp.out Oxm_3.out Bxm.out XZ_3.out (by have := hs1.out; have := hs2.out; have := hB0.out; have := hs3.out; omega) (by have := hs1.out; have := hs2.out; have := hB0.out; have := hs3.out; omega) HB3.out (Nat.le_refl _))
  obtain ⟨⟨qZ0, qZ1, qZ2, qZ3, qZ4⟩, uZ0, uZ1, uZ2, uZ3, uZ4⟩ := XZ_3.out
  go_wp2_with fail
  have HG := HF.out
  generalize hX : set5 (w3) w.heap.size (.int .i64 fx) (.int .i64 bx) (.slice axp Px.length cxp) (.int .i64 lx) (.slice axm Mx.length cxm) = wF at HG
  unfold set5 at hX
  rw [hX]
  obtain ⟨⟨⟨g0, g1, g2, g3, g4⟩, _⟩, gO, gB⟩ := HG
  exact bodyPost_ret (v := .agg #[.int .i64 fx, .int .i64 bx, .slice axp Px.length cxp, .int .i64 lx, .slice axm Mx.length cxm]) (by simp [results, Tryd.results37, go_sem, g0, g1, g2, g3, g4]) rfl ⟨fx, bx, lx, Px, Mx, _, _, rfl, ⟨by omega, by omega⟩, gO, gB⟩

set_option maxRecDepth 100000 in
set_option maxHeartbeats 4000000 in
theorem dRouteOk_any (a0 : Option Addr) (len0 cap0 : Nat) (zs0 : List Int) (w : World) (h : IsRow w a0 len0 cap0 zs0) :
    Calls Tryd.prog 40 #[.slice a0 len0 cap0] w (DnR w) := by
  have H0 := Lib.hid h
  clear h
  have HB0 := Lib.hid (Below.refl w.heap.size w)
  go_enter Tryd.func40, Tryd.ntmps40
  have HB1 := Lib.hid (HB0.out.alloc HB0.out.size (.cells #[.int .i64 0, .int .i64 0, .slice none 0 0, .int .i64 0, .slice none 0 0] 27))
  have hs1 := Lib.hid (show w.heap.size + 1 = (w.alloc (.cells #[.int .i64 0, .int .i64 0, .slice none 0 0, .int .i64 0, .slice none 0 0] 27)).heap.size by simp)
  have XZ_1 := Lib.hid (At5.new w (.int .i64 0) (.int .i64 0) (.slice none 0 0) (.int .i64 0) (.slice none 0 0) 27)
  go_wp2_with fail
  generalize w.alloc (.cells #[.int .i64 0, .int .i64 0, .slice none 0 0, .int .i64 0, .slice none 0 0] 27) = w1 at *
  refine (open_any a0 len0 cap0 zs0 _ (isrow_later H0.out HB1.out)).mono ?_
  rintro en w2 ⟨rfl, hr, b⟩
  have HB2 := Lib.hid (HB1.out.trans (b.mono HB1.out.size))
  have hs2 := Lib.hid b.size
  have hB0 := Lib.hid (rd_lt hr)
  have hlB := Lib.hid HB1.out.size
  have XZ_2 := Lib.hid (At5.below XZ_1.out b)
  have RD2 := Lib.hid hr
  clear hr b
  obtain ⟨⟨qZ0, qZ1, qZ2, qZ3, qZ4⟩, _⟩ := XZ_2.out
  go_wp2_with fail
  clear qZ0 qZ1 qZ2 qZ3 qZ4
  refine (route_any _ (w1.heap.size) (0) (by omega) RD2.out).mono ?_
  rintro en w3 ⟨fx, bx, lx, Px, Mx, pv, mv, qx, rfl, ⟨hlPx, hlMx⟩, ⟨o, o2⟩, hr, hqx, hg⟩
  have HB3 := Lib.hid (below_only HB2.out hg HB2.out.size hlB.out)
  have hs3 := Lib.hid hg.size
  have XZ_3 := Lib.hid (At5.only XZ_2.out hg (by have := hs1.out; have := hs2.out; have := hB0.out; have := hs3.out; simp; omega))
  obtain ⟨axp, cxp, rfl, _, _⟩ := OwnI.tab o
  obtain ⟨axm, cxm, rfl, _, _⟩ := OwnI.tab o2
  have Bxp := Lib.hid (OwnI.btw o)
  have Bxm := Lib.hid (OwnI.btw o2)
  have Oxp_3 := Lib.hid (owni_mono o HB2.out.size)
  have Oxm_3 := Lib.hid (owni_mono o2 HB2.out.size)
  have RD3 := Lib.hid hr
  clear o o2 hr hg
  have RD4 := Lib.hid (rd_alloc RD3.out (.cells #[.int .i64 fx, .int .i64 bx, .slice axp (Px).length cxp, .int .i64 lx, .slice axm (Mx).length cxm] 27))
  have HB4 := Lib.hid (HB3.out.alloc HB3.out.size (.cells #[.int .i64 fx, .int .i64 bx, .slice axp (Px).length cxp, .int .i64 lx, .slice axm (Mx).length cxm] 27))
  have hs4 := Lib.hid (show w3.heap.size + 1 = (w3.alloc (.cells #[.int .i64 fx, .int .i64 bx, .slice axp (Px).length cxp, .int .i64 lx, .slice axm (Mx).length cxm] 27)).heap.size by simp)
  have Oxp_4 := Lib.hid (World.ownsRow.alloc Oxp_3.out (.cells #[.int .i64 fx, .int .i64 bx, .slice axp (Px).length cxp, .int .i64 lx, .slice axm (Mx).length cxm] 27))
  have Oxm_4 := Lib.hid (World.ownsRow.alloc Oxm_3.out (.cells #[.int .i64 fx, .int .i64 bx, .slice axp (Px).length cxp, .int .i64 lx, .slice axm (Mx).length cxm] 27))
  have XZ_4 := Lib.hid (At5.alloc XZ_3.out (.cells #[.int .i64 fx, .int .i64 bx, .slice axp (Px).length cxp, .int .i64 lx, .slice axm (Mx).length cxm] 27))
  have Xx_4 := Lib.hid (At5.new w3 (.int .i64 fx) (.int .i64 bx) (.slice axp (Px).length cxp) (.int .i64 lx) (.slice axm (Mx).length cxm) 27)
  obtain ⟨⟨qZ0, qZ1, qZ2, qZ3, qZ4⟩, _⟩ := XZ_4.out
  go_wp2_with fail
  clear qZ0 qZ1 qZ2 qZ3 qZ4
  generalize w3.alloc (.cells #[.int .i64 fx, .int .i64 bx, .slice axp (Px).length cxp, .int .i64 lx, .slice axm (Mx).length cxm] 27) = w4 at *
  refine (pick_any 6 _ (w1.heap.size) (qx) (by omega) (by omega) RD4.out).mono ?_
  rintro en w5 ⟨y, y0, y1, rfl, hr, hg⟩
  have HB5 := Lib.hid (below_only HB4.out hg HB4.out.size hlB.out)
  have hs5 := Lib.hid hg.size
  have Oxp_5 := Lib.hid (World.ownsRow.kept Oxp_4.out hg (rd_apart Bxp.out (by have := hs1.out; have := hs2.out; have := hB0.out; have := hs3.out; have := hs4.out; have := hs5.out; omega)))
  have Oxm_5 := Lib.hid (World.ownsRow.kept Oxm_4.out hg (rd_apart Bxm.out (by have := hs1.out; have := hs2.out; have := hB0.out; have := hs3.out; have := hs4.out; have := hs5.out; omega)))
  have XZ_5 := Lib.hid (At5.only XZ_4.out hg (by have := hs1.out; have := hs2.out; have := hB0.out; have := hs3.out; have := hs4.out; have := hs5.out; simp; omega))
  have Xx_5 := Lib.hid (At5.only Xx_4.out hg (by have := hs1.out; have := hs2.out; have := hB0.out; have := hs3.out; have := hs4.out; have := hs5.out; simp; omega))
  have RD5 := Lib.hid hr
  clear hr hg
  by_cases hy : y = 0
  · subst hy
    obtain ⟨⟨qZ0, qZ1, qZ2, qZ3, qZ4⟩, _⟩ := XZ_5.out
    obtain ⟨⟨qx0, qx1, qx2, qx3, qx4⟩, _⟩ := Xx_5.out
    go_wp2_with fail
    clear qZ0 qZ1 qZ2 qZ3 qZ4
    clear qx0 qx1 qx2 qx3 qx4
    refine (pick_any 13 _ (w1.heap.size) ((qx) + 1) (by omega) (by omega) RD5.out).mono ?_
    rintro en w6 ⟨z, z0, z1, rfl, hr, hg⟩
    have HB6 := Lib.hid (below_only HB5.out hg HB5.out.size hlB.out)
    have hs6 := Lib.hid hg.size
    have Oxp_6 := Lib.hid (World.ownsRow.kept Oxp_5.out hg (rd_apart Bxp.out (by have := hs1.out; have := hs2.out; have := hB0.out; have := hs3.out; have := hs4.out; have := hs5.out; have := hs6.out; omega)))
    have Oxm_6 := Lib.hid (World.ownsRow.kept Oxm_5.out hg (rd_apart Bxm.out (by have := hs1.out; have := hs2.out; have := hB0.out; have := hs3.out; have := hs4.out; have := hs5.out; have := hs6.out; omega)))
    have XZ_6 := Lib.hid (At5.only XZ_5.out hg (by have := hs1.out; have := hs2.out; have := hB0.out; have := hs3.out; have := hs4.out; have := hs5.out; have := hs6.out; simp; omega))
    have Xx_6 := Lib.hid (At5.only Xx_5.out hg (by have := hs1.out; have := hs2.out; have := hB0.out; have := hs3.out; have := hs4.out; have := hs5.out; have := hs6.out; simp; omega))
    have RD6 := Lib.hid hr
    clear hr hg
    have iz : IntKind.i64.wrap (z - 2) = z - 2 := by rw [IntKind.wrap_i64]; omega
    have HF := Lib.hid (dd_fin (w := w) (.int .i64 fx) (.int .i64 bx) (.int .i64 (z - 2)) (owni_setN Oxp_6.out Bxp.out (.inr (by have := hs1.out; have := hs2.out; have := hB0.out; have := hs3.out; have := hs4.out; have := hs5.out; have := hs6.out; omega)) (.int .i64 (z - 2)) (o := 3) (Q := w3.heap.size)) Bxp.out (owni_setN Oxm_6.out Bxm.out (.inr (by have := hs1.out; have := hs2.out; have := hB0.out; have := hs3.out; have := hs4.out; have := hs5.out; have := hs6.out; omega)) (.int .i64 (z - 2)) (o := 3) (Q := w3.heap.size)) Bxm.out (At5.far XZ_6.out ⟨w3.heap.size, 3, none⟩ (.int .i64 (z - 2)) (by show w3.heap.size ≠ w.heap.size; have := hs1.out; have := hs2.out; have := hB0.out; have := hs3.out; have := hs4.out; have := hs5.out; have := hs6.out; omega)) (by have := hs1.out; have := hs2.out; have := hB0.out; have := hs3.out; have := hs4.out; have := hs5.out; have := hs6.out; omega) (by have := hs1.out; have := hs2.out; have := hB0.out; have := hs3.out; have := hs4.out; have := hs5.out; have := hs6.out; omega) (Below.setCell HB6.out (p := ⟨w3.heap.size, 3, none⟩) (by show w.heap.size ≤ w3.heap.size; have := hs1.out; have := hs2.out; have := hB0.out; have := hs3.out; have := hs4.out; have := hs5.out; have := hs6.out; omega) (.int .i64 (z - 2))) (Nat.le_refl _))
    obtain ⟨⟨qZ0, qZ1, qZ2, qZ3, qZ4⟩, uZ0, uZ1, uZ2, uZ3, uZ4⟩ := XZ_6.out
    obtain ⟨⟨qx0, qx1, qx2, qx3, qx4⟩, ux0, ux1, ux2, ux3, ux4⟩ := Xx_6.out
    have nex : ¬ w3.heap.size = w.heap.size := by have := hs1.out; have := hs2.out; have := hB0.out; have := hs3.out; have := hs4.out; have := hs5.out; have := hs6.out; omega
    have nfx : ¬ w.heap.size = w3.heap.size := by omega
    go_wp2_with fail
    have HG := HF.out
    generalize hX : set5 (w6.setCell ⟨w3.heap.size, 3, none⟩ (.int .i64 (z - 2))) w.heap.size (.int .i64 fx) (.int .i64 bx) (.slice axp Px.length cxp) (.int .i64 (z - 2)) (.slice axm Mx.length cxm) = wF at HG
    unfold set5 at hX
    rw [hX]
    obtain ⟨⟨⟨g0, g1, g2, g3, g4⟩, _⟩, gO, gB⟩ := HG
    exact bodyPost_ret (v := .agg #[.int .i64 fx, .int .i64 bx, .slice axp Px.length cxp, .int .i64 (z - 2), .slice axm Mx.length cxm]) (by simp [results, Tryd.results40, go_sem, g0, g1, g2, g3, g4]) rfl ⟨fx, bx, (z - 2), Px, Mx, _, _, rfl, ⟨by omega, by omega⟩, gO, gB⟩
  · have hy' : (y == 0) = false := by simpa using hy
    have HF := Lib.hid (dd_fin (w := w) (.int .i64 fx) (.int .i64 bx) (.int .i64 lx) Oxp_5.out Bxp.out Oxm_5.out Bxm.out XZ_5.out (by have := hs1.out; have := hs2.out; have := hB0.out; have := hs3.out; have := hs4.out; have := hs5.out; omega) (by have := hs1.out; have := hs2.out; have := hB0.out; have := hs3.out; have := hs4.out; have := hs5.out; omega) HB5.out (Nat.le_refl _))
    obtain ⟨⟨qZ0, qZ1, qZ2, qZ3, qZ4⟩, uZ0, uZ1, uZ2, uZ3, uZ4⟩ := XZ_5.out
    obtain ⟨⟨qx0, qx1, qx2, qx3, qx4⟩, ux0, ux1, ux2, ux3, ux4⟩ := Xx_5.out
    have nex : ¬ w3.heap.size = w.heap.size := by have := hs1.out; have := hs2.out; have := hB0.out; have := hs3.out; have := hs4.out; have := hs5.out; omega
    have nfx : ¬ w.heap.size = w3.heap.size := by omega
    go_wp2_with fail
    have HG := HF.out
    generalize hX : set5 (w5) w.heap.size (.int .i64 fx) (.int .i64 bx) (.slice axp Px.length cxp) (.int .i64 lx) (.slice axm Mx.length cxm) = wF at HG
    unfold set5 at hX
    rw [hX]
    obtain ⟨⟨⟨g0, g1, g2, g3, g4⟩, _⟩, gO, gB⟩ := HG
    exact bodyPost_ret (v := .agg #[.int .i64 fx, .int .i64 bx, .slice axp Px.length cxp, .int .i64 lx, .slice axm Mx.length cxm]) (by simp [results, Tryd.results40, go_sem, g0, g1, g2, g3, g4]) rfl ⟨fx, bx, lx, Px, Mx, _, _, rfl, ⟨by omega, by omega⟩, gO, gB⟩

set_option maxRecDepth 100000 in
set_option maxHeartbeats 4000000 in
theorem dRouteMark_any (a0 : Option Addr) (len0 cap0 : Nat) (zs0 : List Int) (w : World) (h : IsRow w a0 len0 cap0 zs0) :
    Calls Tryd.prog 20 #[.slice a0 len0 cap0] w (DnRM w) := by
  have H0 := Lib.hid h
  clear h
  have HB0 := Lib.hid (Below.refl w.heap.size w)
  go_enter Tryd.func20, Tryd.ntmps20
  have HB1 := Lib.hid (HB0.out.alloc HB0.out.size (.cells #[.int .i64 0, .int .i64 0, .slice none 0 0, .int .i64 0, .slice none 0 0] 27))
  have hs1 := Lib.hid (show w.heap.size + 1 = (w.alloc (.cells #[.int .i64 0, .int .i64 0, .slice none 0 0, .int .i64 0, .slice none 0 0] 27)).heap.size by simp)
  have XZ_1 := Lib.hid (At5.new w (.int .i64 0) (.int .i64 0) (.slice none 0 0) (.int .i64 0) (.slice none 0 0) 27)
  go_wp2_with fail
  generalize w.alloc (.cells #[.int .i64 0, .int .i64 0, .slice none 0 0, .int .i64 0, .slice none 0 0] 27) = w1 at *
  refine (open_any a0 len0 cap0 zs0 _ (isrow_later H0.out HB1.out)).mono ?_
  rintro en w2 ⟨rfl, hr, b⟩
  have HB2 := Lib.hid (HB1.out.trans (b.mono HB1.out.size))
  have hs2 := Lib.hid b.size
  have hB0 := Lib.hid (rd_lt hr)
  have hlB := Lib.hid HB1.out.size
  have XZ_2 := Lib.hid (At5.below XZ_1.out b)
  have RD2 := Lib.hid hr
  clear hr b
  obtain ⟨⟨qZ0, qZ1, qZ2, qZ3, qZ4⟩, _⟩ := XZ_2.out
  go_wp2_with fail
  clear qZ0 qZ1 qZ2 qZ3 qZ4
  refine (route_any _ (w1.heap.size) (0) (by omega) RD2.out).mono ?_
  rintro en w3 ⟨fx, bx, lx, Px, Mx, pv, mv, qx, rfl, ⟨hlPx, hlMx⟩, ⟨o, o2⟩, hr, hqx, hg⟩
  have HB3 := Lib.hid (below_only HB2.out hg HB2.out.size hlB.out)
  have hs3 := Lib.hid hg.size
  have XZ_3 := Lib.hid (At5.only XZ_2.out hg (by have := hs1.out; have := hs2.out; have := hB0.out; have := hs3.out; simp; omega))
  obtain ⟨axp, cxp, rfl, _, _⟩ := OwnI.tab o
  obtain ⟨axm, cxm, rfl, _, _⟩ := OwnI.tab o2
  have Bxp := Lib.hid (OwnI.btw o)
  have Bxm := Lib.hid (OwnI.btw o2)
  have Oxp_3 := Lib.hid (owni_mono o HB2.out.size)
  have Oxm_3 := Lib.hid (owni_mono o2 HB2.out.size)
  have RD3 := Lib.hid hr
  clear o o2 hr hg
  obtain ⟨⟨qZ0, qZ1, qZ2, qZ3, qZ4⟩, _⟩ := XZ_3.out
  go_wp2_with fail
  clear qZ0 qZ1 qZ2 qZ3 qZ4
  refine (pick_any 11 _ (w1.heap.size) (qx) (by omega) (by omega) RD3.out).mono ?_
  rintro en w4 ⟨y, y0, y1, rfl, hr, hg⟩
  have HB4 := Lib.hid (below_only HB3.out hg HB3.out.size hlB.out)
  have hs4 := Lib.hid hg.size
  have Oxp_4 := Lib.hid (World.ownsRow.kept Oxp_3.out hg (rd_apart Bxp.out (by have := hs1.out; have := hs2.out; have := hB0.out; have := hs3.out; have := hs4.out; omega)))
  have Oxm_4 := Lib.hid (World.ownsRow.kept Oxm_3.out hg (rd_apart Bxm.out (by have := hs1.out; have := hs2.out; have := hB0.out; have := hs3.out; have := hs4.out; omega)))
  have XZ_4 := Lib.hid (At5.only XZ_3.out hg (by have := hs1.out; have := hs2.out; have := hB0.out; have := hs3.out; have := hs4.out; simp; omega))
  have RD4 := Lib.hid hr
  clear hr hg
  have HF := Lib.hid (dd_fin (w := w) (.int .i64 fx) (.int .i64 bx) (.int .i64 lx) Oxp_4.out Bxp.out Oxm_4.out Bxm.out XZ_4.out (by have := hs1.out; have := hs2.out; have := hB0.out; have := hs3.out; have := hs4.out; omega) (by have := hs1.out; have := hs2.out; have := hB0.out; have := hs3.out; have := hs4.out; omega) HB4.out (Nat.le_refl _))
  obtain ⟨⟨qZ0, qZ1, qZ2, qZ3, qZ4⟩, uZ0, uZ1, uZ2, uZ3, uZ4⟩ := XZ_4.out
  go_wp2_with fail
  have HG := HF.out
  generalize hX : set5 (w4) w.heap.size (.int .i64 fx) (.int .i64 bx) (.slice axp Px.length cxp) (.int .i64 lx) (.slice axm Mx.length cxm) = wF at HG
  unfold set5 at hX
  rw [hX]
  obtain ⟨⟨⟨g0, g1, g2, g3, g4⟩, _⟩, gO, gB⟩ := HG
  exact bodyPost_ret (v := .tuple #[.agg #[.int .i64 fx, .int .i64 bx, .slice axp Px.length cxp, .int .i64 lx, .slice axm Mx.length cxm], .int .i64 y]) (by simp [results, Tryd.results20, go_sem, g0, g1, g2, g3, g4]) rfl ⟨fx, bx, lx, Px, Mx, _, _, _, rfl, ⟨by omega, by omega⟩, gO, gB⟩

end Go.Proofs.YtfjfcdifnfffbaaDoor
