/-
  Drawn: a route and a house.
-/
import Derived.Test.YtnnmgbgkgnejlaaDoorSlDr
import Derived.Test.YtnnmgbgkgnejlaaDoorRtDd
namespace Go.Proofs.YtnnmgbgkgnejlaaDoor
open Go.RowKit
set_option linter.unusedSimpArgs false
set_option linter.unusedVariables false

/-- a drawn route, and a house -/
def DnSM (w : World) (en : Ending) (w' : World) : Prop := ∃ (f b l : Int) (P M : List Int) (pv mv : Value) (t : Int), en = .returned (.tuple #[.agg #[.int .i64 f, .int .i64 b, pv, .int .i64 l, mv], .int .i64 t]) ∧ (P.length ≤ 6 ∧ M.length ≤ 11 ∧ 0 ≤ t ∧ t < 7) ∧ (OwnI w' w.heap.size pv P ∧ OwnI w' w.heap.size mv M) ∧ Below w.heap.size w w'
set_option maxRecDepth 100000 in
set_option maxHeartbeats 4000000 in
theorem dSealMake_any (a0 : Option Addr) (len0 cap0 : Nat) (zs0 : List Int) (w : World) (h : IsRow w a0 len0 cap0 zs0) :
    Calls Tryd.prog 16 #[.slice a0 len0 cap0] w (DnSM w) := by
  have H0 := Lib.hid h
  clear h
  have HB0 := Lib.hid (Below.refl w.heap.size w)
  go_enter Tryd.func16, Tryd.ntmps16
  have HB1 := Lib.hid (HB0.out.alloc HB0.out.size (.cells #[.int .i64 0, .int .i64 0, .slice none 0 0, .int .i64 0, .slice none 0 0] 27))
  have hs1 := Lib.hid (show w.heap.size + 1 = (w.alloc (.cells #[.int .i64 0, .int .i64 0, .slice none 0 0, .int .i64 0, .slice none 0 0] 27)).heap.size by simp)
  have XZ_1 := Lib.hid (At5.new w (.int .i64 0) (.int .i64 0) (.slice none 0 0) (.int .i64 0) (.slice none 0 0) 27)
  go_wp2_with fail
  generalize w.alloc (.cells #[.int .i64 0, .int .i64 0, .slice none 0 0, .int .i64 0, .slice none 0 0] 27) = w1 at *
  refine (open_any a0 len0 cap0 zs0 _ (isrow_later H0.out HB1.out)).mono ?_
  rintro en w2 ⟨rfl, hr, b⟩
  have HB2 := Lib.hid (HB1.out.trans (b.mono HB1.out.size))
  have hs2 := Lib.hid b.size
  have hB0 := Lib.hid (rd_lt hr)
  have hlB := Lib.hid HB1.out.size
  have XZ_2 := Lib.hid (At5.below XZ_1.out b)
  have RD2 := Lib.hid hr
  clear hr b
  obtain ⟨⟨qZ0, qZ1, qZ2, qZ3, qZ4⟩, _⟩ := XZ_2.out
  go_wp2_with fail
  clear qZ0 qZ1 qZ2 qZ3 qZ4
  refine (route_any _ (w1.heap.size) (0) (by omega) RD2.out).mono ?_
  rintro en w3 ⟨fx, bx, lx, Px, Mx, pv, mv, qx, rfl, ⟨hlPx, hlMx⟩, ⟨o, o2⟩, hr, hqx, hg⟩
  have HB3 := Lib.hid (below_only HB2.out hg HB2.out.size hlB.out)
  have hs3 := Lib.hid hg.size
  have XZ_3 := Lib.hid (At5.only XZ_2.out hg (by have := hs1.out; have := hs2.out; have := hB0.out; have := hs3.out; simp; omega))
  obtain ⟨axp, cxp, rfl, _, _⟩ := OwnI.tab o
  obtain ⟨axm, cxm, rfl, _, _⟩ := OwnI.tab o2
  have Bxp := Lib.hid (OwnI.btw o)
  have Bxm := Lib.hid (OwnI.btw o2)
  have Oxp_3 := Lib.hid (owni_mono o HB2.out.size)
  have Oxm_3 := Lib.hid (owni_mono o2 HB2.out.size)
  have RD3 := Lib.hid hr
  clear o o2 hr hg
  obtain ⟨⟨qZ0, qZ1, qZ2, qZ3, qZ4⟩, _⟩ := XZ_3.out
  go_wp2_with fail
  clear qZ0 qZ1 qZ2 qZ3 qZ4
  refine (pick_any 7 _ (w1.heap.size) (qx) (by omega) (by omega) RD3.out).mono ?_
  rintro en w4 ⟨y, y0, y1, rfl, hr, hg⟩
  have HB4 := Lib.hid (below_only HB3.out hg HB3.out.size hlB.out)
  have hs4 := Lib.hid hg.size
  have Oxp_4 := Lib.hid (World.ownsRow.kept Oxp_3.out hg (rd_apart Bxp.out (by have := hs1.out; have := hs2.out; have := hB0.out; have := hs3.out; have := hs4.out; omega)))
  have Oxm_4 := Lib.hid (World.ownsRow.kept Oxm_3.out hg (rd_apart Bxm.out (by have := hs1.out; have := hs2.out; have := hB0.out; have := hs3.out; have := hs4.out; omega)))
  have XZ_4 := Lib.hid (At5.only XZ_3.out hg (by have := hs1.out; have := hs2.out; have := hB0.out; have := hs3.out; have := hs4.out; simp; omega))
  have RD4 := Lib.hid hr
  clear hr hg
  have HF := Lib.hid (dd_fin (w := w) (.int .i64 fx) (.int .i64 bx) (.int .i64 lx) Oxp_4.out Bxp.out Oxm_4.out Bxm.out XZ_4.out (by have := hs1.out; have := hs2.out; have := hB0.out; have := hs3.out; have := hs4.out; omega) (by have := hs1.out; have := hs2.out; have := hB0.out; have := hs3.out; have := hs4.out; omega) HB4.out (Nat.le_refl _))
  obtain ⟨⟨qZ0, qZ1, qZ2, qZ3, qZ4⟩, uZ0, uZ1, uZ2, uZ3, uZ4⟩ := XZ_4.out
  go_wp2_with fail
  have HG := HF.out
  generalize hX : set5 (w4) w.heap.size (.int .i64 fx) (.int .i64 bx) (.slice axp Px.length cxp) (.int .i64 lx) (.slice axm Mx.length cxm) = wF at HG
  unfold set5 at hX
  rw [hX]
  obtain ⟨⟨⟨g0, g1, g2, g3, g4⟩, _⟩, gO, gB⟩ := HG
  exact bodyPost_ret (v := .tuple #[.agg #[.int .i64 fx, .int .i64 bx, .slice axp Px.length cxp, .int .i64 lx, .slice axm Mx.length cxm], .int .i64 y]) (by simp [results, Tryd.results16, go_sem, g0, g1, g2, g3, g4]) rfl ⟨fx, bx, lx, Px, Mx, _, _, _, rfl, ⟨by omega, by omega, by omega, by omega⟩, gO, gB⟩
end Go.Proofs.YtnnmgbgkgnejlaaDoor
