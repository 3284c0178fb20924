/-
  Drawn routes: DrawRouteCmp.
-/
import Derived.Test.YtfjfcdifnfffbaaDoorRtDd
import Derived.Test.YtfjfcdifnfffbaaDoorRtTo
namespace Go.Proofs.YtfjfcdifnfffbaaDoor
open Go.RowKit
set_option linter.unusedSimpArgs false
set_option linter.unusedVariables false

/-- two answers' cells behind the last stores, in either order -/
theorem dd_two {w W : World} {R A1 B1 A2 B2 A3 B3 A4 B4 : Nat} {p1 m1 p2 m2 : Value} {P1 M1 P2 M2 : List Int} {z0' z1 z2 z3 z4 y0 y1 y2 y3 y4 : Value} (f1 b1 l1 f2 b2 l2 : Value) (oP1 : OwnI W R p1 P1) (bP1 : pBtw p1 A1 B1) (oM1 : OwnI W R m1 M1) (bM1 : pBtw m1 A2 B2)
    (oP2 : OwnI W R p2 P2) (bP2 : pBtw p2 A3 B3) (oM2 : OwnI W R m2 M2) (bM2 : pBtw m2 A4 B4) (hZ : At5 W w.heap.size z0' z1 z2 z3 z4) (hY : At5 W (w.heap.size + 1) y0 y1 y2 y3 y4)
    (h1 : w.heap.size + 1 < A1) (h2 : w.heap.size + 1 < A2) (h3 : w.heap.size + 1 < A3) (h4 : w.heap.size + 1 < A4) (hB : Below w.heap.size w W) {X : World}
    (hX : X = set5 (set5 W w.heap.size f1 b1 p1 l1 m1) (w.heap.size + 1) f2 b2 p2 l2 m2 ∨ X = set5 (set5 W (w.heap.size + 1) f2 b2 p2 l2 m2) w.heap.size f1 b1 p1 l1 m1) :
    At5 X w.heap.size f1 b1 p1 l1 m1 ∧ At5 X (w.heap.size + 1) f2 b2 p2 l2 m2 ∧ ((OwnI X R p1 P1 ∧ OwnI X R m1 M1) ∧ OwnI X R p2 P2 ∧ OwnI X R m2 M2) ∧ Below w.heap.size w X := by
  rcases hX with rfl | rfl
  · exact ⟨(hZ.put _ _ _ _ _).far5 (by omega) _ _ _ _ _, (hY.far5 (by omega) _ _ _ _ _).put _ _ _ _ _,
      ⟨⟨owni_set5 (owni_set5 oP1 bP1 (.inl (by omega)) _ _ _ _ _) bP1 (.inl (by omega)) _ _ _ _ _, owni_set5 (owni_set5 oM1 bM1 (.inl (by omega)) _ _ _ _ _) bM1 (.inl (by omega)) _ _ _ _ _⟩,
       owni_set5 (owni_set5 oP2 bP2 (.inl (by omega)) _ _ _ _ _) bP2 (.inl (by omega)) _ _ _ _ _, owni_set5 (owni_set5 oM2 bM2 (.inl (by omega)) _ _ _ _ _) bM2 (.inl (by omega)) _ _ _ _ _⟩,
      below_set5 (below_set5 hB (Nat.le_refl _) _ _ _ _ _) (by omega) _ _ _ _ _⟩
  · exact ⟨(hZ.far5 (by omega) _ _ _ _ _).put _ _ _ _ _, (hY.put _ _ _ _ _).far5 (by omega) _ _ _ _ _,
      ⟨⟨owni_set5 (owni_set5 oP1 bP1 (.inl (by omega)) _ _ _ _ _) bP1 (.inl (by omega)) _ _ _ _ _, owni_set5 (owni_set5 oM1 bM1 (.inl (by omega)) _ _ _ _ _) bM1 (.inl (by omega)) _ _ _ _ _⟩,
       owni_set5 (owni_set5 oP2 bP2 (.inl (by omega)) _ _ _ _ _) bP2 (.inl (by omega)) _ _ _ _ _, owni_set5 (owni_set5 oM2 bM2 (.inl (by omega)) _ _ _ _ _) bM2 (.inl (by omega)) _ _ _ _ _⟩,
      below_set5 (below_set5 hB (by omega) _ _ _ _ _) (Nat.le_refl _) _ _ _ _ _⟩

set_option maxRecDepth 100000 in
set_option maxHeartbeats 4000000 in
theorem dRouteCmp_any (a0 : Option Addr) (len0 cap0 : Nat) (zs0 : List Int) (w : World) (h : IsRow w a0 len0 cap0 zs0) :
    Calls Tryd.prog 29 #[.slice a0 len0 cap0] w (DnRR w) := by
  have H0 := Lib.hid h
  clear h
  have HB0 := Lib.hid (Below.refl w.heap.size w)
  go_enter Tryd.func29, Tryd.ntmps29
  obtain ⟨t1, t2, t3⟩ := At5.two w (.int .i64 0) (.int .i64 0) (.slice none 0 0) (.int .i64 0) (.slice none 0 0) (.int .i64 0) (.int .i64 0) (.slice none 0 0) (.int .i64 0) (.slice none 0 0) 27 27
  have HB1 := Lib.hid t3
  have XZ_1 := Lib.hid t1
  have XY_1 := Lib.hid t2
  have hs1 := Lib.hid (show w.heap.size + 2 = ((w.alloc (.cells #[.int .i64 0, .int .i64 0, .slice none 0 0, .int .i64 0, .slice none 0 0] 27)).alloc (.cells #[.int .i64 0, .int .i64 0, .slice none 0 0, .int .i64 0, .slice none 0 0] 27)).heap.size by simp)
  clear t1 t2 t3
  go_wp2_with fail
  generalize ((w.alloc (.cells #[.int .i64 0, .int .i64 0, .slice none 0 0, .int .i64 0, .slice none 0 0] 27)).alloc (.cells #[.int .i64 0, .int .i64 0, .slice none 0 0, .int .i64 0, .slice none 0 0] 27)) = w1 at *
  refine (open_any a0 len0 cap0 zs0 _ (isrow_later H0.out HB1.out)).mono ?_
  rintro en w2 ⟨rfl, hr, b⟩
  have HB2 := Lib.hid (HB1.out.trans (b.mono HB1.out.size))
  have hs2 := Lib.hid b.size
  have hB0 := Lib.hid (rd_lt hr)
  have hlB := Lib.hid HB1.out.size
  have XZ_2 := Lib.hid (At5.below XZ_1.out b)
  have XY_2 := Lib.hid (At5.below XY_1.out b)
  have RD2 := Lib.hid hr
  clear hr b
  obtain ⟨⟨qZ0, qZ1, qZ2, qZ3, qZ4⟩, _⟩ := XZ_2.out
  obtain ⟨⟨qY0, qY1, qY2, qY3, qY4⟩, _⟩ := XY_2.out
  go_wp2_with fail
  clear qZ0 qZ1 qZ2 qZ3 qZ4
  clear qY0 qY1 qY2 qY3 qY4
  refine (route_any _ (w1.heap.size) (0) (by omega) RD2.out).mono ?_
  rintro en w3 ⟨fa, ba, la, Pa, Ma, pv, mv, qa, rfl, ⟨hlPa, hlMa⟩, ⟨o, o2⟩, hr, hqa, hg⟩
  have HB3 := Lib.hid (below_only HB2.out hg HB2.out.size hlB.out)
  have hs3 := Lib.hid hg.size
  have XZ_3 := Lib.hid (At5.only XZ_2.out hg (by have := hs1.out; have := hs2.out; have := hB0.out; have := hs3.out; simp; omega))
  have XY_3 := Lib.hid (At5.only XY_2.out hg (by have := hs1.out; have := hs2.out; have := hB0.out; have := hs3.out; simp; omega))
  obtain ⟨aap, cap, rfl, _, _⟩ := OwnI.tab o
  obtain ⟨aam, cam, rfl, _, _⟩ := OwnI.tab o2
  have Bap := Lib.hid (OwnI.btw o)
  have Bam := Lib.hid (OwnI.btw o2)
  have Oap_3 := Lib.hid (owni_mono o HB2.out.size)
  have Oam_3 := Lib.hid (owni_mono o2 HB2.out.size)
  have RD3 := Lib.hid hr
  clear o o2 hr hg
  have RD4 := Lib.hid (rd_alloc RD3.out (.cells #[.int .i64 fa, .int .i64 ba, .slice aap (Pa).length cap, .int .i64 la, .slice aam (Ma).length cam] 27))
  have HB4 := Lib.hid (HB3.out.alloc HB3.out.size (.cells #[.int .i64 fa, .int .i64 ba, .slice aap (Pa).length cap, .int .i64 la, .slice aam (Ma).length cam] 27))
  have hs4 := Lib.hid (show w3.heap.size + 1 = (w3.alloc (.cells #[.int .i64 fa, .int .i64 ba, .slice aap (Pa).length cap, .int .i64 la, .slice aam (Ma).length cam] 27)).heap.size by simp)
  have Oap_4 := Lib.hid (World.ownsRow.alloc Oap_3.out (.cells #[.int .i64 fa, .int .i64 ba, .slice aap (Pa).length cap, .int .i64 la, .slice aam (Ma).length cam] 27))
  have Oam_4 := Lib.hid (World.ownsRow.alloc Oam_3.out (.cells #[.int .i64 fa, .int .i64 ba, .slice aap (Pa).length cap, .int .i64 la, .slice aam (Ma).length cam] 27))
  have XZ_4 := Lib.hid (At5.alloc XZ_3.out (.cells #[.int .i64 fa, .int .i64 ba, .slice aap (Pa).length cap, .int .i64 la, .slice aam (Ma).length cam] 27))
  have XY_4 := Lib.hid (At5.alloc XY_3.out (.cells #[.int .i64 fa, .int .i64 ba, .slice aap (Pa).length cap, .int .i64 la, .slice aam (Ma).length cam] 27))
  have Xa_4 := Lib.hid (At5.new w3 (.int .i64 fa) (.int .i64 ba) (.slice aap (Pa).length cap) (.int .i64 la) (.slice aam (Ma).length cam) 27)
  obtain ⟨⟨qZ0, qZ1, qZ2, qZ3, qZ4⟩, _⟩ := XZ_4.out
  obtain ⟨⟨qY0, qY1, qY2, qY3, qY4⟩, _⟩ := XY_4.out
  go_wp2_with fail
  clear qZ0 qZ1 qZ2 qZ3 qZ4
  clear qY0 qY1 qY2 qY3 qY4
  generalize w3.alloc (.cells #[.int .i64 fa, .int .i64 ba, .slice aap (Pa).length cap, .int .i64 la, .slice aam (Ma).length cam] 27) = w4 at *
  refine (route_any _ (w1.heap.size) (qa) (by omega) RD4.out).mono ?_
  rintro en w5 ⟨fb, bb, lb, Pb, Mb, pv, mv, qb, rfl, ⟨hlPb, hlMb⟩, ⟨o, o2⟩, hr, hqb, hg⟩
  have HB5 := Lib.hid (below_only HB4.out hg HB4.out.size hlB.out)
  have hs5 := Lib.hid hg.size
  have Oap_5 := Lib.hid (World.ownsRow.kept Oap_4.out hg (rd_apart Bap.out (by have := hs1.out; have := hs2.out; have := hB0.out; have := hs3.out; have := hs4.out; have := hs5.out; omega)))
  have Oam_5 := Lib.hid (World.ownsRow.kept Oam_4.out hg (rd_apart Bam.out (by have := hs1.out; have := hs2.out; have := hB0.out; have := hs3.out; have := hs4.out; have := hs5.out; omega)))
  have XZ_5 := Lib.hid (At5.only XZ_4.out hg (by have := hs1.out; have := hs2.out; have := hB0.out; have := hs3.out; have := hs4.out; have := hs5.out; simp; omega))
  have XY_5 := Lib.hid (At5.only XY_4.out hg (by have := hs1.out; have := hs2.out; have := hB0.out; have := hs3.out; have := hs4.out; have := hs5.out; simp; omega))
  have Xa_5 := Lib.hid (At5.only Xa_4.out hg (by have := hs1.out; have := hs2.out; have := hB0.out; have := hs3.out; have := hs4.out; have := hs5.out; simp; omega))
  obtain ⟨abp, cbp, rfl, _, _⟩ := OwnI.tab o
  obtain ⟨abm, cbm, rfl, _, _⟩ := OwnI.tab o2
  have Bbp := Lib.hid (OwnI.btw o)
  have Bbm := Lib.hid (OwnI.btw o2)
  have Obp_5 := Lib.hid (owni_mono o HB4.out.size)
  have Obm_5 := Lib.hid (owni_mono o2 HB4.out.size)
  have RD5 := Lib.hid hr
  clear o o2 hr hg
  have RD6 := Lib.hid (rd_alloc RD5.out (.cells #[.int .i64 fb, .int .i64 bb, .slice abp (Pb).length cbp, .int .i64 lb, .slice abm (Mb).length cbm] 27))
  have HB6 := Lib.hid (HB5.out.alloc HB5.out.size (.cells #[.int .i64 fb, .int .i64 bb, .slice abp (Pb).length cbp, .int .i64 lb, .slice abm (Mb).length cbm] 27))
  have hs6 := Lib.hid (show w5.heap.size + 1 = (w5.alloc (.cells #[.int .i64 fb, .int .i64 bb, .slice abp (Pb).length cbp, .int .i64 lb, .slice abm (Mb).length cbm] 27)).heap.size by simp)
  have Oap_6 := Lib.hid (World.ownsRow.alloc Oap_5.out (.cells #[.int .i64 fb, .int .i64 bb, .slice abp (Pb).length cbp, .int .i64 lb, .slice abm (Mb).length cbm] 27))
  have Oam_6 := Lib.hid (World.ownsRow.alloc Oam_5.out (.cells #[.int .i64 fb, .int .i64 bb, .slice abp (Pb).length cbp, .int .i64 lb, .slice abm (Mb).length cbm] 27))
  have Obp_6 := Lib.hid (World.ownsRow.alloc Obp_5.out (.cells #[.int .i64 fb, .int .i64 bb, .slice abp (Pb).length cbp, .int .i64 lb, .slice abm (Mb).length cbm] 27))
  have Obm_6 := Lib.hid (World.ownsRow.alloc Obm_5.out (.cells #[.int .i64 fb, .int .i64 bb, .slice abp (Pb).length cbp, .int .i64 lb, .slice abm (Mb).length cbm] 27))
  have XZ_6 := Lib.hid (At5.alloc XZ_5.out (.cells #[.int .i64 fb, .int .i64 bb, .slice abp (Pb).length cbp, .int .i64 lb, .slice abm (Mb).length cbm] 27))
  have XY_6 := Lib.hid (At5.alloc XY_5.out (.cells #[.int .i64 fb, .int .i64 bb, .slice abp (Pb).length cbp, .int .i64 lb, .slice abm (Mb).length cbm] 27))
  have Xa_6 := Lib.hid (At5.alloc Xa_5.out (.cells #[.int .i64 fb, .int .i64 bb, .slice abp (Pb).length cbp, .int .i64 lb, .slice abm (Mb).length cbm] 27))
  have Xb_6 := Lib.hid (At5.new w5 (.int .i64 fb) (.int .i64 bb) (.slice abp (Pb).length cbp) (.int .i64 lb) (.slice abm (Mb).length cbm) 27)
  obtain ⟨⟨qZ0, qZ1, qZ2, qZ3, qZ4⟩, _⟩ := XZ_6.out
  obtain ⟨⟨qY0, qY1, qY2, qY3, qY4⟩, _⟩ := XY_6.out
  obtain ⟨⟨qa0, qa1, qa2, qa3, qa4⟩, _⟩ := Xa_6.out
  go_wp2_with fail
  clear qZ0 qZ1 qZ2 qZ3 qZ4
  clear qY0 qY1 qY2 qY3 qY4
  clear qa0 qa1 qa2 qa3 qa4
  generalize w5.alloc (.cells #[.int .i64 fb, .int .i64 bb, .slice abp (Pb).length cbp, .int .i64 lb, .slice abm (Mb).length cbm] 27) = w6 at *
  refine (pick_any 4 _ (w1.heap.size) (qb) (by omega) (by omega) RD6.out).mono ?_
  rintro en w7 ⟨x, x0, x1, rfl, hr, hg⟩
  have HB7 := Lib.hid (below_only HB6.out hg HB6.out.size hlB.out)
  have hs7 := Lib.hid hg.size
  have Oap_7 := Lib.hid (World.ownsRow.kept Oap_6.out hg (rd_apart Bap.out (by have := hs1.out; have := hs2.out; have := hB0.out; have := hs3.out; have := hs4.out; have := hs5.out; have := hs6.out; have := hs7.out; omega)))
  have Oam_7 := Lib.hid (World.ownsRow.kept Oam_6.out hg (rd_apart Bam.out (by have := hs1.out; have := hs2.out; have := hB0.out; have := hs3.out; have := hs4.out; have := hs5.out; have := hs6.out; have := hs7.out; omega)))
  have Obp_7 := Lib.hid (World.ownsRow.kept Obp_6.out hg (rd_apart Bbp.out (by have := hs1.out; have := hs2.out; have := hB0.out; have := hs3.out; have := hs4.out; have := hs5.out; have := hs6.out; have := hs7.out; omega)))
  have Obm_7 := Lib.hid (World.ownsRow.kept Obm_6.out hg (rd_apart Bbm.out (by have := hs1.out; have := hs2.out; have := hB0.out; have := hs3.out; have := hs4.out; have := hs5.out; have := hs6.out; have := hs7.out; omega)))
  have XZ_7 := Lib.hid (At5.only XZ_6.out hg (by have := hs1.out; have := hs2.out; have := hB0.out; have := hs3.out; have := hs4.out; have := hs5.out; have := hs6.out; have := hs7.out; simp; omega))
  have XY_7 := Lib.hid (At5.only XY_6.out hg (by have := hs1.out; have := hs2.out; have := hB0.out; have := hs3.out; have := hs4.out; have := hs5.out; have := hs6.out; have := hs7.out; simp; omega))
  have Xa_7 := Lib.hid (At5.only Xa_6.out hg (by have := hs1.out; have := hs2.out; have := hB0.out; have := hs3.out; have := hs4.out; have := hs5.out; have := hs6.out; have := hs7.out; simp; omega))
  have Xb_7 := Lib.hid (At5.only Xb_6.out hg (by have := hs1.out; have := hs2.out; have := hB0.out; have := hs3.out; have := hs4.out; have := hs5.out; have := hs6.out; have := hs7.out; simp; omega))
  have RD7 := Lib.hid hr
  clear hr hg
  by_cases hx0 : x = 0
  · subst hx0
    obtain ⟨⟨qZ0, qZ1, qZ2, qZ3, qZ4⟩, _⟩ := XZ_7.out
    obtain ⟨⟨qY0, qY1, qY2, qY3, qY4⟩, _⟩ := XY_7.out
    obtain ⟨⟨qa0, qa1, qa2, qa3, qa4⟩, _⟩ := Xa_7.out
    obtain ⟨⟨qb0, qb1, qb2, qb3, qb4⟩, _⟩ := Xb_7.out
    go_wp2_with fail
    clear qZ0 qZ1 qZ2 qZ3 qZ4
    clear qY0 qY1 qY2 qY3 qY4
    clear qa0 qa1 qa2 qa3 qa4
    clear qb0 qb1 qb2 qb3 qb4
    refine (l4copy_is fa ba aap cap (Pa) la aam cam (Ma) _ ⟨⟨(OwnI.intA Oap_7.out).2.2, (OwnI.intA Oam_7.out).2.2⟩, (OwnI.intA Oap_7.out).2.1, (OwnI.intA Oam_7.out).2.1, by omega, by omega⟩).mono ?_
    rintro en w8 ⟨pv, mv, rfl, S, o, bP, o2, hS, b⟩
    have HB8 := Lib.hid (HB7.out.trans (b.mono HB7.out.size))
    have hs8 := Lib.hid b.size
    have Oap_8 := Lib.hid (owni_later Oap_7.out b)
    have Oam_8 := Lib.hid (owni_later Oam_7.out b)
    have Obp_8 := Lib.hid (owni_later Obp_7.out b)
    have Obm_8 := Lib.hid (owni_later Obm_7.out b)
    have XZ_8 := Lib.hid (At5.below XZ_7.out b)
    have XY_8 := Lib.hid (At5.below XY_7.out b)
    have Xa_8 := Lib.hid (At5.below Xa_7.out b)
    have Xb_8 := Lib.hid (At5.below Xb_7.out b)
    replace o : OwnI w8 w7.heap.size pv Pa := o
    replace o2 : OwnI w8 S mv Ma := o2
    obtain ⟨acp, ccp, rfl, _, _⟩ := OwnI.tab o
    obtain ⟨acm, ccm, rfl, _, _⟩ := OwnI.tab o2
    have Ac := Lib.hid (apart2 bP o2)
    have Bcp := Lib.hid (OwnI.btw o)
    have Bcm := Lib.hid ((OwnI.btw o2).mono hS (Nat.le_refl _))
    have Ocp_8 := Lib.hid (owni_mono o HB7.out.size)
    have Ocm_8 := Lib.hid (owni_mono o2 (Nat.le_trans HB7.out.size hS))
    clear o o2 bP hS b
    have HB9 := Lib.hid (below_set5 HB8.out (show w.heap.size ≤ w5.heap.size by have := hs1.out; have := hs2.out; have := hB0.out; have := hs3.out; have := hs4.out; have := hs5.out; have := hs6.out; have := hs7.out; have := hs8.out; omega) (.int .i64 fa) (.int .i64 ba) (.slice acp (Pa).length ccp) (.int .i64 la) (.slice acm (Ma).length ccm))
    have hs9 := Lib.hid (show w8.heap.size = (set5 w8 w5.heap.size (.int .i64 fa) (.int .i64 ba) (.slice acp (Pa).length ccp) (.int .i64 la) (.slice acm (Ma).length ccm)).heap.size by simp [set5])
    have Oap_9 := Lib.hid (owni_set5 Oap_8.out Bap.out (Q := w5.heap.size) (by have := hs1.out; have := hs2.out; have := hB0.out; have := hs3.out; have := hs4.out; have := hs5.out; have := hs6.out; have := hs7.out; have := hs8.out; omega) (.int .i64 fa) (.int .i64 ba) (.slice acp (Pa).length ccp) (.int .i64 la) (.slice acm (Ma).length ccm))
    have Oam_9 := Lib.hid (owni_set5 Oam_8.out Bam.out (Q := w5.heap.size) (by have := hs1.out; have := hs2.out; have := hB0.out; have := hs3.out; have := hs4.out; have := hs5.out; have := hs6.out; have := hs7.out; have := hs8.out; omega) (.int .i64 fa) (.int .i64 ba) (.slice acp (Pa).length ccp) (.int .i64 la) (.slice acm (Ma).length ccm))
    have Obp_9 := Lib.hid (owni_set5 Obp_8.out Bbp.out (Q := w5.heap.size) (by have := hs1.out; have := hs2.out; have := hB0.out; have := hs3.out; have := hs4.out; have := hs5.out; have := hs6.out; have := hs7.out; have := hs8.out; omega) (.int .i64 fa) (.int .i64 ba) (.slice acp (Pa).length ccp) (.int .i64 la) (.slice acm (Ma).length ccm))
    have Obm_9 := Lib.hid (owni_set5 Obm_8.out Bbm.out (Q := w5.heap.size) (by have := hs1.out; have := hs2.out; have := hB0.out; have := hs3.out; have := hs4.out; have := hs5.out; have := hs6.out; have := hs7.out; have := hs8.out; omega) (.int .i64 fa) (.int .i64 ba) (.slice acp (Pa).length ccp) (.int .i64 la) (.slice acm (Ma).length ccm))
    have Ocp_9 := Lib.hid (owni_set5 Ocp_8.out Bcp.out (Q := w5.heap.size) (by have := hs1.out; have := hs2.out; have := hB0.out; have := hs3.out; have := hs4.out; have := hs5.out; have := hs6.out; have := hs7.out; have := hs8.out; omega) (.int .i64 fa) (.int .i64 ba) (.slice acp (Pa).length ccp) (.int .i64 la) (.slice acm (Ma).length ccm))
    have Ocm_9 := Lib.hid (owni_set5 Ocm_8.out Bcm.out (Q := w5.heap.size) (by have := hs1.out; have := hs2.out; have := hB0.out; have := hs3.out; have := hs4.out; have := hs5.out; have := hs6.out; have := hs7.out; have := hs8.out; omega) (.int .i64 fa) (.int .i64 ba) (.slice acp (Pa).length ccp) (.int .i64 la) (.slice acm (Ma).length ccm))
    have XZ_9 := Lib.hid (At5.far5 XZ_8.out (Q := w5.heap.size) (by have := hs1.out; have := hs2.out; have := hB0.out; have := hs3.out; have := hs4.out; have := hs5.out; have := hs6.out; have := hs7.out; have := hs8.out; omega) (.int .i64 fa) (.int .i64 ba) (.slice acp (Pa).length ccp) (.int .i64 la) (.slice acm (Ma).length ccm))
    have XY_9 := Lib.hid (At5.far5 XY_8.out (Q := w5.heap.size) (by have := hs1.out; have := hs2.out; have := hB0.out; have := hs3.out; have := hs4.out; have := hs5.out; have := hs6.out; have := hs7.out; have := hs8.out; omega) (.int .i64 fa) (.int .i64 ba) (.slice acp (Pa).length ccp) (.int .i64 la) (.slice acm (Ma).length ccm))
    have Xa_9 := Lib.hid (At5.far5 Xa_8.out (Q := w5.heap.size) (by have := hs1.out; have := hs2.out; have := hB0.out; have := hs3.out; have := hs4.out; have := hs5.out; have := hs6.out; have := hs7.out; have := hs8.out; omega) (.int .i64 fa) (.int .i64 ba) (.slice acp (Pa).length ccp) (.int .i64 la) (.slice acm (Ma).length ccm))
    have Xb_9 := Lib.hid (At5.put Xb_8.out (.int .i64 fa) (.int .i64 ba) (.slice acp (Pa).length ccp) (.int .i64 la) (.slice acm (Ma).length ccm))
    obtain ⟨⟨qb0, qb1, qb2, qb3, qb4⟩, ub0, ub1, ub2, ub3, ub4⟩ := Xb_8.out
    go_wp2_with fail
    clear qb0 qb1 qb2 qb3 qb4 ub0 ub1 ub2 ub3 ub4
    generalize hX : set5 w8 w5.heap.size (.int .i64 fa) (.int .i64 ba) (.slice acp (Pa).length ccp) (.int .i64 la) (.slice acm (Ma).length ccm) = w9 at *
    unfold set5 at hX
    rw [hX]
    clear hX
    refine wp_region_held_drew (S := fun W => (W.cell? ⟨w3.heap.size, 0, none⟩ = some (.int .i64 fa) ∧ W.cell? ⟨w3.heap.size, 1, none⟩ = some (.int .i64 ba) ∧ W.cell? ⟨w3.heap.size, 2, none⟩ = some (.slice aap (Pa).length cap) ∧ W.cell? ⟨w3.heap.size, 3, none⟩ = some (.int .i64 la) ∧ W.cell? ⟨w3.heap.size, 4, none⟩ = some (.slice aam (Ma).length cam)) ∧ (W.cell? ⟨w5.heap.size, 0, none⟩ = some (.int .i64 fa) ∧ W.cell? ⟨w5.heap.size, 1, none⟩ = some (.int .i64 ba) ∧ W.cell? ⟨w5.heap.size, 2, none⟩ = some (.slice acp (Pa).length ccp) ∧ W.cell? ⟨w5.heap.size, 3, none⟩ = some (.int .i64 la) ∧ W.cell? ⟨w5.heap.size, 4, none⟩ = some (.slice acm (Ma).length ccm))) (by kernel_rfl) ?_ (fun hHeld => ?_)
    · exact ⟨Xa_9.out.drew.1, Xb_9.out.drew.1⟩
    refine takeH (i := 0) (v := ?_) rfl rfl (by kernel_rfl) (by kernel_rfl) (by kernel_rfl) (fun _ _ _ h => h) (by rfl) ?_ (by assumption) ?_
    rotate_left 1
    · intro w hSw
      (try dsimp only at hSw)
      go_simp
      try with_reducible rfl
    try simp only [List.setIfInBounds_toArray, List.set_cons_zero, List.set_cons_succ]
    refine takeH (i := 1) (v := ?_) rfl rfl (by kernel_rfl) (by kernel_rfl) (by kernel_rfl) (fun _ _ _ h => h) (by rfl) ?_ (by assumption) ?_
    rotate_left 1
    · intro w hSw
      (try dsimp only at hSw)
      go_simp
      try with_reducible rfl
    try simp only [List.setIfInBounds_toArray, List.set_cons_zero, List.set_cons_succ]
    refine wpAnyH_ready (rs := [2]) (by kernel_rfl) (by simp) ?_
    refine AllReadyH.cons rfl (fun K hK => ?_) (AllReadyH.nil)
    have qZ0 := XZ_9.out.1.1
    have qZ1 := XZ_9.out.1.2.1
    have qZ2 := XZ_9.out.1.2.2.1
    have qZ3 := XZ_9.out.1.2.2.2.1
    have qZ4 := XZ_9.out.1.2.2.2.2
    have uZ0 := XZ_9.out.2.1
    have uZ1 := XZ_9.out.2.2.1
    have uZ2 := XZ_9.out.2.2.2.1
    have uZ3 := XZ_9.out.2.2.2.2.1
    have uZ4 := XZ_9.out.2.2.2.2.2
    go_simp
    refine hK.out _ _ ?_ (fun hNew => ?_)
    · exact ⟨(At5.far5 Xa_9.out (Q := w.heap.size) (by have := hs1.out; have := hs2.out; have := hB0.out; have := hs3.out; have := hs4.out; have := hs5.out; have := hs6.out; have := hs7.out; have := hs8.out; have := hs9.out; omega) (.int .i64 fa) (.int .i64 ba) (.slice aap (Pa).length cap) (.int .i64 la) (.slice aam (Ma).length cam)).drew.1, (At5.far5 Xb_9.out (Q := w.heap.size) (by have := hs1.out; have := hs2.out; have := hB0.out; have := hs3.out; have := hs4.out; have := hs5.out; have := hs6.out; have := hs7.out; have := hs8.out; have := hs9.out; omega) (.int .i64 fa) (.int .i64 ba) (.slice aap (Pa).length cap) (.int .i64 la) (.slice aam (Ma).length cam)).drew.1⟩
    clear hK K hHeld
    have hHeld := hNew
    clear hNew
    try simp only [Act.put, List.setIfInBounds_toArray, List.set_cons_zero, List.set_cons_succ]
    refine wpAnyH_ready (rs := [3]) (by kernel_rfl) (by simp) ?_
    refine AllReadyH.cons rfl (fun K hK => ?_) (AllReadyH.nil)
    have qZ0 := XY_9.out.1.1
    have qZ1 := XY_9.out.1.2.1
    have qZ2 := XY_9.out.1.2.2.1
    have qZ3 := XY_9.out.1.2.2.2.1
    have qZ4 := XY_9.out.1.2.2.2.2
    have uZ0 := XY_9.out.2.1
    have uZ1 := XY_9.out.2.2.1
    have uZ2 := XY_9.out.2.2.2.1
    have uZ3 := XY_9.out.2.2.2.2.1
    have uZ4 := XY_9.out.2.2.2.2.2
    go_simp
    refine hK.out _ _ ?_ (fun hNew => ?_)
    · exact ⟨(At5.far5 (At5.far5 Xa_9.out (Q := w.heap.size) (by have := hs1.out; have := hs2.out; have := hB0.out; have := hs3.out; have := hs4.out; have := hs5.out; have := hs6.out; have := hs7.out; have := hs8.out; have := hs9.out; omega) (.int .i64 fa) (.int .i64 ba) (.slice aap (Pa).length cap) (.int .i64 la) (.slice aam (Ma).length cam)) (Q := (w.heap.size + 1)) (by have := hs1.out; have := hs2.out; have := hB0.out; have := hs3.out; have := hs4.out; have := hs5.out; have := hs6.out; have := hs7.out; have := hs8.out; have := hs9.out; omega) (.int .i64 fa) (.int .i64 ba) (.slice acp (Pa).length ccp) (.int .i64 la) (.slice acm (Ma).length ccm)).drew.1, (At5.far5 (At5.far5 Xb_9.out (Q := w.heap.size) (by have := hs1.out; have := hs2.out; have := hB0.out; have := hs3.out; have := hs4.out; have := hs5.out; have := hs6.out; have := hs7.out; have := hs8.out; have := hs9.out; omega) (.int .i64 fa) (.int .i64 ba) (.slice aap (Pa).length cap) (.int .i64 la) (.slice aam (Ma).length cam)) (Q := (w.heap.size + 1)) (by have := hs1.out; have := hs2.out; have := hB0.out; have := hs3.out; have := hs4.out; have := hs5.out; have := hs6.out; have := hs7.out; have := hs8.out; have := hs9.out; omega) (.int .i64 fa) (.int .i64 ba) (.slice acp (Pa).length ccp) (.int .i64 la) (.slice acm (Ma).length ccm)).drew.1⟩
    clear hK K hHeld
    have hHeld := hNew
    clear hNew
    try simp only [Act.put, List.setIfInBounds_toArray, List.set_cons_zero, List.set_cons_succ]
    refine wpAnyH_done (by kernel_rfl) ?_ _
    have HF := Lib.hid (dd_two (w := w) (W := w9) (.int .i64 fa) (.int .i64 ba) (.int .i64 la) (.int .i64 fa) (.int .i64 ba) (.int .i64 la) Oap_9.out Bap.out Oam_9.out Bam.out Ocp_9.out Bcp.out Ocm_9.out Bcm.out XZ_9.out XY_9.out (by have := hs1.out; have := hs2.out; have := hB0.out; have := hs3.out; have := hs4.out; have := hs5.out; have := hs6.out; have := hs7.out; have := hs8.out; have := hs9.out; omega) (by have := hs1.out; have := hs2.out; have := hB0.out; have := hs3.out; have := hs4.out; have := hs5.out; have := hs6.out; have := hs7.out; have := hs8.out; have := hs9.out; omega) (by have := hs1.out; have := hs2.out; have := hB0.out; have := hs3.out; have := hs4.out; have := hs5.out; have := hs6.out; have := hs7.out; have := hs8.out; have := hs9.out; omega) (by have := hs1.out; have := hs2.out; have := hB0.out; have := hs3.out; have := hs4.out; have := hs5.out; have := hs6.out; have := hs7.out; have := hs8.out; have := hs9.out; omega) HB9.out (X := set5 (set5 (w9) w.heap.size (.int .i64 fa) (.int .i64 ba) (.slice aap (Pa).length cap) (.int .i64 la) (.slice aam (Ma).length cam)) (w.heap.size + 1) (.int .i64 fa) (.int .i64 ba) (.slice acp (Pa).length ccp) (.int .i64 la) (.slice acm (Ma).length ccm)) (.inl rfl))
    clear hHeld
    go_wp2_with fail
    have HG := HF.out
    generalize hX : set5 (set5 (w9) w.heap.size (.int .i64 fa) (.int .i64 ba) (.slice aap (Pa).length cap) (.int .i64 la) (.slice aam (Ma).length cam)) (w.heap.size + 1) (.int .i64 fa) (.int .i64 ba) (.slice acp (Pa).length ccp) (.int .i64 la) (.slice acm (Ma).length ccm) = wF at HG
    unfold set5 at hX
    rw [hX]
    obtain ⟨⟨⟨g0, g1, g2, g3, g4⟩, _⟩, ⟨⟨h0, h1, h2, h3, h4⟩, _⟩, gO, gB⟩ := HG
    exact bodyPost_ret (v := .tuple #[.agg #[.int .i64 fa, .int .i64 ba, .slice aap (Pa).length cap, .int .i64 la, .slice aam (Ma).length cam], .agg #[.int .i64 fa, .int .i64 ba, .slice acp (Pa).length ccp, .int .i64 la, .slice acm (Ma).length ccm]]) (by simp [results, Tryd.results29, go_sem, g0, g1, g2, g3, g4, h0, h1, h2, h3, h4]) rfl ⟨fa, ba, la, Pa, Ma, _, _, fa, ba, la, Pa, Ma, _, _, rfl, ⟨⟨by omega, by omega⟩, by omega, by omega⟩, gO, gB.drew⟩
  · have hx0' : (x == 0) = false := by simpa using hx0
    by_cases hx1 : x = 1
    · subst hx1
      have HB8 := Lib.hid (Below.setCell HB7.out (p := ⟨w5.heap.size, 3, none⟩) (by show w.heap.size ≤ w5.heap.size; have := hs1.out; have := hs2.out; have := hB0.out; have := hs3.out; have := hs4.out; have := hs5.out; have := hs6.out; have := hs7.out; omega) (.int .i64 la))
      have hs8 := Lib.hid (show w7.heap.size = (w7.setCell ⟨w5.heap.size, 3, none⟩ (.int .i64 la)).heap.size by simp)
      have Oap_8 := Lib.hid (owni_setN Oap_7.out Bap.out (Q := w5.heap.size) (o := 3) (by have := hs1.out; have := hs2.out; have := hB0.out; have := hs3.out; have := hs4.out; have := hs5.out; have := hs6.out; have := hs7.out; omega) (.int .i64 la))
      have Oam_8 := Lib.hid (owni_setN Oam_7.out Bam.out (Q := w5.heap.size) (o := 3) (by have := hs1.out; have := hs2.out; have := hB0.out; have := hs3.out; have := hs4.out; have := hs5.out; have := hs6.out; have := hs7.out; omega) (.int .i64 la))
      have Obp_8 := Lib.hid (owni_setN Obp_7.out Bbp.out (Q := w5.heap.size) (o := 3) (by have := hs1.out; have := hs2.out; have := hB0.out; have := hs3.out; have := hs4.out; have := hs5.out; have := hs6.out; have := hs7.out; omega) (.int .i64 la))
      have Obm_8 := Lib.hid (owni_setN Obm_7.out Bbm.out (Q := w5.heap.size) (o := 3) (by have := hs1.out; have := hs2.out; have := hB0.out; have := hs3.out; have := hs4.out; have := hs5.out; have := hs6.out; have := hs7.out; omega) (.int .i64 la))
      have XZ_8 := Lib.hid (At5.far XZ_7.out ⟨w5.heap.size, 3, none⟩ (.int .i64 la) (by show w5.heap.size ≠ w.heap.size; have := hs1.out; have := hs2.out; have := hB0.out; have := hs3.out; have := hs4.out; have := hs5.out; have := hs6.out; have := hs7.out; omega))
      have XY_8 := Lib.hid (At5.far XY_7.out ⟨w5.heap.size, 3, none⟩ (.int .i64 la) (by show w5.heap.size ≠ w.heap.size + 1; have := hs1.out; have := hs2.out; have := hB0.out; have := hs3.out; have := hs4.out; have := hs5.out; have := hs6.out; have := hs7.out; omega))
      have Xa_8 := Lib.hid (At5.far Xa_7.out ⟨w5.heap.size, 3, none⟩ (.int .i64 la) (by show w5.heap.size ≠ w3.heap.size; have := hs1.out; have := hs2.out; have := hB0.out; have := hs3.out; have := hs4.out; have := hs5.out; have := hs6.out; have := hs7.out; omega))
      have Xb_8 := Lib.hid (At5.put3 Xb_7.out (.int .i64 la))
      obtain ⟨⟨qb0, qb1, qb2, qb3, qb4⟩, ub0, ub1, ub2, ub3, ub4⟩ := Xb_7.out
      obtain ⟨⟨qa0, qa1, qa2, qa3, qa4⟩, _⟩ := Xa_7.out
      go_wp2_with fail
      clear qb0 qb1 qb2 qb3 qb4 ub0 ub1 ub2 ub3 ub4 qa0 qa1 qa2 qa3 qa4
      generalize w7.setCell ⟨w5.heap.size, 3, none⟩ (.int .i64 la) = w8 at *
      refine wp_region_held_drew (S := fun W => (W.cell? ⟨w3.heap.size, 0, none⟩ = some (.int .i64 fa) ∧ W.cell? ⟨w3.heap.size, 1, none⟩ = some (.int .i64 ba) ∧ W.cell? ⟨w3.heap.size, 2, none⟩ = some (.slice aap (Pa).length cap) ∧ W.cell? ⟨w3.heap.size, 3, none⟩ = some (.int .i64 la) ∧ W.cell? ⟨w3.heap.size, 4, none⟩ = some (.slice aam (Ma).length cam)) ∧ (W.cell? ⟨w5.heap.size, 0, none⟩ = some (.int .i64 fb) ∧ W.cell? ⟨w5.heap.size, 1, none⟩ = some (.int .i64 bb) ∧ W.cell? ⟨w5.heap.size, 2, none⟩ = some (.slice abp (Pb).length cbp) ∧ W.cell? ⟨w5.heap.size, 3, none⟩ = some (.int .i64 la) ∧ W.cell? ⟨w5.heap.size, 4, none⟩ = some (.slice abm (Mb).length cbm))) (by kernel_rfl) ?_ (fun hHeld => ?_)
      · exact ⟨Xa_8.out.drew.1, Xb_8.out.drew.1⟩
      refine takeH (i := 0) (v := ?_) rfl rfl (by kernel_rfl) (by kernel_rfl) (by kernel_rfl) (fun _ _ _ h => h) (by rfl) ?_ (by assumption) ?_
      rotate_left 1
      · intro w hSw
        (try dsimp only at hSw)
        go_simp
        try with_reducible rfl
      try simp only [List.setIfInBounds_toArray, List.set_cons_zero, List.set_cons_succ]
      refine takeH (i := 1) (v := ?_) rfl rfl (by kernel_rfl) (by kernel_rfl) (by kernel_rfl) (fun _ _ _ h => h) (by rfl) ?_ (by assumption) ?_
      rotate_left 1
      · intro w hSw
        (try dsimp only at hSw)
        go_simp
        try with_reducible rfl
      try simp only [List.setIfInBounds_toArray, List.set_cons_zero, List.set_cons_succ]
      refine wpAnyH_ready (rs := [2]) (by kernel_rfl) (by simp) ?_
      refine AllReadyH.cons rfl (fun K hK => ?_) (AllReadyH.nil)
      have qZ0 := XZ_8.out.1.1
      have qZ1 := XZ_8.out.1.2.1
      have qZ2 := XZ_8.out.1.2.2.1
      have qZ3 := XZ_8.out.1.2.2.2.1
      have qZ4 := XZ_8.out.1.2.2.2.2
      have uZ0 := XZ_8.out.2.1
      have uZ1 := XZ_8.out.2.2.1
      have uZ2 := XZ_8.out.2.2.2.1
      have uZ3 := XZ_8.out.2.2.2.2.1
      have uZ4 := XZ_8.out.2.2.2.2.2
      go_simp
      refine hK.out _ _ ?_ (fun hNew => ?_)
      · exact ⟨(At5.far5 Xa_8.out (Q := w.heap.size) (by have := hs1.out; have := hs2.out; have := hB0.out; have := hs3.out; have := hs4.out; have := hs5.out; have := hs6.out; have := hs7.out; have := hs8.out; omega) (.int .i64 fa) (.int .i64 ba) (.slice aap (Pa).length cap) (.int .i64 la) (.slice aam (Ma).length cam)).drew.1, (At5.far5 Xb_8.out (Q := w.heap.size) (by have := hs1.out; have := hs2.out; have := hB0.out; have := hs3.out; have := hs4.out; have := hs5.out; have := hs6.out; have := hs7.out; have := hs8.out; omega) (.int .i64 fa) (.int .i64 ba) (.slice aap (Pa).length cap) (.int .i64 la) (.slice aam (Ma).length cam)).drew.1⟩
      clear hK K hHeld
      have hHeld := hNew
      clear hNew
      try simp only [Act.put, List.setIfInBounds_toArray, List.set_cons_zero, List.set_cons_succ]
      refine wpAnyH_ready (rs := [3]) (by kernel_rfl) (by simp) ?_
      refine AllReadyH.cons rfl (fun K hK => ?_) (AllReadyH.nil)
      have qZ0 := XY_8.out.1.1
      have qZ1 := XY_8.out.1.2.1
      have qZ2 := XY_8.out.1.2.2.1
      have qZ3 := XY_8.out.1.2.2.2.1
      have qZ4 := XY_8.out.1.2.2.2.2
      have uZ0 := XY_8.out.2.1
      have uZ1 := XY_8.out.2.2.1
      have uZ2 := XY_8.out.2.2.2.1
      have uZ3 := XY_8.out.2.2.2.2.1
      have uZ4 := XY_8.out.2.2.2.2.2
      go_simp
      refine hK.out _ _ ?_ (fun hNew => ?_)
      · exact ⟨(At5.far5 (At5.far5 Xa_8.out (Q := w.heap.size) (by have := hs1.out; have := hs2.out; have := hB0.out; have := hs3.out; have := hs4.out; have := hs5.out; have := hs6.out; have := hs7.out; have := hs8.out; omega) (.int .i64 fa) (.int .i64 ba) (.slice aap (Pa).length cap) (.int .i64 la) (.slice aam (Ma).length cam)) (Q := (w.heap.size + 1)) (by have := hs1.out; have := hs2.out; have := hB0.out; have := hs3.out; have := hs4.out; have := hs5.out; have := hs6.out; have := hs7.out; have := hs8.out; omega) (.int .i64 fb) (.int .i64 bb) (.slice abp (Pb).length cbp) (.int .i64 la) (.slice abm (Mb).length cbm)).drew.1, (At5.far5 (At5.far5 Xb_8.out (Q := w.heap.size) (by have := hs1.out; have := hs2.out; have := hB0.out; have := hs3.out; have := hs4.out; have := hs5.out; have := hs6.out; have := hs7.out; have := hs8.out; omega) (.int .i64 fa) (.int .i64 ba) (.slice aap (Pa).length cap) (.int .i64 la) (.slice aam (Ma).length cam)) (Q := (w.heap.size + 1)) (by have := hs1.out; have := hs2.out; have := hB0.out; have := hs3.out; have := hs4.out; have := hs5.out; have := hs6.out; have := hs7.out; have := hs8.out; omega) (.int .i64 fb) (.int .i64 bb) (.slice abp (Pb).length cbp) (.int .i64 la) (.slice abm (Mb).length cbm)).drew.1⟩
      clear hK K hHeld
      have hHeld := hNew
      clear hNew
      try simp only [Act.put, List.setIfInBounds_toArray, List.set_cons_zero, List.set_cons_succ]
      refine wpAnyH_done (by kernel_rfl) ?_ _
      have HF := Lib.hid (dd_two (w := w) (W := w8) (.int .i64 fa) (.int .i64 ba) (.int .i64 la) (.int .i64 fb) (.int .i64 bb) (.int .i64 la) Oap_8.out Bap.out Oam_8.out Bam.out Obp_8.out Bbp.out Obm_8.out Bbm.out XZ_8.out XY_8.out (by have := hs1.out; have := hs2.out; have := hB0.out; have := hs3.out; have := hs4.out; have := hs5.out; have := hs6.out; have := hs7.out; have := hs8.out; omega) (by have := hs1.out; have := hs2.out; have := hB0.out; have := hs3.out; have := hs4.out; have := hs5.out; have := hs6.out; have := hs7.out; have := hs8.out; omega) (by have := hs1.out; have := hs2.out; have := hB0.out; have := hs3.out; have := hs4.out; have := hs5.out; have := hs6.out; have := hs7.out; have := hs8.out; omega) (by have := hs1.out; have := hs2.out; have := hB0.out; have := hs3.out; have := hs4.out; have := hs5.out; have := hs6.out; have := hs7.out; have := hs8.out; omega) HB8.out (X := set5 (set5 (w8) w.heap.size (.int .i64 fa) (.int .i64 ba) (.slice aap (Pa).length cap) (.int .i64 la) (.slice aam (Ma).length cam)) (w.heap.size + 1) (.int .i64 fb) (.int .i64 bb) (.slice abp (Pb).length cbp) (.int .i64 la) (.slice abm (Mb).length cbm)) (.inl rfl))
      clear hHeld
      go_wp2_with fail
      have HG := HF.out
      generalize hX : set5 (set5 (w8) w.heap.size (.int .i64 fa) (.int .i64 ba) (.slice aap (Pa).length cap) (.int .i64 la) (.slice aam (Ma).length cam)) (w.heap.size + 1) (.int .i64 fb) (.int .i64 bb) (.slice abp (Pb).length cbp) (.int .i64 la) (.slice abm (Mb).length cbm) = wF at HG
      unfold set5 at hX
      rw [hX]
      obtain ⟨⟨⟨g0, g1, g2, g3, g4⟩, _⟩, ⟨⟨h0, h1, h2, h3, h4⟩, _⟩, gO, gB⟩ := HG
      exact bodyPost_ret (v := .tuple #[.agg #[.int .i64 fa, .int .i64 ba, .slice aap (Pa).length cap, .int .i64 la, .slice aam (Ma).length cam], .agg #[.int .i64 fb, .int .i64 bb, .slice abp (Pb).length cbp, .int .i64 la, .slice abm (Mb).length cbm]]) (by simp [results, Tryd.results29, go_sem, g0, g1, g2, g3, g4, h0, h1, h2, h3, h4]) rfl ⟨fa, ba, la, Pa, Ma, _, _, fb, bb, la, Pb, Mb, _, _, rfl, ⟨⟨by omega, by omega⟩, by omega, by omega⟩, gO, gB.drew⟩
    · have hx1' : (x == 1) = false := by simpa using hx1
      by_cases hx2 : x = 2
      · subst hx2
        have HB8 := Lib.hid (Below.setCell HB7.out (p := ⟨w5.heap.size, 3, none⟩) (by show w.heap.size ≤ w5.heap.size; have := hs1.out; have := hs2.out; have := hB0.out; have := hs3.out; have := hs4.out; have := hs5.out; have := hs6.out; have := hs7.out; omega) (.int .i64 la))
        have hs8 := Lib.hid (show w7.heap.size = (w7.setCell ⟨w5.heap.size, 3, none⟩ (.int .i64 la)).heap.size by simp)
        have Oap_8 := Lib.hid (owni_setN Oap_7.out Bap.out (Q := w5.heap.size) (o := 3) (by have := hs1.out; have := hs2.out; have := hB0.out; have := hs3.out; have := hs4.out; have := hs5.out; have := hs6.out; have := hs7.out; omega) (.int .i64 la))
        have Oam_8 := Lib.hid (owni_setN Oam_7.out Bam.out (Q := w5.heap.size) (o := 3) (by have := hs1.out; have := hs2.out; have := hB0.out; have := hs3.out; have := hs4.out; have := hs5.out; have := hs6.out; have := hs7.out; omega) (.int .i64 la))
        have Obp_8 := Lib.hid (owni_setN Obp_7.out Bbp.out (Q := w5.heap.size) (o := 3) (by have := hs1.out; have := hs2.out; have := hB0.out; have := hs3.out; have := hs4.out; have := hs5.out; have := hs6.out; have := hs7.out; omega) (.int .i64 la))
        have Obm_8 := Lib.hid (owni_setN Obm_7.out Bbm.out (Q := w5.heap.size) (o := 3) (by have := hs1.out; have := hs2.out; have := hB0.out; have := hs3.out; have := hs4.out; have := hs5.out; have := hs6.out; have := hs7.out; omega) (.int .i64 la))
        have XZ_8 := Lib.hid (At5.far XZ_7.out ⟨w5.heap.size, 3, none⟩ (.int .i64 la) (by show w5.heap.size ≠ w.heap.size; have := hs1.out; have := hs2.out; have := hB0.out; have := hs3.out; have := hs4.out; have := hs5.out; have := hs6.out; have := hs7.out; omega))
        have XY_8 := Lib.hid (At5.far XY_7.out ⟨w5.heap.size, 3, none⟩ (.int .i64 la) (by show w5.heap.size ≠ w.heap.size + 1; have := hs1.out; have := hs2.out; have := hB0.out; have := hs3.out; have := hs4.out; have := hs5.out; have := hs6.out; have := hs7.out; omega))
        have Xa_8 := Lib.hid (At5.far Xa_7.out ⟨w5.heap.size, 3, none⟩ (.int .i64 la) (by show w5.heap.size ≠ w3.heap.size; have := hs1.out; have := hs2.out; have := hB0.out; have := hs3.out; have := hs4.out; have := hs5.out; have := hs6.out; have := hs7.out; omega))
        have Xb_8 := Lib.hid (At5.put3 Xb_7.out (.int .i64 la))
        obtain ⟨⟨qb0, qb1, qb2, qb3, qb4⟩, ub0, ub1, ub2, ub3, ub4⟩ := Xb_7.out
        obtain ⟨⟨qa0, qa1, qa2, qa3, qa4⟩, ua0, ua1, ua2, ua3, ua4⟩ := Xa_7.out
        have ltb := Xb_7.out.lt
        have lta := Xa_7.out.lt
        have neab : ¬ w3.heap.size = w5.heap.size := by have := hs1.out; have := hs2.out; have := hB0.out; have := hs3.out; have := hs4.out; have := hs5.out; have := hs6.out; have := hs7.out; have := hs8.out; omega
        have neba : ¬ w5.heap.size = w3.heap.size := by omega
        have OE := Lib.hid (owni_setE w7 ⟨w5.heap.size, 3, none⟩ (.int .i64 la))
        go_wp2_with (at_builtin; refine wpList_appI rfl (.tmp 29) (.tmp 31) rfl w7.heap.size _ [] rfl ?e1 aap cap Pa rfl ?e2 ?e3 ?e4 ?e5 ?e6)
        case e1 => exact OE.out
        case e2 => exact ((OwnI.intA Oap_8.out).2.2).alloc _
        case e3 => exact (OwnI.intA Oap_8.out).2.1
        case e4 => (simp; omega)
        case e5 => (simp)
        intro v7 w77 own7 grow7
        replace own7 : OwnI w77 w7.heap.size v7 Pa := own7
        obtain ⟨acp, ccp, rfl, _, _⟩ := OwnI.tab own7
        have Bcp := Lib.hid (OwnI.btw own7)
        have b77 := app_later (W := w7.setCell ⟨w5.heap.size, 3, none⟩ (.int .i64 la)) (by simp [Value.ownBlock]) grow7
        have HB9 := Lib.hid (HB8.out.trans (b77.mono HB8.out.size))
        have hs9 := Lib.hid b77.size
        have Oap_9 := Lib.hid (owni_later Oap_8.out b77)
        have Oam_9 := Lib.hid (owni_later Oam_8.out b77)
        have Obp_9 := Lib.hid (owni_later Obp_8.out b77)
        have Obm_9 := Lib.hid (owni_later Obm_8.out b77)
        have XZ_9 := Lib.hid (At5.below XZ_8.out b77)
        have XY_9 := Lib.hid (At5.below XY_8.out b77)
        have Xa_9 := Lib.hid (At5.below Xa_8.out b77)
        have Xb_9 := Lib.hid (At5.below Xb_8.out b77)
        have Ocp_9 := Lib.hid (owni_mono own7 HB7.out.size)
        clear own7 grow7 b77 qb0 qb1 qb2 qb3 qb4 ub0 ub1 ub2 ub3 ub4 qa0 qa1 qa2 qa3 qa4 ua0 ua1 ua2 ua3 ua4
        generalize w77 = w9 at *
        have HB10 := Lib.hid (Below.setCell HB9.out (p := ⟨w5.heap.size, 2, none⟩) (by show w.heap.size ≤ w5.heap.size; have := hs1.out; have := hs2.out; have := hB0.out; have := hs3.out; have := hs4.out; have := hs5.out; have := hs6.out; have := hs7.out; have := hs8.out; have := hs9.out; omega) (.slice acp Pa.length ccp))
        have hs10 := Lib.hid (show w9.heap.size = (w9.setCell ⟨w5.heap.size, 2, none⟩ (.slice acp Pa.length ccp)).heap.size by simp)
        have Oap_10 := Lib.hid (owni_setN Oap_9.out Bap.out (Q := w5.heap.size) (o := 2) (by have := hs1.out; have := hs2.out; have := hB0.out; have := hs3.out; have := hs4.out; have := hs5.out; have := hs6.out; have := hs7.out; have := hs8.out; have := hs9.out; omega) (.slice acp Pa.length ccp))
        have Oam_10 := Lib.hid (owni_setN Oam_9.out Bam.out (Q := w5.heap.size) (o := 2) (by have := hs1.out; have := hs2.out; have := hB0.out; have := hs3.out; have := hs4.out; have := hs5.out; have := hs6.out; have := hs7.out; have := hs8.out; have := hs9.out; omega) (.slice acp Pa.length ccp))
        have Obp_10 := Lib.hid (owni_setN Obp_9.out Bbp.out (Q := w5.heap.size) (o := 2) (by have := hs1.out; have := hs2.out; have := hB0.out; have := hs3.out; have := hs4.out; have := hs5.out; have := hs6.out; have := hs7.out; have := hs8.out; have := hs9.out; omega) (.slice acp Pa.length ccp))
        have Obm_10 := Lib.hid (owni_setN Obm_9.out Bbm.out (Q := w5.heap.size) (o := 2) (by have := hs1.out; have := hs2.out; have := hB0.out; have := hs3.out; have := hs4.out; have := hs5.out; have := hs6.out; have := hs7.out; have := hs8.out; have := hs9.out; omega) (.slice acp Pa.length ccp))
        have Ocp_10 := Lib.hid (owni_setN Ocp_9.out Bcp.out (Q := w5.heap.size) (o := 2) (by have := hs1.out; have := hs2.out; have := hB0.out; have := hs3.out; have := hs4.out; have := hs5.out; have := hs6.out; have := hs7.out; have := hs8.out; have := hs9.out; omega) (.slice acp Pa.length ccp))
        have XZ_10 := Lib.hid (At5.far XZ_9.out ⟨w5.heap.size, 2, none⟩ (.slice acp Pa.length ccp) (by show w5.heap.size ≠ w.heap.size; have := hs1.out; have := hs2.out; have := hB0.out; have := hs3.out; have := hs4.out; have := hs5.out; have := hs6.out; have := hs7.out; have := hs8.out; have := hs9.out; omega))
        have XY_10 := Lib.hid (At5.far XY_9.out ⟨w5.heap.size, 2, none⟩ (.slice acp Pa.length ccp) (by show w5.heap.size ≠ w.heap.size + 1; have := hs1.out; have := hs2.out; have := hB0.out; have := hs3.out; have := hs4.out; have := hs5.out; have := hs6.out; have := hs7.out; have := hs8.out; have := hs9.out; omega))
        have Xa_10 := Lib.hid (At5.far Xa_9.out ⟨w5.heap.size, 2, none⟩ (.slice acp Pa.length ccp) (by show w5.heap.size ≠ w3.heap.size; have := hs1.out; have := hs2.out; have := hB0.out; have := hs3.out; have := hs4.out; have := hs5.out; have := hs6.out; have := hs7.out; have := hs8.out; have := hs9.out; omega))
        have Xb_10 := Lib.hid (At5.put2 Xb_9.out (.slice acp Pa.length ccp))
        obtain ⟨⟨qb0, qb1, qb2, qb3, qb4⟩, ub0, ub1, ub2, ub3, ub4⟩ := Xb_9.out
        go_wp2_with fail
        clear qb0 qb1 qb2 qb3 qb4 ub0 ub1 ub2 ub3 ub4
        generalize w9.setCell ⟨w5.heap.size, 2, none⟩ (.slice acp Pa.length ccp) = w10 at *
        refine wp_region_held_drew (S := fun W => (W.cell? ⟨w3.heap.size, 0, none⟩ = some (.int .i64 fa) ∧ W.cell? ⟨w3.heap.size, 1, none⟩ = some (.int .i64 ba) ∧ W.cell? ⟨w3.heap.size, 2, none⟩ = some (.slice aap (Pa).length cap) ∧ W.cell? ⟨w3.heap.size, 3, none⟩ = some (.int .i64 la) ∧ W.cell? ⟨w3.heap.size, 4, none⟩ = some (.slice aam (Ma).length cam)) ∧ (W.cell? ⟨w5.heap.size, 0, none⟩ = some (.int .i64 fb) ∧ W.cell? ⟨w5.heap.size, 1, none⟩ = some (.int .i64 bb) ∧ W.cell? ⟨w5.heap.size, 2, none⟩ = some (.slice acp Pa.length ccp) ∧ W.cell? ⟨w5.heap.size, 3, none⟩ = some (.int .i64 la) ∧ W.cell? ⟨w5.heap.size, 4, none⟩ = some (.slice abm (Mb).length cbm))) (by kernel_rfl) ?_ (fun hHeld => ?_)
        · exact ⟨Xa_10.out.drew.1, Xb_10.out.drew.1⟩
        refine takeH (i := 0) (v := ?_) rfl rfl (by kernel_rfl) (by kernel_rfl) (by kernel_rfl) (fun _ _ _ h => h) (by rfl) ?_ (by assumption) ?_
        rotate_left 1
        · intro w hSw
          (try dsimp only at hSw)
          go_simp
          try with_reducible rfl
        try simp only [List.setIfInBounds_toArray, List.set_cons_zero, List.set_cons_succ]
        refine takeH (i := 1) (v := ?_) rfl rfl (by kernel_rfl) (by kernel_rfl) (by kernel_rfl) (fun _ _ _ h => h) (by rfl) ?_ (by assumption) ?_
        rotate_left 1
        · intro w hSw
          (try dsimp only at hSw)
          go_simp
          try with_reducible rfl
        try simp only [List.setIfInBounds_toArray, List.set_cons_zero, List.set_cons_succ]
        refine wpAnyH_ready (rs := [2]) (by kernel_rfl) (by simp) ?_
        refine AllReadyH.cons rfl (fun K hK => ?_) (AllReadyH.nil)
        have qZ0 := XZ_10.out.1.1
        have qZ1 := XZ_10.out.1.2.1
        have qZ2 := XZ_10.out.1.2.2.1
        have qZ3 := XZ_10.out.1.2.2.2.1
        have qZ4 := XZ_10.out.1.2.2.2.2
        have uZ0 := XZ_10.out.2.1
        have uZ1 := XZ_10.out.2.2.1
        have uZ2 := XZ_10.out.2.2.2.1
        have uZ3 := XZ_10.out.2.2.2.2.1
        have uZ4 := XZ_10.out.2.2.2.2.2
        go_simp
        refine hK.out _ _ ?_ (fun hNew => ?_)
        · exact ⟨(At5.far5 Xa_10.out (Q := w.heap.size) (by have := hs1.out; have := hs2.out; have := hB0.out; have := hs3.out; have := hs4.out; have := hs5.out; have := hs6.out; have := hs7.out; have := hs8.out; have := hs9.out; have := hs10.out; omega) (.int .i64 fa) (.int .i64 ba) (.slice aap (Pa).length cap) (.int .i64 la) (.slice aam (Ma).length cam)).drew.1, (At5.far5 Xb_10.out (Q := w.heap.size) (by have := hs1.out; have := hs2.out; have := hB0.out; have := hs3.out; have := hs4.out; have := hs5.out; have := hs6.out; have := hs7.out; have := hs8.out; have := hs9.out; have := hs10.out; omega) (.int .i64 fa) (.int .i64 ba) (.slice aap (Pa).length cap) (.int .i64 la) (.slice aam (Ma).length cam)).drew.1⟩
        clear hK K hHeld
        have hHeld := hNew
        clear hNew
        try simp only [Act.put, List.setIfInBounds_toArray, List.set_cons_zero, List.set_cons_succ]
        refine wpAnyH_ready (rs := [3]) (by kernel_rfl) (by simp) ?_
        refine AllReadyH.cons rfl (fun K hK => ?_) (AllReadyH.nil)
        have qZ0 := XY_10.out.1.1
        have qZ1 := XY_10.out.1.2.1
        have qZ2 := XY_10.out.1.2.2.1
        have qZ3 := XY_10.out.1.2.2.2.1
        have qZ4 := XY_10.out.1.2.2.2.2
        have uZ0 := XY_10.out.2.1
        have uZ1 := XY_10.out.2.2.1
        have uZ2 := XY_10.out.2.2.2.1
        have uZ3 := XY_10.out.2.2.2.2.1
        have uZ4 := XY_10.out.2.2.2.2.2
        go_simp
        refine hK.out _ _ ?_ (fun hNew => ?_)
        · exact ⟨(At5.far5 (At5.far5 Xa_10.out (Q := w.heap.size) (by have := hs1.out; have := hs2.out; have := hB0.out; have := hs3.out; have := hs4.out; have := hs5.out; have := hs6.out; have := hs7.out; have := hs8.out; have := hs9.out; have := hs10.out; omega) (.int .i64 fa) (.int .i64 ba) (.slice aap (Pa).length cap) (.int .i64 la) (.slice aam (Ma).length cam)) (Q := (w.heap.size + 1)) (by have := hs1.out; have := hs2.out; have := hB0.out; have := hs3.out; have := hs4.out; have := hs5.out; have := hs6.out; have := hs7.out; have := hs8.out; have := hs9.out; have := hs10.out; omega) (.int .i64 fb) (.int .i64 bb) (.slice acp Pa.length ccp) (.int .i64 la) (.slice abm (Mb).length cbm)).drew.1, (At5.far5 (At5.far5 Xb_10.out (Q := w.heap.size) (by have := hs1.out; have := hs2.out; have := hB0.out; have := hs3.out; have := hs4.out; have := hs5.out; have := hs6.out; have := hs7.out; have := hs8.out; have := hs9.out; have := hs10.out; omega) (.int .i64 fa) (.int .i64 ba) (.slice aap (Pa).length cap) (.int .i64 la) (.slice aam (Ma).length cam)) (Q := (w.heap.size + 1)) (by have := hs1.out; have := hs2.out; have := hB0.out; have := hs3.out; have := hs4.out; have := hs5.out; have := hs6.out; have := hs7.out; have := hs8.out; have := hs9.out; have := hs10.out; omega) (.int .i64 fb) (.int .i64 bb) (.slice acp Pa.length ccp) (.int .i64 la) (.slice abm (Mb).length cbm)).drew.1⟩
        clear hK K hHeld
        have hHeld := hNew
        clear hNew
        try simp only [Act.put, List.setIfInBounds_toArray, List.set_cons_zero, List.set_cons_succ]
        refine wpAnyH_done (by kernel_rfl) ?_ _
        have HF := Lib.hid (dd_two (w := w) (W := w10) (.int .i64 fa) (.int .i64 ba) (.int .i64 la) (.int .i64 fb) (.int .i64 bb) (.int .i64 la) Oap_10.out Bap.out Oam_10.out Bam.out Ocp_10.out Bcp.out Obm_10.out Bbm.out XZ_10.out XY_10.out (by have := hs1.out; have := hs2.out; have := hB0.out; have := hs3.out; have := hs4.out; have := hs5.out; have := hs6.out; have := hs7.out; have := hs8.out; have := hs9.out; have := hs10.out; omega) (by have := hs1.out; have := hs2.out; have := hB0.out; have := hs3.out; have := hs4.out; have := hs5.out; have := hs6.out; have := hs7.out; have := hs8.out; have := hs9.out; have := hs10.out; omega) (by have := hs1.out; have := hs2.out; have := hB0.out; have := hs3.out; have := hs4.out; have := hs5.out; have := hs6.out; have := hs7.out; have := hs8.out; have := hs9.out; have := hs10.out; omega) (by have := hs1.out; have := hs2.out; have := hB0.out; have := hs3.out; have := hs4.out; have := hs5.out; have := hs6.out; have := hs7.out; have := hs8.out; have := hs9.out; have := hs10.out; omega) HB10.out (X := set5 (set5 (w10) w.heap.size (.int .i64 fa) (.int .i64 ba) (.slice aap (Pa).length cap) (.int .i64 la) (.slice aam (Ma).length cam)) (w.heap.size + 1) (.int .i64 fb) (.int .i64 bb) (.slice acp Pa.length ccp) (.int .i64 la) (.slice abm (Mb).length cbm)) (.inl rfl))
        clear hHeld
        go_wp2_with fail
        have HG := HF.out
        generalize hX : set5 (set5 (w10) w.heap.size (.int .i64 fa) (.int .i64 ba) (.slice aap (Pa).length cap) (.int .i64 la) (.slice aam (Ma).length cam)) (w.heap.size + 1) (.int .i64 fb) (.int .i64 bb) (.slice acp Pa.length ccp) (.int .i64 la) (.slice abm (Mb).length cbm) = wF at HG
        unfold set5 at hX
        rw [hX]
        obtain ⟨⟨⟨g0, g1, g2, g3, g4⟩, _⟩, ⟨⟨h0, h1, h2, h3, h4⟩, _⟩, gO, gB⟩ := HG
        exact bodyPost_ret (v := .tuple #[.agg #[.int .i64 fa, .int .i64 ba, .slice aap (Pa).length cap, .int .i64 la, .slice aam (Ma).length cam], .agg #[.int .i64 fb, .int .i64 bb, .slice acp Pa.length ccp, .int .i64 la, .slice abm (Mb).length cbm]]) (by simp [results, Tryd.results29, go_sem, g0, g1, g2, g3, g4, h0, h1, h2, h3, h4]) rfl ⟨fa, ba, la, Pa, Ma, _, _, fb, bb, la, Pa, Mb, _, _, rfl, ⟨⟨by omega, by omega⟩, by omega, by omega⟩, gO, gB.drew⟩
      · have hx2' : (x == 2) = false := by simpa using hx2
        obtain ⟨⟨qZ0, qZ1, qZ2, qZ3, qZ4⟩, _⟩ := XZ_7.out
        obtain ⟨⟨qY0, qY1, qY2, qY3, qY4⟩, _⟩ := XY_7.out
        obtain ⟨⟨qa0, qa1, qa2, qa3, qa4⟩, _⟩ := Xa_7.out
        obtain ⟨⟨qb0, qb1, qb2, qb3, qb4⟩, _⟩ := Xb_7.out
        go_wp2_with fail
        clear qZ0 qZ1 qZ2 qZ3 qZ4
        clear qY0 qY1 qY2 qY3 qY4
        clear qa0 qa1 qa2 qa3 qa4
        clear qb0 qb1 qb2 qb3 qb4
        refine wp_region_held_drew (S := fun W => (W.cell? ⟨w3.heap.size, 0, none⟩ = some (.int .i64 fa) ∧ W.cell? ⟨w3.heap.size, 1, none⟩ = some (.int .i64 ba) ∧ W.cell? ⟨w3.heap.size, 2, none⟩ = some (.slice aap (Pa).length cap) ∧ W.cell? ⟨w3.heap.size, 3, none⟩ = some (.int .i64 la) ∧ W.cell? ⟨w3.heap.size, 4, none⟩ = some (.slice aam (Ma).length cam)) ∧ (W.cell? ⟨w5.heap.size, 0, none⟩ = some (.int .i64 fb) ∧ W.cell? ⟨w5.heap.size, 1, none⟩ = some (.int .i64 bb) ∧ W.cell? ⟨w5.heap.size, 2, none⟩ = some (.slice abp (Pb).length cbp) ∧ W.cell? ⟨w5.heap.size, 3, none⟩ = some (.int .i64 lb) ∧ W.cell? ⟨w5.heap.size, 4, none⟩ = some (.slice abm (Mb).length cbm))) (by kernel_rfl) ?_ (fun hHeld => ?_)
        · exact ⟨Xa_7.out.drew.1, Xb_7.out.drew.1⟩
        refine takeH (i := 0) (v := ?_) rfl rfl (by kernel_rfl) (by kernel_rfl) (by kernel_rfl) (fun _ _ _ h => h) (by rfl) ?_ (by assumption) ?_
        rotate_left 1
        · intro w hSw
          (try dsimp only at hSw)
          go_simp
          try with_reducible rfl
        try simp only [List.setIfInBounds_toArray, List.set_cons_zero, List.set_cons_succ]
        refine takeH (i := 1) (v := ?_) rfl rfl (by kernel_rfl) (by kernel_rfl) (by kernel_rfl) (fun _ _ _ h => h) (by rfl) ?_ (by assumption) ?_
        rotate_left 1
        · intro w hSw
          (try dsimp only at hSw)
          go_simp
          try with_reducible rfl
        try simp only [List.setIfInBounds_toArray, List.set_cons_zero, List.set_cons_succ]
        refine wpAnyH_ready (rs := [2]) (by kernel_rfl) (by simp) ?_
        refine AllReadyH.cons rfl (fun K hK => ?_) (AllReadyH.nil)
        have qZ0 := XZ_7.out.1.1
        have qZ1 := XZ_7.out.1.2.1
        have qZ2 := XZ_7.out.1.2.2.1
        have qZ3 := XZ_7.out.1.2.2.2.1
        have qZ4 := XZ_7.out.1.2.2.2.2
        have uZ0 := XZ_7.out.2.1
        have uZ1 := XZ_7.out.2.2.1
        have uZ2 := XZ_7.out.2.2.2.1
        have uZ3 := XZ_7.out.2.2.2.2.1
        have uZ4 := XZ_7.out.2.2.2.2.2
        go_simp
        refine hK.out _ _ ?_ (fun hNew => ?_)
        · exact ⟨(At5.far5 Xa_7.out (Q := w.heap.size) (by have := hs1.out; have := hs2.out; have := hB0.out; have := hs3.out; have := hs4.out; have := hs5.out; have := hs6.out; have := hs7.out; omega) (.int .i64 fa) (.int .i64 ba) (.slice aap (Pa).length cap) (.int .i64 la) (.slice aam (Ma).length cam)).drew.1, (At5.far5 Xb_7.out (Q := w.heap.size) (by have := hs1.out; have := hs2.out; have := hB0.out; have := hs3.out; have := hs4.out; have := hs5.out; have := hs6.out; have := hs7.out; omega) (.int .i64 fa) (.int .i64 ba) (.slice aap (Pa).length cap) (.int .i64 la) (.slice aam (Ma).length cam)).drew.1⟩
        clear hK K hHeld
        have hHeld := hNew
        clear hNew
        try simp only [Act.put, List.setIfInBounds_toArray, List.set_cons_zero, List.set_cons_succ]
        refine wpAnyH_ready (rs := [3]) (by kernel_rfl) (by simp) ?_
        refine AllReadyH.cons rfl (fun K hK => ?_) (AllReadyH.nil)
        have qZ0 := XY_7.out.1.1
        have qZ1 := XY_7.out.1.2.1
        have qZ2 := XY_7.out.1.2.2.1
        have qZ3 := XY_7.out.1.2.2.2.1
        have qZ4 := XY_7.out.1.2.2.2.2
        have uZ0 := XY_7.out.2.1
        have uZ1 := XY_7.out.2.2.1
        have uZ2 := XY_7.out.2.2.2.1
        have uZ3 := XY_7.out.2.2.2.2.1
        have uZ4 := XY_7.out.2.2.2.2.2
        go_simp
        refine hK.out _ _ ?_ (fun hNew => ?_)
        · exact ⟨(At5.far5 (At5.far5 Xa_7.out (Q := w.heap.size) (by have := hs1.out; have := hs2.out; have := hB0.out; have := hs3.out; have := hs4.out; have := hs5.out; have := hs6.out; have := hs7.out; omega) (.int .i64 fa) (.int .i64 ba) (.slice aap (Pa).length cap) (.int .i64 la) (.slice aam (Ma).length cam)) (Q := (w.heap.size + 1)) (by have := hs1.out; have := hs2.out; have := hB0.out; have := hs3.out; have := hs4.out; have := hs5.out; have := hs6.out; have := hs7.out; omega) (.int .i64 fb) (.int .i64 bb) (.slice abp (Pb).length cbp) (.int .i64 lb) (.slice abm (Mb).length cbm)).drew.1, (At5.far5 (At5.far5 Xb_7.out (Q := w.heap.size) (by have := hs1.out; have := hs2.out; have := hB0.out; have := hs3.out; have := hs4.out; have := hs5.out; have := hs6.out; have := hs7.out; omega) (.int .i64 fa) (.int .i64 ba) (.slice aap (Pa).length cap) (.int .i64 la) (.slice aam (Ma).length cam)) (Q := (w.heap.size + 1)) (by have := hs1.out; have := hs2.out; have := hB0.out; have := hs3.out; have := hs4.out; have := hs5.out; have := hs6.out; have := hs7.out; omega) (.int .i64 fb) (.int .i64 bb) (.slice abp (Pb).length cbp) (.int .i64 lb) (.slice abm (Mb).length cbm)).drew.1⟩
        clear hK K hHeld
        have hHeld := hNew
        clear hNew
        try simp only [Act.put, List.setIfInBounds_toArray, List.set_cons_zero, List.set_cons_succ]
        refine wpAnyH_done (by kernel_rfl) ?_ _
        have HF := Lib.hid (dd_two (w := w) (W := w7) (.int .i64 fa) (.int .i64 ba) (.int .i64 la) (.int .i64 fb) (.int .i64 bb) (.int .i64 lb) Oap_7.out Bap.out Oam_7.out Bam.out Obp_7.out Bbp.out Obm_7.out Bbm.out XZ_7.out XY_7.out (by have := hs1.out; have := hs2.out; have := hB0.out; have := hs3.out; have := hs4.out; have := hs5.out; have := hs6.out; have := hs7.out; omega) (by have := hs1.out; have := hs2.out; have := hB0.out; have := hs3.out; have := hs4.out; have := hs5.out; have := hs6.out; have := hs7.out; omega) (by have := hs1.out; have := hs2.out; have := hB0.out; have := hs3.out; have := hs4.out; have := hs5.out; have := hs6.out; have := hs7.out; omega) (by have := hs1.out; have := hs2.out; have := hB0.out; have := hs3.out; have := hs4.out; have := hs5.out; have := hs6.out; have := hs7.out; omega) HB7.out (X := set5 (set5 (w7) w.heap.size (.int .i64 fa) (.int .i64 ba) (.slice aap (Pa).length cap) (.int .i64 la) (.slice aam (Ma).length cam)) (w.heap.size + 1) (.int .i64 fb) (.int .i64 bb) (.slice abp (Pb).length cbp) (.int .i64 lb) (.slice abm (Mb).length cbm)) (.inl rfl))
        clear hHeld
        go_wp2_with fail
        have HG := HF.out
        generalize hX : set5 (set5 (w7) w.heap.size (.int .i64 fa) (.int .i64 ba) (.slice aap (Pa).length cap) (.int .i64 la) (.slice aam (Ma).length cam)) (w.heap.size + 1) (.int .i64 fb) (.int .i64 bb) (.slice abp (Pb).length cbp) (.int .i64 lb) (.slice abm (Mb).length cbm) = wF at HG
        unfold set5 at hX
        rw [hX]
        obtain ⟨⟨⟨g0, g1, g2, g3, g4⟩, _⟩, ⟨⟨h0, h1, h2, h3, h4⟩, _⟩, gO, gB⟩ := HG
        exact bodyPost_ret (v := .tuple #[.agg #[.int .i64 fa, .int .i64 ba, .slice aap (Pa).length cap, .int .i64 la, .slice aam (Ma).length cam], .agg #[.int .i64 fb, .int .i64 bb, .slice abp (Pb).length cbp, .int .i64 lb, .slice abm (Mb).length cbm]]) (by simp [results, Tryd.results29, go_sem, g0, g1, g2, g3, g4, h0, h1, h2, h3, h4]) rfl ⟨fa, ba, la, Pa, Ma, _, _, fb, bb, lb, Pb, Mb, _, _, rfl, ⟨⟨by omega, by omega⟩, by omega, by omega⟩, gO, gB.drew⟩

end Go.Proofs.YtfjfcdifnfffbaaDoor
