/-
  Drawn policies and routes: DrawPolicyDo, DrawClauseFits.
-/
import Derived.Test.YtioppkalehnoaaaDoorClDs
import Derived.Test.YtioppkalehnoaaaDoorClAp
import Derived.Test.YtioppkalehnoaaaDoorRtDd
namespace Go.Proofs.YtioppkalehnoaaaDoor
open Go.RowKit
set_option linter.unusedSimpArgs false
set_option linter.unusedVariables false

/-- a drawn policy and a route -/
def DnPR (w : World) (en : Ending) (w' : World) : Prop := ∃ (v : Value) (L : List CL) (f b l : Int) (P M : List Int) (pv mv : Value), en = .returned (.tuple #[v, .agg #[.int .i64 f, .int .i64 b, pv, .int .i64 l, mv]]) ∧ L.length ≤ 4 ∧ OwnC w' w.heap.size v L ∧ (P.length ≤ 6 ∧ M.length ≤ 11) ∧ (OwnI w' w.heap.size pv P ∧ OwnI w' w.heap.size mv M) ∧ Below w.heap.size w w'
theorem ownc_only {W W' : World} {A R : Nat} {v : Value} {L : List CL} (h : OwnC W A v L) (hg : W.grownBy W' (some R)) (hn : R < A) : OwnC W' A v L := ownc_pick h hg hn

set_option maxRecDepth 100000 in
set_option maxHeartbeats 4000000 in
theorem dPolicyDo_any (a0 : Option Addr) (len0 cap0 : Nat) (zs0 : List Int) (w : World) (h : IsRow w a0 len0 cap0 zs0) :
    Calls Tryd.prog 24 #[.slice a0 len0 cap0] w (DnPR w) := by
  have B0 := Lib.hid ((Below.refl w.heap.size w).alloc (Nat.le_refl _) (.cells #[.int .i64 0, .int .i64 0, .slice none 0 0, .int .i64 0, .slice none 0 0] 36))
  have H0 := Lib.hid (isrow_below h B0.out)
  have A0 := Lib.hid (At5.new w (.int .i64 0) (.int .i64 0) (.slice none 0 0) (.int .i64 0) (.slice none 0 0) 36).toL
  have hs0 : w.heap.size < (w.alloc (.cells #[.int .i64 0, .int .i64 0, .slice none 0 0, .int .i64 0, .slice none 0 0] 36)).heap.size := by simp
  clear h
  go_enter Tryd.func24, Tryd.ntmps24
  go_wp2_with fail
  generalize w.alloc (.cells #[.int .i64 0, .int .i64 0, .slice none 0 0, .int .i64 0, .slice none 0 0] 36) = W at *
  refine (open_any a0 len0 cap0 zs0 _ H0.out).mono ?_
  rintro en w1 ⟨rfl, hr, b1⟩
  have A1 := Lib.hid (A0.out.below b1)
  have B1 := Lib.hid (next B0.out b1)
  have R1 := Lib.hid hr
  have hB := rd_lt hr
  clear hr b1 A0 B0 H0
  generalize hBB : W.heap.size = B at *
  go_wp2_with fail
  refine (policy_any _ B 0 (by omega) R1.out).mono ?_
  rintro en w2 ⟨v, L, rfl, hl, oc, ⟨q2, hr2, hq2⟩, hg2⟩
  obtain ⟨av, cv, rfl, _, _⟩ := OwnC.tab oc
  have H2 := Lib.hid (And.intro oc (And.intro hr2 (And.intro (A1.out.only hg2 (by simp; omega)) (below_only B1.out hg2 B1.out.size (by omega)))))
  have hs2 := hg2.size
  clear oc hr2 hg2 A1 B1 R1
  go_wp2_with fail
  refine (route_any _ B q2 (by omega) H2.out.2.1).mono ?_
  rintro en w3 ⟨f, b, l, P, M, pv, mv, q3, rfl, ⟨hlP, hlM⟩, ⟨o1, o2⟩, hr3, _, hg3⟩
  obtain ⟨pa, pc, rfl, _, _⟩ := OwnI.tab o1
  obtain ⟨ma, mc, rfl, _, _⟩ := OwnI.tab o2
  have H3 := Lib.hid (And.intro (ownc_pick H2.out.1 hg3 hB) (And.intro o1 (And.intro o2 (And.intro (H2.out.2.2.1.only hg3 (by simp; omega)) (below_only H2.out.2.2.2 hg3 H2.out.2.2.2.size (by omega))))))
  clear o1 o2 hr3 hg3 H2
  go_wp2_with (refine wpList_stA rfl 36 (.tmp 3) (.tmp 10) rfl w.heap.size #[.int .i64 f, .int .i64 b, .slice pa P.length pc, .int .i64 l, .slice ma M.length mc] ?xa ?ya (one5a _ _ _ _ _ _ _ _ _) infoR5 _ H3.out.2.2.2.1 ?la ?ga)
  try case xa => rfl
  try case ya => rfl
  try case la => rfl
  intro wF aF gF
  have hw1 : w.heap.size < w1.heap.size := by omega
  have HF := Lib.hid (And.intro (ownc_mono (ownc_only H3.out.1 gF hw1) (show w.heap.size ≤ w1.heap.size by omega)) (And.intro (owni_mono (owni_pick H3.out.2.1 gF (by omega)) (show w.heap.size ≤ w2.heap.size by omega)) (And.intro (owni_mono (owni_pick H3.out.2.2.1 gF (by omega)) (show w.heap.size ≤ w2.heap.size by omega)) (below_only H3.out.2.2.2.2 gF H3.out.2.2.2.2.size (Nat.le_refl _)))))
  obtain ⟨⟨z0, z1, z2, z3, z4⟩, _⟩ := AtL.to5 aF
  clear aF gF
  go_wp2_with fail
  exact bodyPost_ret (v := .tuple #[.slice av L.length cv, .agg #[.int .i64 f, .int .i64 b, .slice pa P.length pc, .int .i64 l, .slice ma M.length mc]]) (by simp [results, Tryd.results24, go_sem, z0, z1, z2, z3, z4]) rfl ⟨_, L, f, b, l, P, M, _, _, rfl, hl, HF.out.1, ⟨hlP, hlM⟩, ⟨HF.out.2.1, HF.out.2.2.1⟩, HF.out.2.2.2⟩

/-- a drawn clause and a route -/
def DnCR (w : World) (en : Ending) (w' : World) : Prop := ∃ (u : CL) (f b l : Int) (P M : List Int) (pv mv : Value), en = .returned (.tuple #[clV u, .agg #[.int .i64 f, .int .i64 b, pv, .int .i64 l, mv]]) ∧ (P.length ≤ 6 ∧ M.length ≤ 11) ∧ (OwnI w' w.heap.size pv P ∧ OwnI w' w.heap.size mv M) ∧ Below w.heap.size w w'
set_option maxRecDepth 100000 in
set_option maxHeartbeats 4000000 in
theorem dClauseFits_any (a0 : Option Addr) (len0 cap0 : Nat) (zs0 : List Int) (w : World) (h : IsRow w a0 len0 cap0 zs0) :
    Calls Tryd.prog 18 #[.slice a0 len0 cap0] w (DnCR w) := by
  have hA1 := (AtL.new w zCL 33).alloc (.cells #[.int .i64 0, .int .i64 0, .slice none 0 0, .int .i64 0, .slice none 0 0] 36)
  have hA2 := At5.new (w.alloc (.cells (clA zCL) 33)) (.int .i64 0) (.int .i64 0) (.slice none 0 0) (.int .i64 0) (.slice none 0 0) 36
  simp only [World.size_alloc] at hA2
  have hB0 := ((Below.refl w.heap.size w).alloc (Nat.le_refl _) (.cells (clA zCL) 33)).alloc (by simp) (.cells #[.int .i64 0, .int .i64 0, .slice none 0 0, .int .i64 0, .slice none 0 0] 36)
  have H0 := Lib.hid (And.intro hA1 (And.intro hA2.toL (And.intro hB0 (isrow_below h hB0))))
  have hs0 : w.heap.size + 1 < ((w.alloc (.cells (clA zCL) 33)).alloc (.cells #[.int .i64 0, .int .i64 0, .slice none 0 0, .int .i64 0, .slice none 0 0] 36)).heap.size := by simp
  clear h hA1 hA2 hB0
  go_enter Tryd.func18, Tryd.ntmps18
  go_wp2_with fail
  change Calls Tryd.prog _ _ ((w.alloc (.cells (clA zCL) 33)).alloc (.cells #[.int .i64 0, .int .i64 0, .slice none 0 0, .int .i64 0, .slice none 0 0] 36)) _
  generalize (w.alloc (.cells (clA zCL) 33)).alloc (.cells #[.int .i64 0, .int .i64 0, .slice none 0 0, .int .i64 0, .slice none 0 0] 36) = W at *
  refine (open_any a0 len0 cap0 zs0 _ H0.out.2.2.2).mono ?_
  rintro en w1 ⟨rfl, hr, b1⟩
  have H1 := Lib.hid (And.intro (H0.out.1.below b1) (And.intro (H0.out.2.1.below b1) (And.intro (next H0.out.2.2.1 b1) hr)))
  have hB := rd_lt hr
  clear hr b1 H0
  generalize hBB : W.heap.size = B at *
  go_wp2_with fail
  refine (clause_any _ B 0 (by omega) H1.out.2.2.2).mono ?_
  rintro en w2 ⟨u, q2, rfl, hr2, hq2, hg2⟩
  have H2 := Lib.hid (And.intro (H1.out.1.only hg2 (by simp; omega)) (And.intro (H1.out.2.1.only hg2 (by simp; omega)) (And.intro (below_only H1.out.2.2.1 hg2 H1.out.2.2.1.size (by omega)) hr2)))
  have hs2 := hg2.size
  clear hr2 hg2 H1
  go_wp2_with fail
  refine (route_any _ B q2 (by omega) H2.out.2.2.2).mono ?_
  rintro en w3 ⟨f, b, l, P, M, pv, mv, q3, rfl, ⟨hlP, hlM⟩, ⟨o1, o2⟩, hr3, _, hg3⟩
  obtain ⟨pa, pc, rfl, _, _⟩ := OwnI.tab o1
  obtain ⟨ma, mc, rfl, _, _⟩ := OwnI.tab o2
  have H3 := Lib.hid (And.intro (H2.out.1.only hg3 (by simp; omega)) (And.intro (H2.out.2.1.only hg3 (by simp; omega)) (And.intro (below_only H2.out.2.2.1 hg3 H2.out.2.2.1.size (by omega)) (And.intro o1 o2))))
  clear o1 o2 hr3 hg3 H2
  go_wp2_with (refine wpList_stA rfl 33 (.tmp 2) (.tmp 8) rfl w.heap.size u.cells.toArray ?xc ?yc (one8a u) infoC8 _ H3.out.1 ?lc ?gc)
  try case xc => rfl
  try case yc => rfl
  try case lc => rfl
  intro w4 a4 g4
  have H4 := Lib.hid (And.intro a4 (And.intro (H3.out.2.1.only g4 (by simp)) (And.intro (below_only H3.out.2.2.1 g4 H3.out.2.2.1.size (Nat.le_refl _)) (And.intro (owni_pick H3.out.2.2.2.1 g4 (by omega)) (owni_pick H3.out.2.2.2.2 g4 (by omega))))))
  clear a4 g4 H3
  go_wp2_with (refine wpList_stA rfl 36 (.tmp 3) (.tmp 10) rfl (w.heap.size + 1) #[.int .i64 f, .int .i64 b, .slice pa P.length pc, .int .i64 l, .slice ma M.length mc] ?xa ?ya (one5a _ _ _ _ _ _ _ _ _) infoR5 _ H4.out.2.1 ?la ?ga)
  try case xa => rfl
  try case ya => rfl
  try case la => rfl
  intro wF aF gF
  have HF := Lib.hid (And.intro (H4.out.1.only gF (by simp)) (And.intro (owni_mono (owni_pick H4.out.2.2.2.1 gF (by omega)) (show w.heap.size ≤ w2.heap.size by omega)) (And.intro (owni_mono (owni_pick H4.out.2.2.2.2 gF (by omega)) (show w.heap.size ≤ w2.heap.size by omega)) (below_only H4.out.2.2.1 gF H4.out.2.2.1.size (by omega)))))
  obtain ⟨⟨z0, z1, z2, z3, z4⟩, _⟩ := AtL.to5 aF
  obtain ⟨⟨y0, y1, y2, y3, y4, y5, y6, y7⟩, _⟩ := AtL.z8 HF.out.1
  clear aF gF
  go_wp2_with fail
  exact bodyPost_ret (v := .tuple #[clV u, .agg #[.int .i64 f, .int .i64 b, .slice pa P.length pc, .int .i64 l, .slice ma M.length mc]]) (by simp [results, Tryd.results18, go_sem, z0, z1, z2, z3, z4, y0, y1, y2, y3, y4, y5, y6, y7]) rfl ⟨u, f, b, l, P, M, _, _, rfl, ⟨hlP, hlM⟩, ⟨HF.out.2.1, HF.out.2.2.1⟩, HF.out.2.2.2⟩
end Go.Proofs.YtioppkalehnoaaaDoor
