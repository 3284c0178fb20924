/-
  Drawn: DrawSealOk, DrawSealLacks.
-/
import Derived.Test.YtnnmgbgkgnejlaaDoorSlDw
import Derived.Test.YtnnmgbgkgnejlaaDoorSlDm
namespace Go.Proofs.YtnnmgbgkgnejlaaDoor
open Go.RowKit
set_option linter.unusedSimpArgs false
set_option linter.unusedVariables false

/-- drawn holdings, seals, a route and a house -/
def DnSO (w : World) (en : Ending) (w' : World) : Prop := ∃ (f b l t : Int) (P M : List Int) (a : Option Addr) (c : Nat) (d : Option Addr) (e : Nat) (al : Option Addr) (cl : Nat) (L : List SV) (ah : Option Addr) (ch : Nat) (H : List HV),
  en = .returned (.tuple #[.slice ah H.length ch, .slice al L.length cl, .agg #[.int .i64 f, .int .i64 b, .slice a P.length c, .int .i64 l, .slice d M.length e], .int .i64 t]) ∧
  (H.length ≤ 5 ∧ L.length ≤ 12 ∧ P.length ≤ 6 ∧ M.length ≤ 11 ∧ 0 ≤ t ∧ t ≤ 6 ∧ ∀ x ∈ L, Sx x) ∧
  (OwnHv w' w.heap.size (.slice ah H.length ch) H ∧ SlO w' w.heap.size (.slice al L.length cl) L ∧ PathIn w' w.heap.size a c P ∧ OwnI w' w.heap.size (.slice d M.length e) M) ∧ Below w.heap.size w w'
set_option maxRecDepth 100000 in
set_option maxHeartbeats 4000000 in
theorem dSealOk_any (a0 : Option Addr) (len0 cap0 : Nat) (zs0 : List Int) (w : World) (h : IsRow w a0 len0 cap0 zs0) :
    Calls Tryd.prog 29 #[.slice a0 len0 cap0] w (DnSO w) := by
  have H0 := Lib.hid h
  obtain ⟨w1, hW⟩ : ∃ W, w.alloc (.cells #[.int .i64 0, .int .i64 0, .slice none 0 0, .int .i64 0, .slice none 0 0] 27) = W := ⟨_, rfl⟩
  have hb : Below w.heap.size w w1 := by rw [← hW]; exact (Below.refl _ _).alloc (Nat.le_refl _) _
  have HB1 := Lib.hid hb
  have HZ1 := Lib.hid (show AtY w1 w.heap.size [.int .i64 0, .int .i64 0, .slice none 0 0, .int .i64 0, .slice none 0 0] by rw [← hW]; exact AtY.new5 w _ _ _ _ _ _)
  have HS1 := Lib.hid (show w1.heap.size = w.heap.size + 1 by rw [← hW]; simp)
  clear h hb
  go_enter Tryd.func29, Tryd.ntmps29
  go_wp2_with fail
  refine (open_any a0 len0 cap0 zs0 _ (isrow_later H0.out HB1.out)).mono ?_
  rintro en w2 ⟨rfl, hr, b⟩
  have HB2 := Lib.hid (next HB1.out b)
  have HZ2 := Lib.hid (HZ1.out.below b)
  have HR := Lib.hid hr
  have hs2 := b.size
  have hlow : w.heap.size < w1.heap.size := by have := HS1.out; omega
  clear hr b hW
  go_wp2_with fail
  refine (sealed_any _ w1.heap.size 0 (by omega) HR.out).mono ?_
  rintro en w3 ⟨f, b, l, t, P, M, a, c, d, e, al, cl, L, ah, ch, H, q3, rfl, hBd, ⟨o1, o2, o3, o4⟩, hr3, hq3, hg3⟩
  have HB3 := Lib.hid (below_only HB2.out hg3 (by omega) (by omega))
  have HZ3 := Lib.hid (HZ2.out.only hg3 (by simp; omega))
  have HO := Lib.hid (And.intro o1 (And.intro o2 (And.intro o3 o4)))
  have HBd := Lib.hid hBd
  have hz2 : w.heap.size < w2.heap.size := by omega
  clear o1 o2 o3 o4 hr3 hq3 hg3 hBd
  go_wp2_with (refine wpList_stY rfl 27 (.tmp 4) (.tmp 11) rfl w.heap.size #[.int .i64 f, .int .i64 b, .slice a P.length c, .int .i64 l, .slice d M.length e] ?x1 ?y1 (by simp [Value.oneCell']) infoR5s _ HZ3.out rfl ?g1)
  try case x1 => rfl
  try case y1 => rfl
  intro w4 hA4 g4
  have HEND := Lib.hid (show DnSO w (.returned (.tuple #[.slice ah H.length ch, .slice al L.length cl, .agg #[.int .i64 f, .int .i64 b, .slice a P.length c, .int .i64 l, .slice d M.length e], .int .i64 t])) w4 from by
    obtain ⟨r1, r2, ⟨ax, cx, Px, r3, r3', r3''⟩, r4⟩ := HO.out
    exact ⟨f, b, l, t, P, M, a, c, d, e, al, cl, L, ah, ch, H, rfl, HBd.out, ⟨World.ownsRow.mono (OwnHv.pick r1 g4 hz2) (by omega), (r2.pick g4 hz2).mono (by omega), ⟨ax, cx, Px, owni_mono (owni_pick r3 g4 hz2) (by omega), r3', r3''⟩, owni_mono (owni_pick r4 g4 hz2) (by omega)⟩, HB3.out.grown g4 HB3.out.size (fun k hk => by cases hk; exact Nat.le_refl _)⟩)
  obtain ⟨g0, g1, g2, g3, g5⟩ := hA4.five
  clear g4 hA4
  go_wp2_with fail
  exact bodyPost_ret (v := .tuple #[.slice ah H.length ch, .slice al L.length cl, .agg #[.int .i64 f, .int .i64 b, .slice a P.length c, .int .i64 l, .slice d M.length e], .int .i64 t]) (by simp [results, Tryd.results29, go_sem, g0, g1, g2, g3, g5]) rfl HEND.out
set_option maxRecDepth 100000 in
set_option maxHeartbeats 4000000 in
theorem dSealLacks_any (a0 : Option Addr) (len0 cap0 : Nat) (zs0 : List Int) (w : World) (h : IsRow w a0 len0 cap0 zs0) :
    Calls Tryd.prog 24 #[.slice a0 len0 cap0] w (DnSO w) := by
  have H0 := Lib.hid h
  obtain ⟨w1, hW⟩ : ∃ W, w.alloc (.cells #[.int .i64 0, .int .i64 0, .slice none 0 0, .int .i64 0, .slice none 0 0] 27) = W := ⟨_, rfl⟩
  have hb : Below w.heap.size w w1 := by rw [← hW]; exact (Below.refl _ _).alloc (Nat.le_refl _) _
  have HB1 := Lib.hid hb
  have HZ1 := Lib.hid (show AtY w1 w.heap.size [.int .i64 0, .int .i64 0, .slice none 0 0, .int .i64 0, .slice none 0 0] by rw [← hW]; exact AtY.new5 w _ _ _ _ _ _)
  have HS1 := Lib.hid (show w1.heap.size = w.heap.size + 1 by rw [← hW]; simp)
  clear h hb
  go_enter Tryd.func24, Tryd.ntmps24
  go_wp2_with fail
  refine (open_any a0 len0 cap0 zs0 _ (isrow_later H0.out HB1.out)).mono ?_
  rintro en w2 ⟨rfl, hr, b⟩
  have HB2 := Lib.hid (next HB1.out b)
  have HZ2 := Lib.hid (HZ1.out.below b)
  have HR := Lib.hid hr
  have hs2 := b.size
  have hlow : w.heap.size < w1.heap.size := by have := HS1.out; omega
  clear hr b hW
  go_wp2_with fail
  refine (sealed_any _ w1.heap.size 0 (by omega) HR.out).mono ?_
  rintro en w3 ⟨f, b, l, t, P, M, a, c, d, e, al, cl, L, ah, ch, H, q3, rfl, hBd, ⟨o1, o2, o3, o4⟩, hr3, hq3, hg3⟩
  have HB3 := Lib.hid (below_only HB2.out hg3 (by omega) (by omega))
  have HZ3 := Lib.hid (HZ2.out.only hg3 (by simp; omega))
  have HO := Lib.hid (And.intro o1 (And.intro o2 (And.intro o3 o4)))
  have HBd := Lib.hid hBd
  have hz2 : w.heap.size < w2.heap.size := by omega
  clear o1 o2 o3 o4 hr3 hq3 hg3 hBd
  go_wp2_with (refine wpList_stY rfl 27 (.tmp 4) (.tmp 11) rfl w.heap.size #[.int .i64 f, .int .i64 b, .slice a P.length c, .int .i64 l, .slice d M.length e] ?x1 ?y1 (by simp [Value.oneCell']) infoR5s _ HZ3.out rfl ?g1)
  try case x1 => rfl
  try case y1 => rfl
  intro w4 hA4 g4
  have HEND := Lib.hid (show DnSO w (.returned (.tuple #[.slice ah H.length ch, .slice al L.length cl, .agg #[.int .i64 f, .int .i64 b, .slice a P.length c, .int .i64 l, .slice d M.length e], .int .i64 t])) w4 from by
    obtain ⟨r1, r2, ⟨ax, cx, Px, r3, r3', r3''⟩, r4⟩ := HO.out
    exact ⟨f, b, l, t, P, M, a, c, d, e, al, cl, L, ah, ch, H, rfl, HBd.out, ⟨World.ownsRow.mono (OwnHv.pick r1 g4 hz2) (by omega), (r2.pick g4 hz2).mono (by omega), ⟨ax, cx, Px, owni_mono (owni_pick r3 g4 hz2) (by omega), r3', r3''⟩, owni_mono (owni_pick r4 g4 hz2) (by omega)⟩, HB3.out.grown g4 HB3.out.size (fun k hk => by cases hk; exact Nat.le_refl _)⟩)
  obtain ⟨g0, g1, g2, g3, g5⟩ := hA4.five
  clear g4 hA4
  go_wp2_with fail
  exact bodyPost_ret (v := .tuple #[.slice ah H.length ch, .slice al L.length cl, .agg #[.int .i64 f, .int .i64 b, .slice a P.length c, .int .i64 l, .slice d M.length e], .int .i64 t]) (by simp [results, Tryd.results24, go_sem, g0, g1, g2, g3, g5]) rfl HEND.out
end Go.Proofs.YtnnmgbgkgnejlaaDoor
