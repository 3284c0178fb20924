/-
  What the exact laws call on routes: to, sz, mark, held.
-/
import Derived.Test.YtnnmgbgkgnejlaaDoorRtLw
namespace Go.Proofs.YtnnmgbgkgnejlaaDoor
open Go.RowKit
set_option linter.unusedSimpArgs false
set_option linter.unusedVariables false

/-! sz -/
def szI (left : Int) (n : Nat) : Int := if left < n then -1 else left - n
def szR (left : Int) (n m : Nat) : Int := if left < n then -1 else if left - n < m then -1 else left - n - m
theorem szR_neg {left : Int} {n m : Nat} (h : left < n + m) : szR left n m = -1 := by unfold szR; split; rfl; rw [if_pos (by omega)]
theorem szR_pos {left : Int} {n m : Nat} (h : (n : Int) + m ≤ left) : szR left n m = left - n - m := by unfold szR; rw [if_neg (by omega), if_neg (by omega)]

set_option maxHeartbeats 400000 in
theorem szI_is {left : Int} {n : Nat} {z : Int} (h : szI left n = z) (h0 : 0 ≤ left) (h1 : left ≤ 2000000) (hn : n ≤ 9223372036854775807) (a : Option Addr) (cap : Nat) (w : World) :
    Calls Tryd.prog 78 #[.slice a n cap, .int .i64 left] w fun e w' => e = .returned (.int .i64 z) ∧ w = w' := by
  by_cases hl : left < n
  · have HX := Lib.hid (show -1 = z by rw [← h, szI, if_pos hl])
    have hlt : left - (n : Int) < 0 := by omega
    clear h
    go_enter Tryd.func78, Tryd.ntmps78
    go_wp2_with fail
    go_ret
    exact ⟨ret_int HX.out, rfl⟩
  · have HX := Lib.hid (show left - n = z by rw [← h, szI, if_neg hl])
    have hlt : ¬ left - (n : Int) < 0 := by omega
    clear h
    go_enter Tryd.func78, Tryd.ntmps78
    go_wp2_with fail
    go_ret
    exact ⟨ret_int HX.out, rfl⟩

set_option maxHeartbeats 1000000 in
theorem szrt_is (f b l : Int) (a d : Option Addr) (n c m e : Nat) {left z : Int} (h : szR left n m = z) (h0 : 0 ≤ left) (h1 : left ≤ 2000000) (hn : n ≤ 9223372036854775807) (hm : m ≤ 9223372036854775807) (w : World) :
    Calls Tryd.prog 36 #[.agg #[.int .i64 f, .int .i64 b, .slice a n c, .int .i64 l, .slice d m e], .int .i64 left] w fun e w' => e = .returned (.int .i64 z) ∧ Below w.heap.size w w' := by
  have HB := Lib.hid ((Below.refl w.heap.size w).alloc (Nat.le_refl _) (.cells #[.int .i64 f, .int .i64 b, .slice a n c, .int .i64 l, .slice d m e] 58))
  by_cases hl : left < n
  · have HX := Lib.hid (show -1 = z by rw [← h, szR, if_pos hl])
    have hs : szI left n = -1 := by rw [szI, if_pos hl]
    clear h
    go_enter Tryd.func36, Tryd.ntmps36
    go_wp2_with fail
    refine (szI_is hs h0 h1 hn a c _).mono ?_
    rintro e w1 ⟨rfl, rfl⟩
    go_wp2_with fail
    go_ret
    exact ⟨ret_int HX.out, HB.out⟩
  · have hs : szI left n = left - n := by rw [szI, if_neg hl]
    have hge : ¬ left - (n : Int) < 0 := by omega
    have h2 : 0 ≤ left - (n : Int) := by omega
    have HK := Lib.hid (show szI (left - n) m = z by rw [← h, szR, if_neg hl]; rfl)
    have hz : z < 0 ∧ -1 = z ∨ ¬ z < 0 := by
      rw [← HK.out, szI]; split <;> omega
    clear h
    go_enter Tryd.func36, Tryd.ntmps36
    go_wp2_with fail
    refine (szI_is hs h0 h1 hn a c _).mono ?_
    rintro en w1 ⟨rfl, rfl⟩
    go_wp2_with fail
    refine (szI_is HK.out h2 (by omega) hm d e _).mono ?_
    rintro en w1 ⟨rfl, rfl⟩
    rcases hz with ⟨hz, hz2⟩ | hz
    · have HX := Lib.hid hz2
      clear hz2
      go_wp2_with fail
      go_ret
      exact ⟨ret_int HX.out, HB.out⟩
    · go_wp2_with fail
      go_ret
      exact ⟨rfl, HB.out⟩

/-! to -/
/-- the answer's cells behind the last store -/
theorem ms_fin {w W : World} {pv mv : Value} {P U : List Int} {A B S : Nat} {x0 x1 x3 z0' z1 z2 z3 z4 : Value} (hP : OwnI W A pv P) (bP : pBtw pv A B) (hU : OwnI W S mv U)
    (hA : At5 W (w.heap.size + 1) z0' z1 z2 z3 z4) (hs0 : w.heap.size + 2 ≤ A) (hS : A ≤ S) (hB : Below w.heap.size w W) (hBS : B ≤ S := by exact Nat.le_refl _) :
    At5 (set5 W (w.heap.size + 1) x0 x1 pv x3 mv) (w.heap.size + 1) x0 x1 pv x3 mv ∧ OwnRt w (0, 0, P, 0, U) pv mv (set5 W (w.heap.size + 1) x0 x1 pv x3 mv) := by
  have bU := OwnI.btw hU
  exact ⟨hA.put _ _ _ _ _, S, owni_mono (owni_set5 hP bP (.inl (by omega)) _ _ _ _ _) (by omega), bP.mono (by omega) hBS, owni_set5 hU bU (.inl (by omega)) _ _ _ _ _, by omega, below_set5 hB (by omega) _ _ _ _ _⟩
/-- a route under way into the answer -/
def To3 (w : World) (x0 x1 x2 x3 x4 y0 y1 y2 y3 y4 : Value) (W : World) : Prop :=
  At5 W w.heap.size x0 x1 x2 x3 x4 ∧ At5 W (w.heap.size + 1) (.int .i64 0) (.int .i64 0) (.slice none 0 0) (.int .i64 0) (.slice none 0 0) ∧ At5 W (w.heap.size + 2) y0 y1 y2 y3 y4 ∧ Below w.heap.size w W
theorem To3.new (w : World) (x0 x1 x2 x3 x4 : Value) (t t' t'' : TypeId) :
    To3 w x0 x1 x2 x3 x4 (.int .i64 0) (.int .i64 0) (.slice none 0 0) (.int .i64 0) (.slice none 0 0) (((w.alloc (.cells #[x0, x1, x2, x3, x4] t)).alloc (.cells #[.int .i64 0, .int .i64 0, .slice none 0 0, .int .i64 0, .slice none 0 0] t')).alloc (.cells #[.int .i64 0, .int .i64 0, .slice none 0 0, .int .i64 0, .slice none 0 0] t'')) := by
  obtain ⟨k1, k2, k3⟩ := At5.two w x0 x1 x2 x3 x4 (.int .i64 0) (.int .i64 0) (.slice none 0 0) (.int .i64 0) (.slice none 0 0) t t'
  have h3 := At5.new ((w.alloc (.cells #[x0, x1, x2, x3, x4] t)).alloc (.cells #[.int .i64 0, .int .i64 0, .slice none 0 0, .int .i64 0, .slice none 0 0] t')) (.int .i64 0) (.int .i64 0) (.slice none 0 0) (.int .i64 0) (.slice none 0 0) t''
  simp only [World.size_alloc] at h3
  exact ⟨k1.alloc _, k2.alloc _, h3, k3.alloc k3.size _⟩
section
variable {w W W' : World} {x0 x1 x2 x3 x4 y0 y1 y2 y3 y4 : Value}
theorem To3.later (h : To3 w x0 x1 x2 x3 x4 y0 y1 y2 y3 y4 W) (k : Below W.heap.size W W') : To3 w x0 x1 x2 x3 x4 y0 y1 y2 y3 y4 W' := ⟨h.1.below k, h.2.1.below k, h.2.2.1.below k, next h.2.2.2 k⟩
theorem To3.far (h : To3 w x0 x1 x2 x3 x4 y0 y1 y2 y3 y4 W) (o : Nat) (v : Value) : At5 (W.setCell ⟨w.heap.size + 2, o, none⟩ v) w.heap.size x0 x1 x2 x3 x4 ∧ At5 (W.setCell ⟨w.heap.size + 2, o, none⟩ v) (w.heap.size + 1) (.int .i64 0) (.int .i64 0) (.slice none 0 0) (.int .i64 0) (.slice none 0 0) ∧ Below w.heap.size w (W.setCell ⟨w.heap.size + 2, o, none⟩ v) :=
  ⟨h.1.far ⟨w.heap.size + 2, o, none⟩ v (by simp), h.2.1.far ⟨w.heap.size + 2, o, none⟩ v (by simp), h.2.2.2.setCell (p := ⟨w.heap.size + 2, o, none⟩) (by show w.heap.size ≤ w.heap.size + 2; omega) v⟩
theorem To3.put0 (h : To3 w x0 x1 x2 x3 x4 y0 y1 y2 y3 y4 W) (v : Value) : To3 w x0 x1 x2 x3 x4 v y1 y2 y3 y4 (W.setCell ⟨w.heap.size + 2, 0, none⟩ v) := ⟨(h.far 0 v).1, (h.far 0 v).2.1, h.2.2.1.put0 v, (h.far 0 v).2.2⟩
theorem To3.put1 (h : To3 w x0 x1 x2 x3 x4 y0 y1 y2 y3 y4 W) (v : Value) : To3 w x0 x1 x2 x3 x4 y0 v y2 y3 y4 (W.setCell ⟨w.heap.size + 2, 1, none⟩ v) := ⟨(h.far 1 v).1, (h.far 1 v).2.1, h.2.2.1.put1 v, (h.far 1 v).2.2⟩
theorem To3.put2 (h : To3 w x0 x1 x2 x3 x4 y0 y1 y2 y3 y4 W) (v : Value) : To3 w x0 x1 x2 x3 x4 y0 y1 v y3 y4 (W.setCell ⟨w.heap.size + 2, 2, none⟩ v) := ⟨(h.far 2 v).1, (h.far 2 v).2.1, h.2.2.1.put2 v, (h.far 2 v).2.2⟩
theorem To3.put3 (h : To3 w x0 x1 x2 x3 x4 y0 y1 y2 y3 y4 W) (v : Value) : To3 w x0 x1 x2 x3 x4 y0 y1 y2 v y4 (W.setCell ⟨w.heap.size + 2, 3, none⟩ v) := ⟨(h.far 3 v).1, (h.far 3 v).2.1, h.2.2.1.put3 v, (h.far 3 v).2.2⟩
theorem To3.put4 (h : To3 w x0 x1 x2 x3 x4 y0 y1 y2 y3 y4 W) (v : Value) : To3 w x0 x1 x2 x3 x4 y0 y1 y2 y3 v (W.setCell ⟨w.heap.size + 2, 4, none⟩ v) := ⟨(h.far 4 v).1, (h.far 4 v).2.1, h.2.2.1.put4 v, (h.far 4 v).2.2⟩
end

set_option maxRecDepth 100000 in
set_option maxHeartbeats 2000000 in
theorem tort_is (f b : Int) (a : Option Addr) (c : Nat) (P : List Int) (l : Int) (d : Option Addr) (e : Nat) (M : List Int) (w : World) (hm : RtM w a c P d e M) (hl1 : P.length ≤ 1048576) (hl2 : M.length ≤ 1048576) :
    Calls Tryd.prog 37 #[.agg #[.int .i64 f, .int .i64 b, .slice a P.length c, .int .i64 l, .slice d M.length e]] w fun en w' => ∃ pv mv, en = .returned (.agg #[.int .i64 f, .int .i64 b, pv, .int .i64 l, mv]) ∧ OwnRt w (f, b, P, l, M) pv mv w' := by
  have H0 := Lib.hid (To3.new w (.int .i64 f) (.int .i64 b) (.slice a P.length c) (.int .i64 l) (.slice d M.length e) 58 27 27)
  have HM := Lib.hid hm
  have hsz : (((w.alloc (.cells #[.int .i64 f, .int .i64 b, .slice a P.length c, .int .i64 l, .slice d M.length e] 58)).alloc (.cells #[.int .i64 0, .int .i64 0, .slice none 0 0, .int .i64 0, .slice none 0 0] 27)).alloc (.cells #[.int .i64 0, .int .i64 0, .slice none 0 0, .int .i64 0, .slice none 0 0] 27)).heap.size = w.heap.size + 3 := by simp
  clear hm
  go_enter Tryd.func37, Tryd.ntmps37
  go_wp2_with fail
  generalize ((w.alloc (.cells #[.int .i64 f, .int .i64 b, .slice a P.length c, .int .i64 l, .slice d M.length e] 58)).alloc (.cells #[.int .i64 0, .int .i64 0, .slice none 0 0, .int .i64 0, .slice none 0 0] 27)).alloc (.cells #[.int .i64 0, .int .i64 0, .slice none 0 0, .int .i64 0, .slice none 0 0] 27) = W at *
  refine (to_any f b _).mono ?_
  rintro en w1 ⟨rfl, b1⟩
  have hs1 := b1.size
  have H1 := Lib.hid (H0.out.later b1)
  clear b1 H0
  have I1 := Lib.hid ((H1.out.put0 (.int .i64 f)).put1 (.int .i64 b))
  obtain ⟨⟨q0, q1, q2, q3, q4⟩, k0, k1, k2, k3, k4⟩ := H1.out.1
  obtain ⟨⟨s0, s1, s2, s3, s4⟩, r0, r1, r2, r3, r4⟩ := H1.out.2.2.1
  go_wp2_with fail
  clear q0 q1 q2 q3 q4 k0 k1 k2 k3 k4 s0 s1 s2 s3 s4 r0 r1 r2 r3 r4
  refine (toI_any a c P _ (HM.out.1.1.below I1.out.2.2.2) hl1).mono ?_
  rintro en w2 ⟨v2, rfl, o2, b2⟩
  simp only [World.size_setCell] at o2
  obtain ⟨a2, c2, rfl, _, _⟩ := OwnI.tab o2
  have H2 := Lib.hid (I1.out.later b2)
  have hs2 : w1.heap.size ≤ w2.heap.size := by have := b2.size; simpa only [World.size_setCell] using this
  have O2 := Lib.hid (And.intro o2 (OwnI.btw o2))
  clear b2 o2 I1 H1
  have I2 := Lib.hid ((H2.out.put2 (.slice a2 P.length c2)).put3 (.int .i64 l))
  have P2 := Lib.hid (owni_set (owni_set O2.out.1 (q := ⟨w.heap.size + 2, 2, none⟩) (by show w.heap.size + 2 < w1.heap.size; omega) (.slice a2 P.length c2)) (q := ⟨w.heap.size + 2, 3, none⟩) (by show w.heap.size + 2 < w1.heap.size; omega) (.int .i64 l))
  obtain ⟨⟨q0, q1, q2, q3, q4⟩, k0, k1, k2, k3, k4⟩ := H2.out.1
  obtain ⟨⟨s0, s1, s2, s3, s4⟩, r0, r1, r2, r3, r4⟩ := H2.out.2.2.1
  go_wp2_with fail
  clear q0 q1 q2 q3 q4 k0 k1 k2 k3 k4 s0 s1 s2 s3 s4 r0 r1 r2 r3 r4
  refine (toI_any d e M _ (HM.out.1.2.below I2.out.2.2.2) hl2).mono ?_
  rintro en w3 ⟨v3, rfl, o3, b3⟩
  have P3 := Lib.hid (owni_later P2.out b3)
  simp only [World.size_setCell] at o3
  obtain ⟨a3, c3, rfl, _, _⟩ := OwnI.tab o3
  have H3 := Lib.hid (I2.out.later b3)
  have O3 := Lib.hid o3
  clear b3 o3 I2 H2 P2
  have I3 := Lib.hid (H3.out.put4 (.slice a3 M.length c3))
  have P4 := Lib.hid (owni_set P3.out (q := ⟨w.heap.size + 2, 4, none⟩) (by show w.heap.size + 2 < w1.heap.size; omega) (.slice a3 M.length c3))
  have O4 := Lib.hid (owni_set O3.out (q := ⟨w.heap.size + 2, 4, none⟩) (by show w.heap.size + 2 < w2.heap.size; omega) (.slice a3 M.length c3))
  have HF := Lib.hid (ms_fin (w := w) (x0 := .int .i64 f) (x1 := .int .i64 b) (x3 := .int .i64 l) P4.out O2.out.2 O4.out I3.out.2.1 (by omega) hs2 I3.out.2.2.2)
  obtain ⟨⟨q0, q1, q2, q3, q4⟩, k0, k1, k2, k3, k4⟩ := H3.out.2.1
  obtain ⟨⟨s0, s1, s2, s3, s4⟩, r0, r1, r2, r3, r4⟩ := H3.out.2.2.1
  go_wp2_with fail
  obtain ⟨⟨⟨g0, g1, g2, g3, g4⟩, _⟩, gO⟩ := HF.out
  unfold set5 at g0 g1 g2 g3 g4
  exact bodyPost_ret (v := .agg #[.int .i64 f, .int .i64 b, .slice a2 P.length c2, .int .i64 l, .slice a3 M.length c3]) (by simp [results, Tryd.results37, go_sem, g0, g1, g2, g3, g4]) rfl ⟨_, _, rfl, gO⟩

/-! mark, held: from a number on -/
def pmarkG (s n : Nat) : List Int := (List.range n).map fun (i : Nat) => ((s + i : Nat) : Int)
theorem pmarkG_len (s n : Nat) : (pmarkG s n).length = n := by simp [pmarkG]
theorem pmarkG_at {s n k : Nat} (h : k < n) : (pmarkG s n)[k]? = some ((s + k : Nat) : Int) := by simp [pmarkG, h]
theorem pmarkG_all {s n : Nat} {M : List Int} (hM : M.length = n) (h : ∀ j, j < n → M[j]? = (pmarkG s n)[j]?) : M = pmarkG s n := List.ext_getElem? fun j => by
  by_cases e : j < n
  · exact h j e
  · rw [List.getElem?_eq_none (by omega), List.getElem?_eq_none (by rw [pmarkG_len]; omega)]

set_option maxRecDepth 100000 in
set_option maxHeartbeats 2000000 in
theorem gmark_own (s g cap : Nat) (L : List Int) (R : Nat) (w : World) (ho : OwnI w R (.slice (some ⟨g, 0, none⟩) L.length cap) L) (hl : L.length ≤ 2000000) (hs : s ≤ 3000000) :
    Calls Tryd.prog 83 #[.slice (some ⟨g, 0, none⟩) L.length cap, .int .i64 (s : Int)] w fun e w' => e = .returned (.int .i64 ((s + L.length : Nat) : Int)) ∧ OwnI w' R (.slice (some ⟨g, 0, none⟩) L.length cap) (pmarkG s L.length) ∧ w.grownBy w' (some g) := by
  have HO := Lib.hid ho
  clear ho
  go_enter Tryd.func83, Tryd.ntmps83
  go_wp2_with fail
  go_loopw [1, 5] (fun q i wr => ∃ (k : Nat) (M : List Int), k ≤ L.length ∧ i = .int .i64 k ∧ q = .int .i64 ((s + k : Nat) : Int) ∧ Hid (M.length = L.length) ∧ (∀ j, j < k → M[j]? = (pmarkG s L.length)[j]?) ∧ OwnI wr R (.slice (some ⟨g, 0, none⟩) M.length cap) M ∧ w.grownBy wr (some g)) (fun _ i _ => L.length - (intOf i).toNat)
  case atStart => exact ⟨0, L, Nat.zero_le _, rfl, by simp, Lib.hid rfl, fun _ h => by omega, HO.out, World.grownBy.refl _ _⟩
  case round =>
    obtain ⟨k, M, hk, rfl, rfl, hM, hj, ho, hg⟩ := hrel
    clear HO
    by_cases hlt : k < L.length
    · have hkM : k < M.length := by rw [hM.out]; exact hlt
      have HP := Lib.hid (owni_put (k := k) ho ((s + k : Nat) : Int))
      have d0 := owni_cell ho hkM
      have f0 := World.ownsRow.frozenAt ho k
      have HJ := Lib.hid hj
      have HG := Lib.hid hg
      have HM := Lib.hid (pmarkG_at (s := s) hlt)
      have j0 : (0 : Int) ≤ (k : Int) := by omega
      have j1 : (k : Int) < (L.length : Int) := by omega
      generalize hq : s + k = q at *
      generalize M[k] = m at *
      clear ho hj hg
      go_wp2_with fail
      go_roundw
      case rel =>
        refine ⟨k + 1, M.set k (q : Int), by omega, by go_num, by rw [← Nat.add_assoc, hq]; go_num, Lib.hid (by rw [List.length_set]; exact hM.out), fun j hj => ?_, by rw [List.length_set]; exact HP.out.1, only_on HG.out HP.out.2⟩
        by_cases e : j = k
        · subst e; rw [List.getElem?_set_self hkM]; exact HM.out.symm
        · rw [List.getElem?_set_ne (fun h => e h.symm)]; exact HJ.out j (by omega)
      case measure => simp [intOf]; omega
    · obtain rfl : k = L.length := by omega
      have hML := pmarkG_all hM.out hj
      have R := Lib.hid (And.intro ho hg)
      rw [hML, pmarkG_len] at R
      clear ho hg hj hML
      go_wp2_with fail
      go_ret
      exact ⟨rfl, R.out.1, R.out.2⟩
theorem gmark_any (s : Nat) (v : Value) (L : List Int) (R : Nat) (w : World) (ho : OwnI w R v L) (hl : L.length ≤ 2000000) (hs : s ≤ 3000000) :
    Calls Tryd.prog 83 #[v, .int .i64 (s : Int)] w fun e w' => e = .returned (.int .i64 ((s + L.length : Nat) : Int)) ∧ OwnI w' R v (pmarkG s L.length) ∧ w.grownBy w' v.ownBlock := by
  obtain ⟨_, h2⟩ := id ho
  rcases h2 with ⟨rfl, h0⟩ | ⟨g, cap, cur, rfl, _⟩
  · have hL : L = [] := List.eq_nil_of_length_eq_zero h0
    subst hL
    have HO := Lib.hid (show OwnI w R (.slice none 0 0) (pmarkG s 0) from ho)
    clear ho
    go_enter Tryd.func83, Tryd.ntmps83
    go_wp2_with fail
    refine wp_loop_rounds 1 ?_
    rw [rounds_succ]
    go_wp2_with fail
    go_ret
    exact ⟨by simp, HO.out, World.grownBy.refl _ _⟩
  · exact gmark_own s g cap L R w ho hl hs

set_option maxRecDepth 100000 in
set_option maxHeartbeats 2000000 in
theorem gheld_any (s : Nat) (a : Option Addr) (cap n : Nat) (w : World) (hT : IntA w a (pmarkG s n)) (hl : n ≤ 2000000) (hs : s ≤ 3000000) :
    Calls Tryd.prog 84 #[.slice a n cap, .int .i64 (s : Int)] w fun e w' => e = .returned (.int .i64 ((s + n : Nat) : Int)) ∧ w = w' := by
  have HT := Lib.hid hT
  clear hT
  go_enter Tryd.func84, Tryd.ntmps84
  go_wp2_with fail
  go_loopw [1, 5] (fun q i wr => ∃ (k : Nat), k ≤ n ∧ i = .int .i64 k ∧ q = .int .i64 ((s + k : Nat) : Int) ∧ wr = w) (fun _ i _ => n - (intOf i).toNat)
  case atStart => exact ⟨0, Nat.zero_le _, rfl, by simp, rfl⟩
  case round =>
    obtain ⟨k, hk, rfl, rfl, rfl⟩ := hrel
    by_cases hlt : k < n
    · obtain ⟨b, off, x, rfl, hTk, c0⟩ := HT.out.at (show k < (pmarkG s n).length by rw [pmarkG_len]; exact hlt)
      rw [pmarkG_at hlt] at hTk
      obtain rfl : ((s + k : Nat) : Int) = x := by simpa using hTk
      have j0 : (0 : Int) ≤ (k : Int) := by omega
      have j1 : (k : Int) < (n : Int) := by omega
      clear hTk
      generalize hq : s + k = q at *
      go_wp2_with fail
      go_roundw
      case rel => exact ⟨k + 1, by omega, by go_num, by rw [← Nat.add_assoc, hq]; go_num, by first | rfl | trivial⟩
      case measure => simp [intOf]; omega
    · obtain rfl : k = n := by omega
      go_wp2_with fail
      go_ret
      exact ⟨rfl, rfl⟩

theorem apart2 {w : World} {pv mv : Value} {lo S : Nat} {M : List Int} (bP : pBtw pv lo S) (o : OwnI w S mv M) : pv.ownBlock = none ∨ pv.ownBlock ≠ mv.ownBlock := by
  cases e : pv.ownBlock with
  | none => exact .inl rfl
  | some k => exact .inr fun q => by have := (bP k e).2; have := (o.lt k q.symm).1; omega
theorem apart_sym {pv mv : Value} (h : pv.ownBlock = none ∨ pv.ownBlock ≠ mv.ownBlock) : mv.ownBlock = none ∨ mv.ownBlock ≠ pv.ownBlock := by
  cases e : mv.ownBlock with
  | none => exact .inl rfl
  | some k =>
    refine .inr fun q => ?_
    rcases h with h | h
    · rw [h] at q; cases q
    · exact h (by rw [e, q])

set_option maxHeartbeats 1000000 in
/-- marks into a route of the call's own: first its path, then its marks -/
theorem markrt_any (f b l : Int) (a d : Option Addr) (c e : Nat) (P M : List Int) (A S : Nat) (w : World) (hP : OwnI w A (.slice a P.length c) P) (hM : OwnI w S (.slice d M.length e) M)
    (hap : (Value.slice a P.length c).ownBlock = none ∨ (Value.slice a P.length c).ownBlock ≠ (Value.slice d M.length e).ownBlock) (hl1 : P.length ≤ 2000000) (hl2 : M.length ≤ 2000000) :
    Calls Tryd.prog 40 #[.agg #[.int .i64 f, .int .i64 b, .slice a P.length c, .int .i64 l, .slice d M.length e], .int .i64 1] w fun en w' => en = .returned (.int .i64 ((1 + P.length + M.length : Nat) : Int)) ∧
      OwnI w' A (.slice a P.length c) (pmarkG 1 P.length) ∧ OwnI w' S (.slice d M.length e) (pmarkG (1 + P.length) M.length) ∧ ∃ W0 W1, Below w.heap.size w W0 ∧ W0.grownBy W1 (Value.slice a P.length c).ownBlock ∧ W1.grownBy w' (Value.slice d M.length e).ownBlock := by
  have H0 := Lib.hid (And.intro (hP.alloc (.cells #[.int .i64 f, .int .i64 b, .slice a P.length c, .int .i64 l, .slice d M.length e] 27)) (And.intro (hM.alloc (.cells #[.int .i64 f, .int .i64 b, .slice a P.length c, .int .i64 l, .slice d M.length e] 27)) (And.intro ((Below.refl w.heap.size w).alloc (Nat.le_refl _) (.cells #[.int .i64 f, .int .i64 b, .slice a P.length c, .int .i64 l, .slice d M.length e] 27)) (At5.new w (.int .i64 f) (.int .i64 b) (.slice a P.length c) (.int .i64 l) (.slice d M.length e) 27))))
  have hP' := hP.lt
  have hap' := Lib.hid hap
  have hPl := Lib.hid hP.lt
  clear hP hM hap hP'
  go_enter Tryd.func40, Tryd.ntmps40
  go_wp2_with fail
  generalize w.alloc (.cells #[.int .i64 f, .int .i64 b, .slice a P.length c, .int .i64 l, .slice d M.length e] 27) = W at *
  refine (gmark_any 1 _ P _ _ H0.out.1 hl1 (by omega)).mono ?_
  rintro en w1 ⟨rfl, o1, g1⟩
  have H1 := Lib.hid (And.intro o1 (And.intro (H0.out.2.1.kept g1 (apart_sym hap'.out)) (And.intro g1 (H0.out.2.2.2.only g1 (fun q => by have := (hPl.out _ q.symm).2; omega)))))
  clear o1 g1
  obtain ⟨⟨q0, q1, q2, q3, q4⟩, _⟩ := H1.out.2.2.2
  go_wp2_with fail
  clear q0 q1 q2 q3 q4
  refine (gmark_any (1 + P.length) _ M _ _ H1.out.2.1 hl2 (by omega)).mono ?_
  rintro en w2 ⟨rfl, o2, g2⟩
  have H2 := Lib.hid (And.intro (World.ownsRow.kept H1.out.1 g2 hap'.out) (And.intro o2 g2))
  clear o2 g2
  go_wp2_with fail
  go_ret
  exact ⟨rfl, H2.out.1, H2.out.2.1, _, _, H0.out.2.2.1, H1.out.2.2.1, H2.out.2.2⟩

end Go.Proofs.YtnnmgbgkgnejlaaDoor
