/-
  The law on one route more behind a list: the walk.
-/
import Derived.Test.YtfjfcdifnfffbaaDoorRtLi
import Derived.Test.YtfjfcdifnfffbaaDoorRtDd
import Derived.Test.YtfjfcdifnfffbaaDoorRtMem
namespace Go.Proofs.YtfjfcdifnfffbaaDoor
open Go.RowKit
set_option linter.unusedSimpArgs false
set_option linter.unusedVariables false

/-- 'append(own, xs...)' on routes, in a region that draws its order -/
theorem wp_appV {o : Oper} {act : Act} {w : World} {Kc : Act → World → Prop} {Q : Exit → Act → World → Prop} (s x : Operand)
    (hop : o.op = .call { callee := .builtin .append, args := #[s, x], argTypes := #[41, 41] })
    (R g cap : Nat) (L : List RV) (n : Nat) (hn : n = L.length) (hs : act.eval s = .slice (some ⟨g, 0, none⟩) n cap) (hown : OwnW w R g cap L)
    (D m c : Nat) (M : List RV) (hm : m = M.length) (hx : act.eval x = .slice (some ⟨D, 0, none⟩) m c) (hM : ∀ (j : Nat) u, (cells5 M)[j]? = some u → w.cell? ⟨D, j, none⟩ = some u) (hlen : L.length + M.length ≤ 2000000) (hR : R ≤ w.heap.size)
    (h : ∀ g' cap' w', OwnW w' R g' cap' (L ++ M) → w.grownBy w' (some g) → Kc (act.put o.dst (.slice (some ⟨g', 0, none⟩) (L ++ M).length cap')) w') : o.wp Tryd.prog act w Kc Q := by
  subst hn hm
  obtain ⟨i0, hi, hz0, hz1, hz2⟩ := info_parts infoR
  refine wp_append_own w s x 41 hop R 27 i0 (.agg #[.int .i64 0, .int .i64 0, .slice none 0 0, .int .i64 0, .slice none 0 0]) 5 72 Tryd.underlying41 hi hz0 hz1 hz2 rfl (by decide) _ L.length (cells5 L) hs hown ⟨D, 0, none⟩ M.length c (cells5 M) hx (cells5_len M) ?_ (one5 M) (by unfold maxLen; omega) (by omega) hR ?_
  · intro j u hu
    have := hM j u hu
    by_cases hj : j = 0
    · subst hj; simpa [Addr.add] using this
    · simpa [Addr.add, hj] using this
  · intro v' w' h2 h3 h4
    have h5 : w'.ownsRow R 27 5 v' (L ++ M).length (cells5 (L ++ M)) := by rw [List.length_append, cells5_app]; exact h2
    rcases h5.2 with ⟨e0, _⟩ | ⟨g', cap', cur, e0, _⟩
    · rw [h4] at e0; cases e0.1
    · subst e0
      exact h g' cap' w' h5 (by simpa [Value.ownBlock] using h3)
theorem bestu_app {l : List Rt} {n k : Nat} (r : Rt) (h : BestU l n k) (hn : n ≤ l.length) : BestU (l ++ [r]) n k := by
  obtain ⟨x, h1, h2, h3, h4⟩ := h
  have up : ∀ (j : Nat), j < l.length → (l ++ [r])[j]? = l[j]? := fun j hj => List.getElem?_append_left hj
  exact ⟨x, by rw [up k (by omega)]; exact h1, h2, fun j y hj hy => h3 j y hj (by rw [← up j (by omega)]; exact hy), fun j y hj hy => h4 j y hj (by rw [← up j (by omega)]; exact hy)⟩
theorem isbest_u {l : List Rt} {k : Nat} (h : IsBest l k) : BestU l l.length k := by
  obtain ⟨r, h1, h2, h3⟩ := h
  exact ⟨r, h1, (List.getElem?_eq_some_iff.1 h1).1, fun j x _ hx => h2 j x hx, h3⟩
/-- one route more: it is the best one if it is better than the best one so far -/
theorem best_more {l : List Rt} {t : Nat} {u r : Rt} (h : IsBest l t) (hu : l[t]? = some u) (hok : ∀ x ∈ l, rtOk x = true) (hr : rtOk r = true) : BestIs (l ++ [r]) (if rtCmp0 r u < 0 then (l.length : Int) else (t : Int)) := by
  have hx : (l ++ [r])[l.length]? = some r := by rw [List.getElem?_append_right (Nat.le_refl _)]; simp
  have ht := (List.getElem?_eq_some_iff.1 hu).1
  have hu' : (l ++ [r])[t]? = some u := by rw [List.getElem?_append_left ht]; exact hu
  have hU := bestu_app r (isbest_u h) (Nat.le_refl _)
  have hok' : ∀ x ∈ l ++ [r], rtOk x = true := fun x hx => by
    rcases List.mem_append.1 hx with k | k
    · exact hok x k
    · obtain rfl : x = r := by simpa using k
      exact hr
  have v := rtCmp0_vals r u
  split
  · exact .inl ⟨by simp, hok', l.length, rfl, BestU.all (by rw [List.length_append]; exact hU.turn hu' hx (by omega))⟩
  · exact .inl ⟨by simp, hok', t, rfl, BestU.all (by rw [List.length_append]; exact hU.stay hu' hx (by omega))⟩

theorem ownw_e1 (w : World) (o : Obj) : OwnW ((w.alloc o).alloc (.cells #[] 27)) w.heap.size (w.heap.size + 1) 0 [] := by
  have := ownw_empty (w.alloc o) w.heap.size (by simp)
  rw [World.size_alloc] at this
  exact this
theorem RtsO.m6 {w : World} {R g cap : Nat} {L : List RV} (h : RtsO w R g cap L) (v : RV) (hv : v ∈ L) : v.m w := (h.2 v hv).1.m (by have := (h.2 v hv).2.1; omega) (by have := (h.2 v hv).2.2; omega)
theorem RV.m.below {v : RV} {w w' : World} (h : v.m w) (k : Below w.heap.size w w') : v.m w' := RtM.below h k
theorem vcell_far {B : Nat} {w w' : World} (h : Below B w w') {a : Addr} {v : Value} (ha : a.block < B) (hc : w.cell? a = some v) : w'.cell? a = some v := by rw [h.cell ha]; exact hc

set_option maxRecDepth 100000 in
set_option maxHeartbeats 4000000 in
theorem lawBestMore (a0 : Option Addr) (len0 cap0 : Nat) (zs0 : List Int) (a1 : Option Addr) (len1 cap1 : Nat) (zs1 : List Int) (w : World) (h0 : IsRow w a0 len0 cap0 zs0) (h1 : IsRow w a1 len1 cap1 zs1) (p : Addr) (hE : EV w p) (_ : True) :
    Calls Tryd.prog 12 #[.slice a0 len0 cap0, .slice a1 len1 cap1] w fun e w' => e = .returned (.bool true) ∧ Below w.heap.size w w' := by
  have H0 := Lib.hid h0
  have H1 := Lib.hid h1
  have HE := Lib.hid hE
  clear h0 h1 hE
  by_cases hl0 : (1048576 : Int) < (len0 : Int)
  · go_enter Tryd.func12, Tryd.ntmps12
    go_wp2_with fail
    go_ret
    exact ⟨rfl, Below.refl _ _⟩
  by_cases hl1 : (1048576 : Int) < (len1 : Int)
  · go_enter Tryd.func12, Tryd.ntmps12
    go_wp2_with fail
    go_ret
    exact ⟨rfl, Below.refl _ _⟩
  go_enter Tryd.func12, Tryd.ntmps12
  go_wp2_with fail
  refine (dBest_any a0 len0 cap0 zs0 _ H0.out).mono ?_
  rintro en w1 ⟨L, g, cap, rfl, hl, hO, b1⟩
  have HO := Lib.hid hO
  have HB := Lib.hid b1
  clear hO b1
  obtain ⟨z, hz⟩ := best_ex (L.map RV.rt)
  have HZ := Lib.hid hz
  have z1 : (z != z) = false := by simp
  have z2 : (z == z) = true := by simp
  clear hz
  go_wp2_with fail
  refine (ibest_is L (some ⟨g, 0, none⟩) cap _ _ p HZ.out rfl HO.out.rsa (HE.out.below HB.out) (by omega)).mono ?_
  rintro en w2 ⟨rfl, b2⟩
  have HO2 := Lib.hid (HO.out.later b2)
  have HB2 := Lib.hid (next HB.out b2)
  clear b2 HO HB
  go_wp2_with fail
  refine (sbest_is L (some ⟨g, 0, none⟩) cap _ _ HZ.out rfl HO2.out.rsa (by omega)).mono ?_
  rintro en w3 ⟨rfl, b3⟩
  have HO3 := Lib.hid (HO2.out.later b3)
  have HB3 := Lib.hid (next HB2.out b3)
  clear b3 HO2 HB2
  by_cases hneg : z < 0
  · go_wp2_with fail
    refine (sbest_is L (some ⟨g, 0, none⟩) cap _ _ HZ.out rfl HO3.out.rsa (by omega)).mono ?_
    rintro en w4 ⟨rfl, b4⟩
    have HB4 := Lib.hid (next HB3.out b4)
    clear b4
    go_wp2_with fail
    go_ret
    exact ⟨rfl, HB4.out⟩
  · obtain ⟨t, rfl, hT, htl, hok⟩ := best_pos HZ.out hneg
    rw [List.length_map] at htl
    have HT := Lib.hid hT
    have HK := Lib.hid hok
    have t0 : (0 : Int) ≤ (t : Int) := by omega
    have t1 : (t : Int) < (L.length : Int) := by omega
    obtain ⟨u, hu⟩ : ∃ u, L[t]? = some u := ⟨_, List.getElem?_eq_getElem htl⟩
    have HU := Lib.hid hu
    clear hT hok hu
    go_wp2_with fail
    refine (dRouteText_any a1 len1 cap1 zs1 _ (isrow_later H1.out HB3.out)).mono ?_
    rintro en w4 ⟨fr, br, lr, Pr, Mr, pv, mv, rfl, ⟨hlP, hlM⟩, ⟨o, o2⟩, b4⟩
    obtain ⟨ar, cr, rfl, _, _⟩ := OwnI.tab o
    obtain ⟨dr, er, rfl, _, _⟩ := OwnI.tab o2
    have HV : Hid ((⟨fr, br, ar, cr, Pr, lr, dr, er, Mr⟩ : RV).own w4 w.heap.size ∧ Pr.length ≤ 6 ∧ Mr.length ≤ 11) := Lib.hid ⟨⟨owni_mono o HB3.out.size, owni_mono o2 HB3.out.size⟩, hlP, hlM⟩
    have HO4 := Lib.hid (HO3.out.later b4)
    have HB4 := Lib.hid (next HB3.out b4)
    clear b4 o o2 HO3 HB3
    have X5 := Lib.hid (At5.new w4 (.int .i64 fr) (.int .i64 br) (.slice ar Pr.length cr) (.int .i64 lr) (.slice dr Mr.length er) 27)
    have HO5 := Lib.hid (HO4.out.alloc (.cells #[.int .i64 fr, .int .i64 br, .slice ar Pr.length cr, .int .i64 lr, .slice dr Mr.length er] 27))
    have HB5 := Lib.hid (HB4.out.alloc HB4.out.size (.cells #[.int .i64 fr, .int .i64 br, .slice ar Pr.length cr, .int .i64 lr, .slice dr Mr.length er] 27))
    have HV5 : Hid ((⟨fr, br, ar, cr, Pr, lr, dr, er, Mr⟩ : RV).own (w4.alloc (.cells #[.int .i64 fr, .int .i64 br, .slice ar Pr.length cr, .int .i64 lr, .slice dr Mr.length er] 27)) w.heap.size ∧ Pr.length ≤ 6 ∧ Mr.length ≤ 11) := Lib.hid ⟨⟨World.ownsRow.alloc HV.out.1.1 _, World.ownsRow.alloc HV.out.1.2 _⟩, HV.out.2⟩
    go_wp2_with fail
    generalize w4.alloc (.cells #[.int .i64 fr, .int .i64 br, .slice ar Pr.length cr, .int .i64 lr, .slice dr Mr.length er] 27) = w5 at *
    clear HO4 HB4 HV
    cases hx : rtOk (fr, br, Pr, lr, Mr) with
    | false =>
      have HX := Lib.hid hx
      clear hx
      refine (irok_is fr br ar cr Pr lr dr er Mr HX.out _ p ⟨⟨(OwnI.intA HV5.out.1.1).2.2, (OwnI.intA HV5.out.1.2).2.2⟩, (OwnI.intA HV5.out.1.1).2.1, (OwnI.intA HV5.out.1.2).2.1, by omega, by omega⟩ (HE.out.below HB5.out)).mono ?_
      rintro en w6 ⟨rfl, b6⟩
      have HB6 := Lib.hid (next HB5.out b6)
      clear b6
      go_wp2_with fail
      go_ret
      exact ⟨rfl, HB6.out⟩
    | true =>
      have HX := Lib.hid hx
      clear hx
      refine (irok_is fr br ar cr Pr lr dr er Mr HX.out _ p ⟨⟨(OwnI.intA HV5.out.1.1).2.2, (OwnI.intA HV5.out.1.2).2.2⟩, (OwnI.intA HV5.out.1.1).2.1, (OwnI.intA HV5.out.1.2).2.1, by omega, by omega⟩ (HE.out.below HB5.out)).mono ?_
      rintro en w6 ⟨rfl, b6⟩
      have HB6 := Lib.hid (next HB5.out b6)
      have HO6 := Lib.hid (HO5.out.later b6)
      have X6 := Lib.hid (X5.out.below b6)
      have HV6 : Hid ((⟨fr, br, ar, cr, Pr, lr, dr, er, Mr⟩ : RV).own w6 w.heap.size ∧ Pr.length ≤ 6 ∧ Mr.length ≤ 11) := Lib.hid ⟨⟨owni_later HV5.out.1.1 b6, owni_later HV5.out.1.2 b6⟩, HV5.out.2⟩
      have hw6 := HB6.out.size
      clear b6 HB5 HO5 X5 HV5
      obtain ⟨x, hxz⟩ : ∃ x : Int, (if rtCmp0 (fr, br, Pr, lr, Mr) u.rt < 0 then (L.length : Int) else (t : Int)) = x := ⟨_, rfl⟩
      have HBx : Hid (BestIs ((L ++ [(⟨fr, br, ar, cr, Pr, lr, dr, er, Mr⟩ : RV)]).map RV.rt) x) := Lib.hid (by have h := best_more HT.out (map_at HU.out) HK.out HX.out; rw [List.length_map, hxz] at h; rw [List.map_append]; exact h)
      have HXZ := Lib.hid hxz
      clear hxz
      go_wp2_with fail
      focus
        refine wp_region_held_drew (S := fun W => (W.cell? ⟨w4.heap.size, 0, none⟩ = some (.int .i64 fr) ∧ W.cell? ⟨w4.heap.size, 1, none⟩ = some (.int .i64 br) ∧ W.cell? ⟨w4.heap.size, 2, none⟩ = some (.slice ar Pr.length cr) ∧ W.cell? ⟨w4.heap.size, 3, none⟩ = some (.int .i64 lr) ∧ W.cell? ⟨w4.heap.size, 4, none⟩ = some (.slice dr Mr.length er)) ∧ Hid (Below w6.heap.size w6 W)) (by kernel_rfl) ?_ (fun hHeld => ?_)
        · exact ⟨X6.out.1, Lib.hid (Below.refl _ w6).drew⟩
        refine takeH (i := 1) (v := ?_) rfl rfl (by kernel_rfl) (by kernel_rfl) (by kernel_rfl) (fun _ _ _ h => h) (by rfl) ?_ (by assumption) ?_
        rotate_left 1
        · intro w hSw
          (try dsimp only at hSw)
          go_simp
          try with_reducible rfl
        try simp only [List.setIfInBounds_toArray, List.set_cons_zero, List.set_cons_succ]
        refine takeH (i := 3) (v := ?_) rfl rfl (by kernel_rfl) (by kernel_rfl) (by kernel_rfl) (fun _ _ _ h => h) (by rfl) ?_ (by assumption) ?_
        rotate_left 1
        · intro w hSw
          (try dsimp only at hSw)
          go_simp
          try with_reducible rfl
        try simp only [List.setIfInBounds_toArray, List.set_cons_zero, List.set_cons_succ]
        refine wpAnyH_ready (rs := [0, 4]) (by kernel_rfl) (by simp) ?_
        refine AllReadyH.cons rfl (fun K hK => ?_) (AllReadyH.cons rfl (fun K hK => ?_) (AllReadyH.nil))
        go_simp
        refine hK.out _ _ ?_ (fun hNew => ?_)
        · exact ⟨⟨cellA hHeld.1.1 _, cellA hHeld.1.2.1 _, cellA hHeld.1.2.2.1 _, cellA hHeld.1.2.2.2.1 _, cellA hHeld.1.2.2.2.2 _⟩, Lib.hid (hHeld.2.out.alloc hHeld.2.out.size _)⟩
        clear hK K hHeld
        have hHeld := hNew
        clear hNew
        try simp only [Act.put, List.setIfInBounds_toArray, List.set_cons_zero, List.set_cons_succ]
        refine wpAnyH_ready (rs := [2, 4]) (by kernel_rfl) (by simp) ?_
        refine AllReadyH.cons rfl (fun K hK => ?_) (AllReadyH.cons rfl (fun K hK => ?_) (AllReadyH.nil))
        refine wp_appV (.tmp 38) (.tmp 39) rfl w6.heap.size w6.heap.size 0 [] _ rfl (by simp [Act.eval]) (ownw_empty w6 w6.heap.size (Nat.le_refl _)) g L.length cap L rfl (by simp [Act.eval]) (OwnW.cellsA (HO6.out.alloc _).1) (by first | omega | (simp; done) | (simp; omega)) (by first | omega | (simp; done) | (simp; omega)) ?_
        intro g7 cap7 w7 own7 grow7
        replace own7 : OwnW w7 w6.heap.size g7 cap7 L := own7
        have HO7 := Lib.hid own7
        have b7 : Below w6.heap.size w6 w7 := (hHeld.2.out.grown grow7 hHeld.2.out.size (fun k e => by cases e; omega))
        refine hK.out _ _ ?_ (fun hNew => ?_)
        · exact ⟨⟨vcell_far b7 X6.out.lt X6.out.1.1, vcell_far b7 X6.out.lt X6.out.1.2.1, vcell_far b7 X6.out.lt X6.out.1.2.2.1, vcell_far b7 X6.out.lt X6.out.1.2.2.2.1, vcell_far b7 X6.out.lt X6.out.1.2.2.2.2⟩, Lib.hid b7⟩
        clear hK K hHeld
        have hHeld := hNew
        clear hNew
        try simp only [Act.put, List.setIfInBounds_toArray, List.set_cons_zero, List.set_cons_succ]
        refine wpAnyH_ready (rs := [4]) (by kernel_rfl) (by simp) ?_
        refine AllReadyH.cons rfl (fun K hK => ?_) (AllReadyH.nil)
        go_simp
        refine hK.out _ _ ?_ (fun hNew => ?_)
        · exact ⟨⟨cellA hHeld.1.1 _, cellA hHeld.1.2.1 _, cellA hHeld.1.2.2.1 _, cellA hHeld.1.2.2.2.1 _, cellA hHeld.1.2.2.2.2 _⟩, Lib.hid (hHeld.2.out.alloc hHeld.2.out.size _)⟩
        clear hK K hHeld
        have hHeld := hNew
        clear hNew
        try simp only [Act.put, List.setIfInBounds_toArray, List.set_cons_zero, List.set_cons_succ]
        refine wpAnyH_ready (rs := [5]) (by kernel_rfl) (by simp) ?_
        refine AllReadyH.cons rfl (fun K hK => ?_) (AllReadyH.nil)
        refine wp_appV (.tmp 40) (.tmp 42) rfl w6.heap.size g7 cap7 L _ rfl (by simp [Act.eval]) (World.ownsRow.alloc HO7.out (.cells #[.int .i64 fr, .int .i64 br, .slice ar Pr.length cr, .int .i64 lr, .slice dr Mr.length er] 27)) w7.heap.size 1 1 [⟨fr, br, ar, cr, Pr, lr, dr, er, Mr⟩] rfl (by simp [Act.eval]) (new5 w7 ⟨fr, br, ar, cr, Pr, lr, dr, er, Mr⟩) (by first | omega | (simp; done) | (simp; omega)) (by have := hHeld.2.out.size; omega) ?_
        intro g8 cap8 w8 own8 grow8
        have HO8 := Lib.hid own8
        have b8 : Below w6.heap.size w6 w8 := hHeld.2.out.grown grow8 hHeld.2.out.size (fun k e => by cases e; exact (OwnW.low HO7.out).1)
        refine hK.out _ _ ?_ (fun hNew => ?_)
        · exact ⟨⟨vcell_far b8 X6.out.lt X6.out.1.1, vcell_far b8 X6.out.lt X6.out.1.2.1, vcell_far b8 X6.out.lt X6.out.1.2.2.1, vcell_far b8 X6.out.lt X6.out.1.2.2.2.1, vcell_far b8 X6.out.lt X6.out.1.2.2.2.2⟩, Lib.hid b8⟩
        clear hK K hHeld
        have hHeld := hNew
        clear hNew
        try simp only [Act.put, List.setIfInBounds_toArray, List.set_cons_zero, List.set_cons_succ]
        refine wpAnyH_ready (rs := [6]) (by kernel_rfl) (by simp) ?_
        refine AllReadyH.cons rfl (fun K hK => ?_) (AllReadyH.nil)
        go_simp
        have RA := OwnW.rsa HO8.out (fun v hv => by rcases List.mem_append.1 hv with k | k; exact (RtsO.m6 HO6.out v k).below hHeld.2.out; (obtain rfl : v = ⟨fr, br, ar, cr, Pr, lr, dr, er, Mr⟩ := by simpa using k); exact (HV6.out.1.m (by have := HV6.out.2.1; show Pr.length ≤ 2000000; omega) (by have := HV6.out.2.2; show Mr.length ≤ 2000000; omega)).below hHeld.2.out)
        refine (ibest_is (L ++ [⟨fr, br, ar, cr, Pr, lr, dr, er, Mr⟩]) (some ⟨g8, 0, none⟩) cap8 _ _ p HBx.out (by simp) RA (HE.out.below (HB6.out.trans (hHeld.2.out.mono hw6))) (by simp; omega)).mono ?_
        rintro en wz ⟨rfl, bz⟩
        go_wp2_with fail
        refine hK.out _ _ ?_ (fun hNew => ?_)
        · exact ⟨⟨cell_later bz hHeld.1.1, cell_later bz hHeld.1.2.1, cell_later bz hHeld.1.2.2.1, cell_later bz hHeld.1.2.2.2.1, cell_later bz hHeld.1.2.2.2.2⟩, Lib.hid (next hHeld.2.out bz)⟩
        clear hK K hHeld
        have hHeld := hNew
        clear hNew
        try simp only [Act.put, List.setIfInBounds_toArray, List.set_cons_zero, List.set_cons_succ]
        refine takeH (i := 7) (v := ?_) rfl rfl (by kernel_rfl) (by kernel_rfl) (by kernel_rfl) (fun _ _ _ h => h) (by rfl) ?_ (by assumption) ?_
        rotate_left 1
        · intro w hSw
          (try dsimp only at hSw)
          go_simp
          try with_reducible rfl
        try simp only [List.setIfInBounds_toArray, List.set_cons_zero, List.set_cons_succ]
        refine wpAnyH_done (by kernel_rfl) ?_ _
        rotate_left
        go_simp
        refine hK.out _ _ ?_ (fun hNew => ?_)
        · exact ⟨⟨cellA hHeld.1.1 _, cellA hHeld.1.2.1 _, cellA hHeld.1.2.2.1 _, cellA hHeld.1.2.2.2.1 _, cellA hHeld.1.2.2.2.2 _⟩, Lib.hid (hHeld.2.out.alloc hHeld.2.out.size _)⟩
        clear hK K hHeld
        have hHeld := hNew
        clear hNew
        try simp only [Act.put, List.setIfInBounds_toArray, List.set_cons_zero, List.set_cons_succ]
        refine wpAnyH_ready (rs := [2]) (by kernel_rfl) (by simp) ?_
        refine AllReadyH.cons rfl (fun K hK => ?_) (AllReadyH.nil)
        refine wp_appV (.tmp 38) (.tmp 39) rfl w6.heap.size w6.heap.size 0 [] _ rfl (by simp [Act.eval]) (World.ownsRow.alloc (ownw_empty w6 w6.heap.size (Nat.le_refl _)) (.cells #[.int .i64 fr, .int .i64 br, .slice ar Pr.length cr, .int .i64 lr, .slice dr Mr.length er] 27)) g L.length cap L rfl (by simp [Act.eval]) (OwnW.cellsA ((HO6.out.alloc _).alloc _).1) (by first | omega | (simp; done) | (simp; omega)) (by first | omega | (simp; done) | (simp; omega)) ?_
        intro g7 cap7 w7 own7 grow7
        replace own7 : OwnW w7 w6.heap.size g7 cap7 L := own7
        have HO7 := Lib.hid own7
        have b7 : Below w6.heap.size w6 w7 := (hHeld.2.out.grown grow7 hHeld.2.out.size (fun k e => by cases e; omega))
        have NB := Lib.hid (show ∀ (j : Nat) u, (cells5 [(⟨fr, br, ar, cr, Pr, lr, dr, er, Mr⟩ : RV)])[j]? = some u → w7.cell? ⟨w6.heap.size + 1, j, none⟩ = some u from fun j u hu => grow7.cell (by have := (new5 (w6.alloc (.cells #[] 27)) ⟨fr, br, ar, cr, Pr, lr, dr, er, Mr⟩) j u hu; rw [World.size_alloc] at this; exact this) (by simp))
        refine hK.out _ _ ?_ (fun hNew => ?_)
        · exact ⟨⟨vcell_far b7 X6.out.lt X6.out.1.1, vcell_far b7 X6.out.lt X6.out.1.2.1, vcell_far b7 X6.out.lt X6.out.1.2.2.1, vcell_far b7 X6.out.lt X6.out.1.2.2.2.1, vcell_far b7 X6.out.lt X6.out.1.2.2.2.2⟩, Lib.hid b7⟩
        clear hK K hHeld
        have hHeld := hNew
        clear hNew
        try simp only [Act.put, List.setIfInBounds_toArray, List.set_cons_zero, List.set_cons_succ]
        refine wpAnyH_ready (rs := [5]) (by kernel_rfl) (by simp) ?_
        refine AllReadyH.cons rfl (fun K hK => ?_) (AllReadyH.nil)
        refine wp_appV (.tmp 40) (.tmp 42) rfl w6.heap.size g7 cap7 L _ rfl (by simp [Act.eval]) (HO7.out) (w6.heap.size + 1) 1 1 [⟨fr, br, ar, cr, Pr, lr, dr, er, Mr⟩] rfl (by simp [Act.eval]) NB.out (by first | omega | (simp; done) | (simp; omega)) (by have := hHeld.2.out.size; omega) ?_
        intro g8 cap8 w8 own8 grow8
        have HO8 := Lib.hid own8
        have b8 : Below w6.heap.size w6 w8 := hHeld.2.out.grown grow8 hHeld.2.out.size (fun k e => by cases e; exact (OwnW.low HO7.out).1)
        refine hK.out _ _ ?_ (fun hNew => ?_)
        · exact ⟨⟨vcell_far b8 X6.out.lt X6.out.1.1, vcell_far b8 X6.out.lt X6.out.1.2.1, vcell_far b8 X6.out.lt X6.out.1.2.2.1, vcell_far b8 X6.out.lt X6.out.1.2.2.2.1, vcell_far b8 X6.out.lt X6.out.1.2.2.2.2⟩, Lib.hid b8⟩
        clear hK K hHeld
        have hHeld := hNew
        clear hNew
        try simp only [Act.put, List.setIfInBounds_toArray, List.set_cons_zero, List.set_cons_succ]
        refine wpAnyH_ready (rs := [6]) (by kernel_rfl) (by simp) ?_
        refine AllReadyH.cons rfl (fun K hK => ?_) (AllReadyH.nil)
        go_simp
        have RA := OwnW.rsa HO8.out (fun v hv => by rcases List.mem_append.1 hv with k | k; exact (RtsO.m6 HO6.out v k).below hHeld.2.out; (obtain rfl : v = ⟨fr, br, ar, cr, Pr, lr, dr, er, Mr⟩ := by simpa using k); exact (HV6.out.1.m (by have := HV6.out.2.1; show Pr.length ≤ 2000000; omega) (by have := HV6.out.2.2; show Mr.length ≤ 2000000; omega)).below hHeld.2.out)
        refine (ibest_is (L ++ [⟨fr, br, ar, cr, Pr, lr, dr, er, Mr⟩]) (some ⟨g8, 0, none⟩) cap8 _ _ p HBx.out (by simp) RA (HE.out.below (HB6.out.trans (hHeld.2.out.mono hw6))) (by simp; omega)).mono ?_
        rintro en wz ⟨rfl, bz⟩
        go_wp2_with fail
        refine hK.out _ _ ?_ (fun hNew => ?_)
        · exact ⟨⟨cell_later bz hHeld.1.1, cell_later bz hHeld.1.2.1, cell_later bz hHeld.1.2.2.1, cell_later bz hHeld.1.2.2.2.1, cell_later bz hHeld.1.2.2.2.2⟩, Lib.hid (next hHeld.2.out bz)⟩
        clear hK K hHeld
        have hHeld := hNew
        clear hNew
        try simp only [Act.put, List.setIfInBounds_toArray, List.set_cons_zero, List.set_cons_succ]
        refine takeH (i := 7) (v := ?_) rfl rfl (by kernel_rfl) (by kernel_rfl) (by kernel_rfl) (fun _ _ _ h => h) (by rfl) ?_ (by assumption) ?_
        rotate_left 1
        · intro w hSw
          (try dsimp only at hSw)
          go_simp
          try with_reducible rfl
        try simp only [List.setIfInBounds_toArray, List.set_cons_zero, List.set_cons_succ]
        refine wpAnyH_done (by kernel_rfl) ?_ _
        rotate_left
        go_simp
        refine hK.out _ _ ?_ (fun hNew => ?_)
        · exact ⟨⟨cellA hHeld.1.1 _, cellA hHeld.1.2.1 _, cellA hHeld.1.2.2.1 _, cellA hHeld.1.2.2.2.1 _, cellA hHeld.1.2.2.2.2 _⟩, Lib.hid (hHeld.2.out.alloc hHeld.2.out.size _)⟩
        clear hK K hHeld
        have hHeld := hNew
        clear hNew
        try simp only [Act.put, List.setIfInBounds_toArray, List.set_cons_zero, List.set_cons_succ]
        refine wpAnyH_ready (rs := [0]) (by kernel_rfl) (by simp) ?_
        refine AllReadyH.cons rfl (fun K hK => ?_) (AllReadyH.nil)
        go_simp
        refine hK.out _ _ ?_ (fun hNew => ?_)
        · exact ⟨⟨cellA hHeld.1.1 _, cellA hHeld.1.2.1 _, cellA hHeld.1.2.2.1 _, cellA hHeld.1.2.2.2.1 _, cellA hHeld.1.2.2.2.2 _⟩, Lib.hid (hHeld.2.out.alloc hHeld.2.out.size _)⟩
        clear hK K hHeld
        have hHeld := hNew
        clear hNew
        try simp only [Act.put, List.setIfInBounds_toArray, List.set_cons_zero, List.set_cons_succ]
        refine wpAnyH_ready (rs := [2]) (by kernel_rfl) (by simp) ?_
        refine AllReadyH.cons rfl (fun K hK => ?_) (AllReadyH.nil)
        refine wp_appV (.tmp 38) (.tmp 39) rfl w6.heap.size (w6.heap.size + 1) 0 [] _ rfl (by simp [Act.eval]) (ownw_e1 w6 (.cells #[.int .i64 fr, .int .i64 br, .slice ar Pr.length cr, .int .i64 lr, .slice dr Mr.length er] 27)) g L.length cap L rfl (by simp [Act.eval]) (OwnW.cellsA ((HO6.out.alloc _).alloc _).1) (by first | omega | (simp; done) | (simp; omega)) (by first | omega | (simp; done) | (simp; omega)) ?_
        intro g7 cap7 w7 own7 grow7
        replace own7 : OwnW w7 w6.heap.size g7 cap7 L := own7
        have HO7 := Lib.hid own7
        have b7 : Below w6.heap.size w6 w7 := (hHeld.2.out.grown grow7 hHeld.2.out.size (fun k e => by cases e; omega))
        have NB := Lib.hid (show ∀ (j : Nat) u, (cells5 [(⟨fr, br, ar, cr, Pr, lr, dr, er, Mr⟩ : RV)])[j]? = some u → w7.cell? ⟨w6.heap.size, j, none⟩ = some u from fun j u hu => grow7.cell (by have := (fun (j : Nat) (u : Value) (hu : (cells5 [(⟨fr, br, ar, cr, Pr, lr, dr, er, Mr⟩ : RV)])[j]? = some u) => cellA (new5 w6 ⟨fr, br, ar, cr, Pr, lr, dr, er, Mr⟩ j u hu) (.cells #[] 27)) j u hu; exact this) (by simp))
        refine hK.out _ _ ?_ (fun hNew => ?_)
        · exact ⟨⟨vcell_far b7 X6.out.lt X6.out.1.1, vcell_far b7 X6.out.lt X6.out.1.2.1, vcell_far b7 X6.out.lt X6.out.1.2.2.1, vcell_far b7 X6.out.lt X6.out.1.2.2.2.1, vcell_far b7 X6.out.lt X6.out.1.2.2.2.2⟩, Lib.hid b7⟩
        clear hK K hHeld
        have hHeld := hNew
        clear hNew
        try simp only [Act.put, List.setIfInBounds_toArray, List.set_cons_zero, List.set_cons_succ]
        refine wpAnyH_ready (rs := [5]) (by kernel_rfl) (by simp) ?_
        refine AllReadyH.cons rfl (fun K hK => ?_) (AllReadyH.nil)
        refine wp_appV (.tmp 40) (.tmp 42) rfl w6.heap.size g7 cap7 L _ rfl (by simp [Act.eval]) (HO7.out) w6.heap.size 1 1 [⟨fr, br, ar, cr, Pr, lr, dr, er, Mr⟩] rfl (by simp [Act.eval]) NB.out (by first | omega | (simp; done) | (simp; omega)) (by have := hHeld.2.out.size; omega) ?_
        intro g8 cap8 w8 own8 grow8
        have HO8 := Lib.hid own8
        have b8 : Below w6.heap.size w6 w8 := hHeld.2.out.grown grow8 hHeld.2.out.size (fun k e => by cases e; exact (OwnW.low HO7.out).1)
        refine hK.out _ _ ?_ (fun hNew => ?_)
        · exact ⟨⟨vcell_far b8 X6.out.lt X6.out.1.1, vcell_far b8 X6.out.lt X6.out.1.2.1, vcell_far b8 X6.out.lt X6.out.1.2.2.1, vcell_far b8 X6.out.lt X6.out.1.2.2.2.1, vcell_far b8 X6.out.lt X6.out.1.2.2.2.2⟩, Lib.hid b8⟩
        clear hK K hHeld
        have hHeld := hNew
        clear hNew
        try simp only [Act.put, List.setIfInBounds_toArray, List.set_cons_zero, List.set_cons_succ]
        refine wpAnyH_ready (rs := [6]) (by kernel_rfl) (by simp) ?_
        refine AllReadyH.cons rfl (fun K hK => ?_) (AllReadyH.nil)
        go_simp
        have RA := OwnW.rsa HO8.out (fun v hv => by rcases List.mem_append.1 hv with k | k; exact (RtsO.m6 HO6.out v k).below hHeld.2.out; (obtain rfl : v = ⟨fr, br, ar, cr, Pr, lr, dr, er, Mr⟩ := by simpa using k); exact (HV6.out.1.m (by have := HV6.out.2.1; show Pr.length ≤ 2000000; omega) (by have := HV6.out.2.2; show Mr.length ≤ 2000000; omega)).below hHeld.2.out)
        refine (ibest_is (L ++ [⟨fr, br, ar, cr, Pr, lr, dr, er, Mr⟩]) (some ⟨g8, 0, none⟩) cap8 _ _ p HBx.out (by simp) RA (HE.out.below (HB6.out.trans (hHeld.2.out.mono hw6))) (by simp; omega)).mono ?_
        rintro en wz ⟨rfl, bz⟩
        go_wp2_with fail
        refine hK.out _ _ ?_ (fun hNew => ?_)
        · exact ⟨⟨cell_later bz hHeld.1.1, cell_later bz hHeld.1.2.1, cell_later bz hHeld.1.2.2.1, cell_later bz hHeld.1.2.2.2.1, cell_later bz hHeld.1.2.2.2.2⟩, Lib.hid (next hHeld.2.out bz)⟩
        clear hK K hHeld
        have hHeld := hNew
        clear hNew
        try simp only [Act.put, List.setIfInBounds_toArray, List.set_cons_zero, List.set_cons_succ]
        refine takeH (i := 7) (v := ?_) rfl rfl (by kernel_rfl) (by kernel_rfl) (by kernel_rfl) (fun _ _ _ h => h) (by rfl) ?_ (by assumption) ?_
        rotate_left 1
        · intro w hSw
          (try dsimp only at hSw)
          go_simp
          try with_reducible rfl
        try simp only [List.setIfInBounds_toArray, List.set_cons_zero, List.set_cons_succ]
        refine wpAnyH_done (by kernel_rfl) ?_ _
        rotate_left
      · have HB7 := Lib.hid (HB6.out.trans (hHeld.2.out.mono hw6))
        have X7 := Lib.hid (X6.out.below hHeld.2.out)
        have HO7b := Lib.hid (HO6.out.later hHeld.2.out)
        have HV7 : Hid (RtM wz ar cr Pr dr er Mr) := Lib.hid (RtM.below (HV6.out.1.m (by have := HV6.out.2.1; show Pr.length ≤ 2000000; omega) (by have := HV6.out.2.2; show Mr.length ≤ 2000000; omega)) hHeld.2.out)
        clear hHeld HO6 HB6 X6 HV6
        try clear HO8 b8 HO7 b7
        try clear NB
        try clear own7 grow7 own8 grow8 bz
        obtain ⟨b, off, eb, hq, hm2⟩ := HO7b.out.rsa.at HU.out
        obtain ⟨rfl, rfl⟩ : g = b ∧ 0 = off := by simpa using eb
        simp only [Nat.zero_add] at hq
        have HC := Lib.hid (And.intro X7.out.1 hq)
        have HM2 : Hid (RtM _ u.a u.c u.P u.d u.e u.M) := Lib.hid hm2
        clear eb hq hm2
        obtain ⟨c, hc⟩ : ∃ c, rtCmp (fr, br, Pr, lr, Mr) u.rt = c := ⟨_, rfl⟩
        have hc0 : rtCmp0 (fr, br, Pr, lr, Mr) u.rt = c := by rw [← rtCmp_yes HX.out (HK.out _ (List.mem_map.2 ⟨u, List.mem_of_getElem? HU.out, rfl⟩))]; exact hc
        have HCc : Hid (rtCmp (fr, br, Pr, lr, Mr) (u.f, u.b, u.P, u.l, u.M) = c) := Lib.hid hc
        have hxz := HXZ.out
        rw [hc0] at hxz
        clear hc hc0 HXZ
        by_cases hneg2 : c < 0
        · rw [if_pos hneg2] at hxz
          subst hxz
          go_wp2_with fail
          refine wp_region_held_drew (S := fun W => ((W.cell? ⟨w4.heap.size, 0, none⟩ = some (.int .i64 fr) ∧ W.cell? ⟨w4.heap.size, 1, none⟩ = some (.int .i64 br) ∧ W.cell? ⟨w4.heap.size, 2, none⟩ = some (.slice ar Pr.length cr) ∧ W.cell? ⟨w4.heap.size, 3, none⟩ = some (.int .i64 lr) ∧ W.cell? ⟨w4.heap.size, 4, none⟩ = some (.slice dr Mr.length er)) ∧ W.cell? ⟨g, t * 5, none⟩ = some (.int .i64 u.f) ∧ W.cell? ⟨g, t * 5 + 1, none⟩ = some (.int .i64 u.b) ∧ W.cell? ⟨g, t * 5 + 2, none⟩ = some (.slice u.a u.P.length u.c) ∧ W.cell? ⟨g, t * 5 + 3, none⟩ = some (.int .i64 u.l) ∧ W.cell? ⟨g, t * 5 + 4, none⟩ = some (.slice u.d u.M.length u.e)) ∧ Hid (Below w.heap.size w W ∧ RtM W ar cr Pr dr er Mr ∧ RtM W u.a u.c u.P u.d u.e u.M)) (by kernel_rfl) ?_ (fun hHeld => ?_)
          · exact ⟨HC.out, Lib.hid ⟨HB7.out.drew, HV7.out, HM2.out⟩⟩
          refine takeH (i := 0) (v := ?_) rfl rfl (by kernel_rfl) (by kernel_rfl) (by kernel_rfl) (fun _ _ _ h => h) (by rfl) ?_ (by assumption) ?_
          rotate_left 1
          · intro w hSw
            (try dsimp only at hSw)
            go_simp
            try with_reducible rfl
          try simp only [List.setIfInBounds_toArray, List.set_cons_zero, List.set_cons_succ]
          refine takeH (i := 1) (v := ?_) rfl rfl (by kernel_rfl) (by kernel_rfl) (by kernel_rfl) (fun _ _ _ h => h) (by rfl) ?_ (by assumption) ?_
          rotate_left 1
          · intro w hSw
            (try dsimp only at hSw)
            go_simp
            try with_reducible rfl
          try simp only [List.setIfInBounds_toArray, List.set_cons_zero, List.set_cons_succ]
          refine takeH (i := 2) (v := ?_) rfl rfl (by kernel_rfl) (by kernel_rfl) (by kernel_rfl) (fun _ _ _ h => h) (by rfl) ?_ (by assumption) ?_
          rotate_left 1
          · intro w hSw
            (try dsimp only at hSw)
            go_simp
            try with_reducible rfl
          try simp only [List.setIfInBounds_toArray, List.set_cons_zero, List.set_cons_succ]
          refine takeH (i := 3) (v := ?_) rfl rfl (by kernel_rfl) (by kernel_rfl) (by kernel_rfl) (fun _ _ _ h => h) (by rfl) ?_ (by assumption) ?_
          rotate_left 1
          · intro w hSw
            (try dsimp only at hSw)
            go_simp
            try with_reducible rfl
          try simp only [List.setIfInBounds_toArray, List.set_cons_zero, List.set_cons_succ]
          refine takeH (i := 4) (v := ?_) rfl rfl (by kernel_rfl) (by kernel_rfl) (by kernel_rfl) (fun _ _ _ h => h) (by rfl) ?_ (by assumption) ?_
          rotate_left 1
          · intro w hSw
            (try dsimp only at hSw)
            go_simp
            try with_reducible rfl
          try simp only [List.setIfInBounds_toArray, List.set_cons_zero, List.set_cons_succ]
          refine wpAnyH_ready (rs := [5]) (by kernel_rfl) (by simp) ?_
          refine AllReadyH.cons rfl (fun K hK => ?_) (AllReadyH.nil)
          go_simp
          refine (ircmp_is fr br ar cr Pr lr dr er Mr u.f u.b u.a u.c u.P u.l u.d u.e u.M HCc.out _ p hHeld.2.out.2.1 hHeld.2.out.2.2 (HE.out.below hHeld.2.out.1)).mono ?_
          rintro en wc ⟨rfl, bc⟩
          go_wp2_with fail
          refine hK.out _ _ ?_ (fun hNew => ?_)
          · exact ⟨⟨⟨cell_later bc hHeld.1.1.1, cell_later bc hHeld.1.1.2.1, cell_later bc hHeld.1.1.2.2.1, cell_later bc hHeld.1.1.2.2.2.1, cell_later bc hHeld.1.1.2.2.2.2⟩, cell_later bc hHeld.1.2.1, cell_later bc hHeld.1.2.2.1, cell_later bc hHeld.1.2.2.2.1, cell_later bc hHeld.1.2.2.2.2.1, cell_later bc hHeld.1.2.2.2.2.2⟩, Lib.hid ⟨next hHeld.2.out.1 bc, hHeld.2.out.2.1.below bc, hHeld.2.out.2.2.below bc⟩⟩
          clear hK K hHeld
          have hHeld := hNew
          clear hNew
          try simp only [Act.put, List.setIfInBounds_toArray, List.set_cons_zero, List.set_cons_succ]
          refine takeH (i := 6) (v := ?_) rfl rfl (by kernel_rfl) (by kernel_rfl) (by kernel_rfl) (fun _ _ _ h => h) (by rfl) ?_ (by assumption) ?_
          rotate_left 1
          · intro w hSw
            (try dsimp only at hSw)
            go_simp
            try with_reducible rfl
          try simp only [List.setIfInBounds_toArray, List.set_cons_zero, List.set_cons_succ]
          refine wpAnyH_done (by kernel_rfl) ?_ _
          have HB9 := Lib.hid hHeld.2.out.1
          clear hHeld HC
          go_wp2_with fail
          go_ret
          exact ⟨by simp, HB9.out⟩
        · rw [if_neg hneg2] at hxz
          subst hxz
          go_wp2_with fail
          refine wp_region_held_drew (S := fun W => ((W.cell? ⟨w4.heap.size, 0, none⟩ = some (.int .i64 fr) ∧ W.cell? ⟨w4.heap.size, 1, none⟩ = some (.int .i64 br) ∧ W.cell? ⟨w4.heap.size, 2, none⟩ = some (.slice ar Pr.length cr) ∧ W.cell? ⟨w4.heap.size, 3, none⟩ = some (.int .i64 lr) ∧ W.cell? ⟨w4.heap.size, 4, none⟩ = some (.slice dr Mr.length er)) ∧ W.cell? ⟨g, t * 5, none⟩ = some (.int .i64 u.f) ∧ W.cell? ⟨g, t * 5 + 1, none⟩ = some (.int .i64 u.b) ∧ W.cell? ⟨g, t * 5 + 2, none⟩ = some (.slice u.a u.P.length u.c) ∧ W.cell? ⟨g, t * 5 + 3, none⟩ = some (.int .i64 u.l) ∧ W.cell? ⟨g, t * 5 + 4, none⟩ = some (.slice u.d u.M.length u.e)) ∧ Hid (Below w.heap.size w W ∧ RtM W ar cr Pr dr er Mr ∧ RtM W u.a u.c u.P u.d u.e u.M)) (by kernel_rfl) ?_ (fun hHeld => ?_)
          · exact ⟨HC.out, Lib.hid ⟨HB7.out.drew, HV7.out, HM2.out⟩⟩
          refine takeH (i := 0) (v := ?_) rfl rfl (by kernel_rfl) (by kernel_rfl) (by kernel_rfl) (fun _ _ _ h => h) (by rfl) ?_ (by assumption) ?_
          rotate_left 1
          · intro w hSw
            (try dsimp only at hSw)
            go_simp
            try with_reducible rfl
          try simp only [List.setIfInBounds_toArray, List.set_cons_zero, List.set_cons_succ]
          refine takeH (i := 1) (v := ?_) rfl rfl (by kernel_rfl) (by kernel_rfl) (by kernel_rfl) (fun _ _ _ h => h) (by rfl) ?_ (by assumption) ?_
          rotate_left 1
          · intro w hSw
            (try dsimp only at hSw)
            go_simp
            try with_reducible rfl
          try simp only [List.setIfInBounds_toArray, List.set_cons_zero, List.set_cons_succ]
          refine takeH (i := 2) (v := ?_) rfl rfl (by kernel_rfl) (by kernel_rfl) (by kernel_rfl) (fun _ _ _ h => h) (by rfl) ?_ (by assumption) ?_
          rotate_left 1
          · intro w hSw
            (try dsimp only at hSw)
            go_simp
            try with_reducible rfl
          try simp only [List.setIfInBounds_toArray, List.set_cons_zero, List.set_cons_succ]
          refine takeH (i := 3) (v := ?_) rfl rfl (by kernel_rfl) (by kernel_rfl) (by kernel_rfl) (fun _ _ _ h => h) (by rfl) ?_ (by assumption) ?_
          rotate_left 1
          · intro w hSw
            (try dsimp only at hSw)
            go_simp
            try with_reducible rfl
          try simp only [List.setIfInBounds_toArray, List.set_cons_zero, List.set_cons_succ]
          refine takeH (i := 4) (v := ?_) rfl rfl (by kernel_rfl) (by kernel_rfl) (by kernel_rfl) (fun _ _ _ h => h) (by rfl) ?_ (by assumption) ?_
          rotate_left 1
          · intro w hSw
            (try dsimp only at hSw)
            go_simp
            try with_reducible rfl
          try simp only [List.setIfInBounds_toArray, List.set_cons_zero, List.set_cons_succ]
          refine wpAnyH_ready (rs := [5]) (by kernel_rfl) (by simp) ?_
          refine AllReadyH.cons rfl (fun K hK => ?_) (AllReadyH.nil)
          go_simp
          refine (ircmp_is fr br ar cr Pr lr dr er Mr u.f u.b u.a u.c u.P u.l u.d u.e u.M HCc.out _ p hHeld.2.out.2.1 hHeld.2.out.2.2 (HE.out.below hHeld.2.out.1)).mono ?_
          rintro en wc ⟨rfl, bc⟩
          go_wp2_with fail
          refine hK.out _ _ ?_ (fun hNew => ?_)
          · exact ⟨⟨⟨cell_later bc hHeld.1.1.1, cell_later bc hHeld.1.1.2.1, cell_later bc hHeld.1.1.2.2.1, cell_later bc hHeld.1.1.2.2.2.1, cell_later bc hHeld.1.1.2.2.2.2⟩, cell_later bc hHeld.1.2.1, cell_later bc hHeld.1.2.2.1, cell_later bc hHeld.1.2.2.2.1, cell_later bc hHeld.1.2.2.2.2.1, cell_later bc hHeld.1.2.2.2.2.2⟩, Lib.hid ⟨next hHeld.2.out.1 bc, hHeld.2.out.2.1.below bc, hHeld.2.out.2.2.below bc⟩⟩
          clear hK K hHeld
          have hHeld := hNew
          clear hNew
          try simp only [Act.put, List.setIfInBounds_toArray, List.set_cons_zero, List.set_cons_succ]
          refine takeH (i := 6) (v := ?_) rfl rfl (by kernel_rfl) (by kernel_rfl) (by kernel_rfl) (fun _ _ _ h => h) (by rfl) ?_ (by assumption) ?_
          rotate_left 1
          · intro w hSw
            (try dsimp only at hSw)
            go_simp
            try with_reducible rfl
          try simp only [List.setIfInBounds_toArray, List.set_cons_zero, List.set_cons_succ]
          refine wpAnyH_done (by kernel_rfl) ?_ _
          have HB9 := Lib.hid hHeld.2.out.1
          clear hHeld HC
          go_wp2_with fail
          go_ret
          exact ⟨by simp, HB9.out⟩
      · have HB7 := Lib.hid (HB6.out.trans (hHeld.2.out.mono hw6))
        have X7 := Lib.hid (X6.out.below hHeld.2.out)
        have HO7b := Lib.hid (HO6.out.later hHeld.2.out)
        have HV7 : Hid (RtM wz ar cr Pr dr er Mr) := Lib.hid (RtM.below (HV6.out.1.m (by have := HV6.out.2.1; show Pr.length ≤ 2000000; omega) (by have := HV6.out.2.2; show Mr.length ≤ 2000000; omega)) hHeld.2.out)
        clear hHeld HO6 HB6 X6 HV6
        try clear HO8 b8 HO7 b7
        try clear NB
        try clear own7 grow7 own8 grow8 bz
        obtain ⟨b, off, eb, hq, hm2⟩ := HO7b.out.rsa.at HU.out
        obtain ⟨rfl, rfl⟩ : g = b ∧ 0 = off := by simpa using eb
        simp only [Nat.zero_add] at hq
        have HC := Lib.hid (And.intro X7.out.1 hq)
        have HM2 : Hid (RtM _ u.a u.c u.P u.d u.e u.M) := Lib.hid hm2
        clear eb hq hm2
        obtain ⟨c, hc⟩ : ∃ c, rtCmp (fr, br, Pr, lr, Mr) u.rt = c := ⟨_, rfl⟩
        have hc0 : rtCmp0 (fr, br, Pr, lr, Mr) u.rt = c := by rw [← rtCmp_yes HX.out (HK.out _ (List.mem_map.2 ⟨u, List.mem_of_getElem? HU.out, rfl⟩))]; exact hc
        have HCc : Hid (rtCmp (fr, br, Pr, lr, Mr) (u.f, u.b, u.P, u.l, u.M) = c) := Lib.hid hc
        have hxz := HXZ.out
        rw [hc0] at hxz
        clear hc hc0 HXZ
        by_cases hneg2 : c < 0
        · rw [if_pos hneg2] at hxz
          subst hxz
          go_wp2_with fail
          refine wp_region_held_drew (S := fun W => ((W.cell? ⟨w4.heap.size, 0, none⟩ = some (.int .i64 fr) ∧ W.cell? ⟨w4.heap.size, 1, none⟩ = some (.int .i64 br) ∧ W.cell? ⟨w4.heap.size, 2, none⟩ = some (.slice ar Pr.length cr) ∧ W.cell? ⟨w4.heap.size, 3, none⟩ = some (.int .i64 lr) ∧ W.cell? ⟨w4.heap.size, 4, none⟩ = some (.slice dr Mr.length er)) ∧ W.cell? ⟨g, t * 5, none⟩ = some (.int .i64 u.f) ∧ W.cell? ⟨g, t * 5 + 1, none⟩ = some (.int .i64 u.b) ∧ W.cell? ⟨g, t * 5 + 2, none⟩ = some (.slice u.a u.P.length u.c) ∧ W.cell? ⟨g, t * 5 + 3, none⟩ = some (.int .i64 u.l) ∧ W.cell? ⟨g, t * 5 + 4, none⟩ = some (.slice u.d u.M.length u.e)) ∧ Hid (Below w.heap.size w W ∧ RtM W ar cr Pr dr er Mr ∧ RtM W u.a u.c u.P u.d u.e u.M)) (by kernel_rfl) ?_ (fun hHeld => ?_)
          · exact ⟨HC.out, Lib.hid ⟨HB7.out.drew, HV7.out, HM2.out⟩⟩
          refine takeH (i := 0) (v := ?_) rfl rfl (by kernel_rfl) (by kernel_rfl) (by kernel_rfl) (fun _ _ _ h => h) (by rfl) ?_ (by assumption) ?_
          rotate_left 1
          · intro w hSw
            (try dsimp only at hSw)
            go_simp
            try with_reducible rfl
          try simp only [List.setIfInBounds_toArray, List.set_cons_zero, List.set_cons_succ]
          refine takeH (i := 1) (v := ?_) rfl rfl (by kernel_rfl) (by kernel_rfl) (by kernel_rfl) (fun _ _ _ h => h) (by rfl) ?_ (by assumption) ?_
          rotate_left 1
          · intro w hSw
            (try dsimp only at hSw)
            go_simp
            try with_reducible rfl
          try simp only [List.setIfInBounds_toArray, List.set_cons_zero, List.set_cons_succ]
          refine takeH (i := 2) (v := ?_) rfl rfl (by kernel_rfl) (by kernel_rfl) (by kernel_rfl) (fun _ _ _ h => h) (by rfl) ?_ (by assumption) ?_
          rotate_left 1
          · intro w hSw
            (try dsimp only at hSw)
            go_simp
            try with_reducible rfl
          try simp only [List.setIfInBounds_toArray, List.set_cons_zero, List.set_cons_succ]
          refine takeH (i := 3) (v := ?_) rfl rfl (by kernel_rfl) (by kernel_rfl) (by kernel_rfl) (fun _ _ _ h => h) (by rfl) ?_ (by assumption) ?_
          rotate_left 1
          · intro w hSw
            (try dsimp only at hSw)
            go_simp
            try with_reducible rfl
          try simp only [List.setIfInBounds_toArray, List.set_cons_zero, List.set_cons_succ]
          refine takeH (i := 4) (v := ?_) rfl rfl (by kernel_rfl) (by kernel_rfl) (by kernel_rfl) (fun _ _ _ h => h) (by rfl) ?_ (by assumption) ?_
          rotate_left 1
          · intro w hSw
            (try dsimp only at hSw)
            go_simp
            try with_reducible rfl
          try simp only [List.setIfInBounds_toArray, List.set_cons_zero, List.set_cons_succ]
          refine wpAnyH_ready (rs := [5]) (by kernel_rfl) (by simp) ?_
          refine AllReadyH.cons rfl (fun K hK => ?_) (AllReadyH.nil)
          go_simp
          refine (ircmp_is fr br ar cr Pr lr dr er Mr u.f u.b u.a u.c u.P u.l u.d u.e u.M HCc.out _ p hHeld.2.out.2.1 hHeld.2.out.2.2 (HE.out.below hHeld.2.out.1)).mono ?_
          rintro en wc ⟨rfl, bc⟩
          go_wp2_with fail
          refine hK.out _ _ ?_ (fun hNew => ?_)
          · exact ⟨⟨⟨cell_later bc hHeld.1.1.1, cell_later bc hHeld.1.1.2.1, cell_later bc hHeld.1.1.2.2.1, cell_later bc hHeld.1.1.2.2.2.1, cell_later bc hHeld.1.1.2.2.2.2⟩, cell_later bc hHeld.1.2.1, cell_later bc hHeld.1.2.2.1, cell_later bc hHeld.1.2.2.2.1, cell_later bc hHeld.1.2.2.2.2.1, cell_later bc hHeld.1.2.2.2.2.2⟩, Lib.hid ⟨next hHeld.2.out.1 bc, hHeld.2.out.2.1.below bc, hHeld.2.out.2.2.below bc⟩⟩
          clear hK K hHeld
          have hHeld := hNew
          clear hNew
          try simp only [Act.put, List.setIfInBounds_toArray, List.set_cons_zero, List.set_cons_succ]
          refine takeH (i := 6) (v := ?_) rfl rfl (by kernel_rfl) (by kernel_rfl) (by kernel_rfl) (fun _ _ _ h => h) (by rfl) ?_ (by assumption) ?_
          rotate_left 1
          · intro w hSw
            (try dsimp only at hSw)
            go_simp
            try with_reducible rfl
          try simp only [List.setIfInBounds_toArray, List.set_cons_zero, List.set_cons_succ]
          refine wpAnyH_done (by kernel_rfl) ?_ _
          have HB9 := Lib.hid hHeld.2.out.1
          clear hHeld HC
          go_wp2_with fail
          go_ret
          exact ⟨by simp, HB9.out⟩
        · rw [if_neg hneg2] at hxz
          subst hxz
          go_wp2_with fail
          refine wp_region_held_drew (S := fun W => ((W.cell? ⟨w4.heap.size, 0, none⟩ = some (.int .i64 fr) ∧ W.cell? ⟨w4.heap.size, 1, none⟩ = some (.int .i64 br) ∧ W.cell? ⟨w4.heap.size, 2, none⟩ = some (.slice ar Pr.length cr) ∧ W.cell? ⟨w4.heap.size, 3, none⟩ = some (.int .i64 lr) ∧ W.cell? ⟨w4.heap.size, 4, none⟩ = some (.slice dr Mr.length er)) ∧ W.cell? ⟨g, t * 5, none⟩ = some (.int .i64 u.f) ∧ W.cell? ⟨g, t * 5 + 1, none⟩ = some (.int .i64 u.b) ∧ W.cell? ⟨g, t * 5 + 2, none⟩ = some (.slice u.a u.P.length u.c) ∧ W.cell? ⟨g, t * 5 + 3, none⟩ = some (.int .i64 u.l) ∧ W.cell? ⟨g, t * 5 + 4, none⟩ = some (.slice u.d u.M.length u.e)) ∧ Hid (Below w.heap.size w W ∧ RtM W ar cr Pr dr er Mr ∧ RtM W u.a u.c u.P u.d u.e u.M)) (by kernel_rfl) ?_ (fun hHeld => ?_)
          · exact ⟨HC.out, Lib.hid ⟨HB7.out.drew, HV7.out, HM2.out⟩⟩
          refine takeH (i := 0) (v := ?_) rfl rfl (by kernel_rfl) (by kernel_rfl) (by kernel_rfl) (fun _ _ _ h => h) (by rfl) ?_ (by assumption) ?_
          rotate_left 1
          · intro w hSw
            (try dsimp only at hSw)
            go_simp
            try with_reducible rfl
          try simp only [List.setIfInBounds_toArray, List.set_cons_zero, List.set_cons_succ]
          refine takeH (i := 1) (v := ?_) rfl rfl (by kernel_rfl) (by kernel_rfl) (by kernel_rfl) (fun _ _ _ h => h) (by rfl) ?_ (by assumption) ?_
          rotate_left 1
          · intro w hSw
            (try dsimp only at hSw)
            go_simp
            try with_reducible rfl
          try simp only [List.setIfInBounds_toArray, List.set_cons_zero, List.set_cons_succ]
          refine takeH (i := 2) (v := ?_) rfl rfl (by kernel_rfl) (by kernel_rfl) (by kernel_rfl) (fun _ _ _ h => h) (by rfl) ?_ (by assumption) ?_
          rotate_left 1
          · intro w hSw
            (try dsimp only at hSw)
            go_simp
            try with_reducible rfl
          try simp only [List.setIfInBounds_toArray, List.set_cons_zero, List.set_cons_succ]
          refine takeH (i := 3) (v := ?_) rfl rfl (by kernel_rfl) (by kernel_rfl) (by kernel_rfl) (fun _ _ _ h => h) (by rfl) ?_ (by assumption) ?_
          rotate_left 1
          · intro w hSw
            (try dsimp only at hSw)
            go_simp
            try with_reducible rfl
          try simp only [List.setIfInBounds_toArray, List.set_cons_zero, List.set_cons_succ]
          refine takeH (i := 4) (v := ?_) rfl rfl (by kernel_rfl) (by kernel_rfl) (by kernel_rfl) (fun _ _ _ h => h) (by rfl) ?_ (by assumption) ?_
          rotate_left 1
          · intro w hSw
            (try dsimp only at hSw)
            go_simp
            try with_reducible rfl
          try simp only [List.setIfInBounds_toArray, List.set_cons_zero, List.set_cons_succ]
          refine wpAnyH_ready (rs := [5]) (by kernel_rfl) (by simp) ?_
          refine AllReadyH.cons rfl (fun K hK => ?_) (AllReadyH.nil)
          go_simp
          refine (ircmp_is fr br ar cr Pr lr dr er Mr u.f u.b u.a u.c u.P u.l u.d u.e u.M HCc.out _ p hHeld.2.out.2.1 hHeld.2.out.2.2 (HE.out.below hHeld.2.out.1)).mono ?_
          rintro en wc ⟨rfl, bc⟩
          go_wp2_with fail
          refine hK.out _ _ ?_ (fun hNew => ?_)
          · exact ⟨⟨⟨cell_later bc hHeld.1.1.1, cell_later bc hHeld.1.1.2.1, cell_later bc hHeld.1.1.2.2.1, cell_later bc hHeld.1.1.2.2.2.1, cell_later bc hHeld.1.1.2.2.2.2⟩, cell_later bc hHeld.1.2.1, cell_later bc hHeld.1.2.2.1, cell_later bc hHeld.1.2.2.2.1, cell_later bc hHeld.1.2.2.2.2.1, cell_later bc hHeld.1.2.2.2.2.2⟩, Lib.hid ⟨next hHeld.2.out.1 bc, hHeld.2.out.2.1.below bc, hHeld.2.out.2.2.below bc⟩⟩
          clear hK K hHeld
          have hHeld := hNew
          clear hNew
          try simp only [Act.put, List.setIfInBounds_toArray, List.set_cons_zero, List.set_cons_succ]
          refine takeH (i := 6) (v := ?_) rfl rfl (by kernel_rfl) (by kernel_rfl) (by kernel_rfl) (fun _ _ _ h => h) (by rfl) ?_ (by assumption) ?_
          rotate_left 1
          · intro w hSw
            (try dsimp only at hSw)
            go_simp
            try with_reducible rfl
          try simp only [List.setIfInBounds_toArray, List.set_cons_zero, List.set_cons_succ]
          refine wpAnyH_done (by kernel_rfl) ?_ _
          have HB9 := Lib.hid hHeld.2.out.1
          clear hHeld HC
          go_wp2_with fail
          go_ret
          exact ⟨by simp, HB9.out⟩
      · have HB7 := Lib.hid (HB6.out.trans (hHeld.2.out.mono hw6))
        have X7 := Lib.hid (X6.out.below hHeld.2.out)
        have HO7b := Lib.hid (HO6.out.later hHeld.2.out)
        have HV7 : Hid (RtM wz ar cr Pr dr er Mr) := Lib.hid (RtM.below (HV6.out.1.m (by have := HV6.out.2.1; show Pr.length ≤ 2000000; omega) (by have := HV6.out.2.2; show Mr.length ≤ 2000000; omega)) hHeld.2.out)
        clear hHeld HO6 HB6 X6 HV6
        try clear HO8 b8 HO7 b7
        try clear NB
        try clear own7 grow7 own8 grow8 bz
        obtain ⟨b, off, eb, hq, hm2⟩ := HO7b.out.rsa.at HU.out
        obtain ⟨rfl, rfl⟩ : g = b ∧ 0 = off := by simpa using eb
        simp only [Nat.zero_add] at hq
        have HC := Lib.hid (And.intro X7.out.1 hq)
        have HM2 : Hid (RtM _ u.a u.c u.P u.d u.e u.M) := Lib.hid hm2
        clear eb hq hm2
        obtain ⟨c, hc⟩ : ∃ c, rtCmp (fr, br, Pr, lr, Mr) u.rt = c := ⟨_, rfl⟩
        have hc0 : rtCmp0 (fr, br, Pr, lr, Mr) u.rt = c := by rw [← rtCmp_yes HX.out (HK.out _ (List.mem_map.2 ⟨u, List.mem_of_getElem? HU.out, rfl⟩))]; exact hc
        have HCc : Hid (rtCmp (fr, br, Pr, lr, Mr) (u.f, u.b, u.P, u.l, u.M) = c) := Lib.hid hc
        have hxz := HXZ.out
        rw [hc0] at hxz
        clear hc hc0 HXZ
        by_cases hneg2 : c < 0
        · rw [if_pos hneg2] at hxz
          subst hxz
          go_wp2_with fail
          refine wp_region_held_drew (S := fun W => ((W.cell? ⟨w4.heap.size, 0, none⟩ = some (.int .i64 fr) ∧ W.cell? ⟨w4.heap.size, 1, none⟩ = some (.int .i64 br) ∧ W.cell? ⟨w4.heap.size, 2, none⟩ = some (.slice ar Pr.length cr) ∧ W.cell? ⟨w4.heap.size, 3, none⟩ = some (.int .i64 lr) ∧ W.cell? ⟨w4.heap.size, 4, none⟩ = some (.slice dr Mr.length er)) ∧ W.cell? ⟨g, t * 5, none⟩ = some (.int .i64 u.f) ∧ W.cell? ⟨g, t * 5 + 1, none⟩ = some (.int .i64 u.b) ∧ W.cell? ⟨g, t * 5 + 2, none⟩ = some (.slice u.a u.P.length u.c) ∧ W.cell? ⟨g, t * 5 + 3, none⟩ = some (.int .i64 u.l) ∧ W.cell? ⟨g, t * 5 + 4, none⟩ = some (.slice u.d u.M.length u.e)) ∧ Hid (Below w.heap.size w W ∧ RtM W ar cr Pr dr er Mr ∧ RtM W u.a u.c u.P u.d u.e u.M)) (by kernel_rfl) ?_ (fun hHeld => ?_)
          · exact ⟨HC.out, Lib.hid ⟨HB7.out.drew, HV7.out, HM2.out⟩⟩
          refine takeH (i := 0) (v := ?_) rfl rfl (by kernel_rfl) (by kernel_rfl) (by kernel_rfl) (fun _ _ _ h => h) (by rfl) ?_ (by assumption) ?_
          rotate_left 1
          · intro w hSw
            (try dsimp only at hSw)
            go_simp
            try with_reducible rfl
          try simp only [List.setIfInBounds_toArray, List.set_cons_zero, List.set_cons_succ]
          refine takeH (i := 1) (v := ?_) rfl rfl (by kernel_rfl) (by kernel_rfl) (by kernel_rfl) (fun _ _ _ h => h) (by rfl) ?_ (by assumption) ?_
          rotate_left 1
          · intro w hSw
            (try dsimp only at hSw)
            go_simp
            try with_reducible rfl
          try simp only [List.setIfInBounds_toArray, List.set_cons_zero, List.set_cons_succ]
          refine takeH (i := 2) (v := ?_) rfl rfl (by kernel_rfl) (by kernel_rfl) (by kernel_rfl) (fun _ _ _ h => h) (by rfl) ?_ (by assumption) ?_
          rotate_left 1
          · intro w hSw
            (try dsimp only at hSw)
            go_simp
            try with_reducible rfl
          try simp only [List.setIfInBounds_toArray, List.set_cons_zero, List.set_cons_succ]
          refine takeH (i := 3) (v := ?_) rfl rfl (by kernel_rfl) (by kernel_rfl) (by kernel_rfl) (fun _ _ _ h => h) (by rfl) ?_ (by assumption) ?_
          rotate_left 1
          · intro w hSw
            (try dsimp only at hSw)
            go_simp
            try with_reducible rfl
          try simp only [List.setIfInBounds_toArray, List.set_cons_zero, List.set_cons_succ]
          refine takeH (i := 4) (v := ?_) rfl rfl (by kernel_rfl) (by kernel_rfl) (by kernel_rfl) (fun _ _ _ h => h) (by rfl) ?_ (by assumption) ?_
          rotate_left 1
          · intro w hSw
            (try dsimp only at hSw)
            go_simp
            try with_reducible rfl
          try simp only [List.setIfInBounds_toArray, List.set_cons_zero, List.set_cons_succ]
          refine wpAnyH_ready (rs := [5]) (by kernel_rfl) (by simp) ?_
          refine AllReadyH.cons rfl (fun K hK => ?_) (AllReadyH.nil)
          go_simp
          refine (ircmp_is fr br ar cr Pr lr dr er Mr u.f u.b u.a u.c u.P u.l u.d u.e u.M HCc.out _ p hHeld.2.out.2.1 hHeld.2.out.2.2 (HE.out.below hHeld.2.out.1)).mono ?_
          rintro en wc ⟨rfl, bc⟩
          go_wp2_with fail
          refine hK.out _ _ ?_ (fun hNew => ?_)
          · exact ⟨⟨⟨cell_later bc hHeld.1.1.1, cell_later bc hHeld.1.1.2.1, cell_later bc hHeld.1.1.2.2.1, cell_later bc hHeld.1.1.2.2.2.1, cell_later bc hHeld.1.1.2.2.2.2⟩, cell_later bc hHeld.1.2.1, cell_later bc hHeld.1.2.2.1, cell_later bc hHeld.1.2.2.2.1, cell_later bc hHeld.1.2.2.2.2.1, cell_later bc hHeld.1.2.2.2.2.2⟩, Lib.hid ⟨next hHeld.2.out.1 bc, hHeld.2.out.2.1.below bc, hHeld.2.out.2.2.below bc⟩⟩
          clear hK K hHeld
          have hHeld := hNew
          clear hNew
          try simp only [Act.put, List.setIfInBounds_toArray, List.set_cons_zero, List.set_cons_succ]
          refine takeH (i := 6) (v := ?_) rfl rfl (by kernel_rfl) (by kernel_rfl) (by kernel_rfl) (fun _ _ _ h => h) (by rfl) ?_ (by assumption) ?_
          rotate_left 1
          · intro w hSw
            (try dsimp only at hSw)
            go_simp
            try with_reducible rfl
          try simp only [List.setIfInBounds_toArray, List.set_cons_zero, List.set_cons_succ]
          refine wpAnyH_done (by kernel_rfl) ?_ _
          have HB9 := Lib.hid hHeld.2.out.1
          clear hHeld HC
          go_wp2_with fail
          go_ret
          exact ⟨by simp, HB9.out⟩
        · rw [if_neg hneg2] at hxz
          subst hxz
          go_wp2_with fail
          refine wp_region_held_drew (S := fun W => ((W.cell? ⟨w4.heap.size, 0, none⟩ = some (.int .i64 fr) ∧ W.cell? ⟨w4.heap.size, 1, none⟩ = some (.int .i64 br) ∧ W.cell? ⟨w4.heap.size, 2, none⟩ = some (.slice ar Pr.length cr) ∧ W.cell? ⟨w4.heap.size, 3, none⟩ = some (.int .i64 lr) ∧ W.cell? ⟨w4.heap.size, 4, none⟩ = some (.slice dr Mr.length er)) ∧ W.cell? ⟨g, t * 5, none⟩ = some (.int .i64 u.f) ∧ W.cell? ⟨g, t * 5 + 1, none⟩ = some (.int .i64 u.b) ∧ W.cell? ⟨g, t * 5 + 2, none⟩ = some (.slice u.a u.P.length u.c) ∧ W.cell? ⟨g, t * 5 + 3, none⟩ = some (.int .i64 u.l) ∧ W.cell? ⟨g, t * 5 + 4, none⟩ = some (.slice u.d u.M.length u.e)) ∧ Hid (Below w.heap.size w W ∧ RtM W ar cr Pr dr er Mr ∧ RtM W u.a u.c u.P u.d u.e u.M)) (by kernel_rfl) ?_ (fun hHeld => ?_)
          · exact ⟨HC.out, Lib.hid ⟨HB7.out.drew, HV7.out, HM2.out⟩⟩
          refine takeH (i := 0) (v := ?_) rfl rfl (by kernel_rfl) (by kernel_rfl) (by kernel_rfl) (fun _ _ _ h => h) (by rfl) ?_ (by assumption) ?_
          rotate_left 1
          · intro w hSw
            (try dsimp only at hSw)
            go_simp
            try with_reducible rfl
          try simp only [List.setIfInBounds_toArray, List.set_cons_zero, List.set_cons_succ]
          refine takeH (i := 1) (v := ?_) rfl rfl (by kernel_rfl) (by kernel_rfl) (by kernel_rfl) (fun _ _ _ h => h) (by rfl) ?_ (by assumption) ?_
          rotate_left 1
          · intro w hSw
            (try dsimp only at hSw)
            go_simp
            try with_reducible rfl
          try simp only [List.setIfInBounds_toArray, List.set_cons_zero, List.set_cons_succ]
          refine takeH (i := 2) (v := ?_) rfl rfl (by kernel_rfl) (by kernel_rfl) (by kernel_rfl) (fun _ _ _ h => h) (by rfl) ?_ (by assumption) ?_
          rotate_left 1
          · intro w hSw
            (try dsimp only at hSw)
            go_simp
            try with_reducible rfl
          try simp only [List.setIfInBounds_toArray, List.set_cons_zero, List.set_cons_succ]
          refine takeH (i := 3) (v := ?_) rfl rfl (by kernel_rfl) (by kernel_rfl) (by kernel_rfl) (fun _ _ _ h => h) (by rfl) ?_ (by assumption) ?_
          rotate_left 1
          · intro w hSw
            (try dsimp only at hSw)
            go_simp
            try with_reducible rfl
          try simp only [List.setIfInBounds_toArray, List.set_cons_zero, List.set_cons_succ]
          refine takeH (i := 4) (v := ?_) rfl rfl (by kernel_rfl) (by kernel_rfl) (by kernel_rfl) (fun _ _ _ h => h) (by rfl) ?_ (by assumption) ?_
          rotate_left 1
          · intro w hSw
            (try dsimp only at hSw)
            go_simp
            try with_reducible rfl
          try simp only [List.setIfInBounds_toArray, List.set_cons_zero, List.set_cons_succ]
          refine wpAnyH_ready (rs := [5]) (by kernel_rfl) (by simp) ?_
          refine AllReadyH.cons rfl (fun K hK => ?_) (AllReadyH.nil)
          go_simp
          refine (ircmp_is fr br ar cr Pr lr dr er Mr u.f u.b u.a u.c u.P u.l u.d u.e u.M HCc.out _ p hHeld.2.out.2.1 hHeld.2.out.2.2 (HE.out.below hHeld.2.out.1)).mono ?_
          rintro en wc ⟨rfl, bc⟩
          go_wp2_with fail
          refine hK.out _ _ ?_ (fun hNew => ?_)
          · exact ⟨⟨⟨cell_later bc hHeld.1.1.1, cell_later bc hHeld.1.1.2.1, cell_later bc hHeld.1.1.2.2.1, cell_later bc hHeld.1.1.2.2.2.1, cell_later bc hHeld.1.1.2.2.2.2⟩, cell_later bc hHeld.1.2.1, cell_later bc hHeld.1.2.2.1, cell_later bc hHeld.1.2.2.2.1, cell_later bc hHeld.1.2.2.2.2.1, cell_later bc hHeld.1.2.2.2.2.2⟩, Lib.hid ⟨next hHeld.2.out.1 bc, hHeld.2.out.2.1.below bc, hHeld.2.out.2.2.below bc⟩⟩
          clear hK K hHeld
          have hHeld := hNew
          clear hNew
          try simp only [Act.put, List.setIfInBounds_toArray, List.set_cons_zero, List.set_cons_succ]
          refine takeH (i := 6) (v := ?_) rfl rfl (by kernel_rfl) (by kernel_rfl) (by kernel_rfl) (fun _ _ _ h => h) (by rfl) ?_ (by assumption) ?_
          rotate_left 1
          · intro w hSw
            (try dsimp only at hSw)
            go_simp
            try with_reducible rfl
          try simp only [List.setIfInBounds_toArray, List.set_cons_zero, List.set_cons_succ]
          refine wpAnyH_done (by kernel_rfl) ?_ _
          have HB9 := Lib.hid hHeld.2.out.1
          clear hHeld HC
          go_wp2_with fail
          go_ret
          exact ⟨by simp, HB9.out⟩
end Go.Proofs.YtfjfcdifnfffbaaDoor
