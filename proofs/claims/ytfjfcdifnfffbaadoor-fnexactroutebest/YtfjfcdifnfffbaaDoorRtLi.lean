/-
  The law that the best route is the best of all, and the first of its like: the walk.
-/
import Derived.Test.YtfjfcdifnfffbaaDoorRtVr
import Derived.Test.YtfjfcdifnfffbaaDoorRtHw
import Derived.Test.YtfjfcdifnfffbaaDoorRtCmp
namespace Go.Proofs.YtfjfcdifnfffbaaDoor
open Go.RowKit
set_option linter.unusedSimpArgs false
set_option linter.unusedVariables false

theorem bestu_ex (l : List Rt) : ∀ n, 0 < n → n ≤ l.length → ∃ k, BestU l n k
  | 0, h, _ => by omega
  | 1, _, h => ⟨0, BestU.one (List.getElem?_eq_getElem (by omega))⟩
  | n + 2, _, h => by
    obtain ⟨k, hk⟩ := bestu_ex l (n + 1) (by omega) (by omega)
    obtain ⟨r, hr, _⟩ := id hk
    have hx : l[n + 1]? = some l[n + 1] := List.getElem?_eq_getElem (by omega)
    by_cases hc : rtCmp0 l[n + 1] r = -1
    · exact ⟨n + 1, hk.turn hr hx hc⟩
    · exact ⟨k, hk.stay hr hx hc⟩
theorem best_ex (l : List Rt) : ∃ z, BestIs l z := by
  by_cases h : l ≠ [] ∧ ∀ r ∈ l, rtOk r = true
  · obtain ⟨k, hk⟩ := bestu_ex l l.length (List.length_pos_iff.2 h.1) (Nat.le_refl _)
    exact ⟨k, .inl ⟨h.1, h.2, k, rfl, hk.all⟩⟩
  · refine ⟨-1, .inr ⟨?_, rfl⟩⟩
    by_cases e : l = []
    · exact .inl e
    · refine .inr ?_
      apply Classical.byContradiction
      intro hc
      exact h ⟨e, fun r hr => by
        cases c : rtOk r with
        | true => rfl
        | false => exact (hc ⟨r, hr, c⟩).elim⟩
/-- the best one of a list that has one -/
theorem best_pos {l : List Rt} {z : Int} (h : BestIs l z) (hz : ¬ z < 0) : ∃ t : Nat, z = (t : Int) ∧ IsBest l t ∧ t < l.length ∧ ∀ r ∈ l, rtOk r = true := by
  rcases h with ⟨_, h2, k, rfl, h3⟩ | ⟨_, rfl⟩
  · refine ⟨k, rfl, h3, ?_, h2⟩
    obtain ⟨r, hr, _⟩ := h3
    exact (List.getElem?_eq_some_iff.1 hr).1
  · omega

set_option maxRecDepth 100000 in
set_option maxHeartbeats 4000000 in
theorem lawBest (a0 : Option Addr) (len0 cap0 : Nat) (zs0 : List Int) (w : World) (h0 : IsRow w a0 len0 cap0 zs0) (p : Addr) (hE : EV w p) (_ : True) :
    Calls Tryd.prog 7 #[.slice a0 len0 cap0] w fun e w' => e = .returned (.bool true) ∧ Below w.heap.size w w' := by
  have H0 := Lib.hid h0
  have HE := Lib.hid hE
  clear h0 hE
  by_cases hl0 : (1048576 : Int) < (len0 : Int)
  · go_enter Tryd.func7, Tryd.ntmps7
    go_wp2_with fail
    go_ret
    exact ⟨rfl, Below.refl _ _⟩
  go_enter Tryd.func7, Tryd.ntmps7
  go_wp2_with fail
  refine (dBest_any a0 len0 cap0 zs0 _ H0.out).mono ?_
  rintro en w1 ⟨L, g, cap, rfl, hl, hO, b1⟩
  have HA := Lib.hid hO.rsa
  have HB := Lib.hid b1
  clear hO b1
  generalize (⟨g, 0, none⟩ : Addr) = ga at *
  obtain ⟨z, hz⟩ := best_ex (L.map RV.rt)
  have HZ := Lib.hid hz
  have z1 : (z != z) = false := by simp
  have z2 : (z == z) = true := by simp
  clear hz
  go_wp2_with fail
  refine (ibest_is L (some ga) cap _ _ p HZ.out rfl HA.out (HE.out.below HB.out) (by omega)).mono ?_
  rintro en w2 ⟨rfl, b2⟩
  have HA2 := Lib.hid (HA.out.below b2)
  have HB2 := Lib.hid (next HB.out b2)
  clear b2 HA HB
  go_wp2_with fail
  refine (sbest_is L (some ga) cap _ _ HZ.out rfl HA2.out (by omega)).mono ?_
  rintro en w3 ⟨rfl, b3⟩
  have HA3 := Lib.hid (HA2.out.below b3)
  have HB3 := Lib.hid (next HB2.out b3)
  clear b3 HA2 HB2
  by_cases hneg : z < 0
  · go_wp2_with fail
    refine (sbest_is L (some ga) cap _ _ HZ.out rfl HA3.out (by omega)).mono ?_
    rintro en w4 ⟨rfl, b4⟩
    have HB4 := Lib.hid (next HB3.out b4)
    clear b4
    go_wp2_with fail
    go_ret
    exact ⟨rfl, HB4.out⟩
  · obtain ⟨t, rfl, hT, htl, hok⟩ := best_pos HZ.out hneg
    rw [List.length_map] at htl
    have HT := Lib.hid hT
    have HO := Lib.hid hok
    have t0 : (0 : Int) ≤ (t : Int) := by omega
    have t1 : (t : Int) < (L.length : Int) := by omega
    obtain ⟨u, hu⟩ : ∃ u, L[t]? = some u := ⟨_, List.getElem?_eq_getElem htl⟩
    have HU := Lib.hid hu
    clear hT hok hu
    go_wp2_with fail
    go_loopw [5] (fun i wr => ∃ (k : Nat), i = .int .i64 (k : Int) ∧ k ≤ L.length ∧ Hid (RsA wr (some ga) L) ∧ Hid (Below w.heap.size w wr)) (fun i _ => L.length - (intOf i).toNat)
    case atStart => exact ⟨0, rfl, Nat.zero_le _, HA3, HB3⟩
    case round =>
      clear HA3 HB3
      obtain ⟨k, rfl, hk, HA3, HB3⟩ := hrel
      by_cases hlt : k < L.length
      · obtain ⟨v, hv⟩ : ∃ v, L[k]? = some v := ⟨_, List.getElem?_eq_getElem hlt⟩
        obtain ⟨b, off, eb1, hq, hm1⟩ := HA3.out.at hv
        obtain ⟨b', off', eb, hr, hm2⟩ := HA3.out.at HU.out
        obtain rfl : ga = ⟨b, off, none⟩ := by simpa using eb1
        obtain ⟨rfl, rfl⟩ : b = b' ∧ off = off' := by simpa using eb
        have HC := Lib.hid (And.intro hq hr)
        have HM1 : Hid (RtM _ v.a v.c v.P v.d v.e v.M) := Lib.hid hm1
        have HM2 : Hid (RtM _ u.a u.c u.P u.d u.e u.M) := Lib.hid hm2
        have i0 : (0 : Int) ≤ (k : Int) := by omega
        have i1 : (k : Int) < (L.length : Int) := by omega
        obtain ⟨x, hx⟩ : ∃ x, rtCmp v.rt u.rt = x := ⟨_, rfl⟩
        have HX : Hid (rtCmp (v.f, v.b, v.P, v.l, v.M) (u.f, u.b, u.P, u.l, u.M) = x) := Lib.hid hx
        have e0 : rtCmp0 v.rt u.rt = x := by rw [← rtCmp_yes (HO.out _ (List.mem_map.2 ⟨v, List.mem_of_getElem? hv, rfl⟩)) (HO.out _ (List.mem_map.2 ⟨u, List.mem_of_getElem? HU.out, rfl⟩))]; exact hx
        obtain ⟨r, hr1, hr2, hr3⟩ := HT.out
        obtain rfl : u.rt = r := by rw [map_at HU.out] at hr1; simpa using hr1
        have d1 : ¬ x < 0 := by
          have := hr2 k v.rt (map_at hv)
          rw [e0] at this
          have := rtCmp0_vals v.rt u.rt
          rw [e0] at this
          omega
        have d2 : k < t → (x == 0) = false := fun hkt => by
          rw [beq_eq_false_iff_ne]
          intro e
          exact hr3 k v.rt hkt (map_at hv) ((rtCmp0_zero _ _).1 (by rw [e0, e]))
        clear hv eb eb1 hq hr hm1 hm2 hx hr1 hr2 hr3 e0
        go_wp2_with fail
        refine wp_region_held_drew (S := fun W => ((W.cell? ⟨b, off + k * 5, none⟩ = some (.int .i64 v.f) ∧ W.cell? ⟨b, off + k * 5 + 1, none⟩ = some (.int .i64 v.b) ∧ W.cell? ⟨b, off + k * 5 + 2, none⟩ = some (.slice v.a v.P.length v.c) ∧ W.cell? ⟨b, off + k * 5 + 3, none⟩ = some (.int .i64 v.l) ∧ W.cell? ⟨b, off + k * 5 + 4, none⟩ = some (.slice v.d v.M.length v.e)) ∧ W.cell? ⟨b, off + t * 5, none⟩ = some (.int .i64 u.f) ∧ W.cell? ⟨b, off + t * 5 + 1, none⟩ = some (.int .i64 u.b) ∧ W.cell? ⟨b, off + t * 5 + 2, none⟩ = some (.slice u.a u.P.length u.c) ∧ W.cell? ⟨b, off + t * 5 + 3, none⟩ = some (.int .i64 u.l) ∧ W.cell? ⟨b, off + t * 5 + 4, none⟩ = some (.slice u.d u.M.length u.e)) ∧ Hid (Below w.heap.size w W ∧ RtM W v.a v.c v.P v.d v.e v.M ∧ RtM W u.a u.c u.P u.d u.e u.M ∧ RsA W (some ⟨b, off, none⟩) L)) (by kernel_rfl) ?_ (fun hHeld => ?_)
        · exact ⟨HC.out, Lib.hid ⟨HB3.out.drew, HM1.out, HM2.out, HA3.out⟩⟩
        refine takeH (i := 0) (v := ?_) rfl rfl (by kernel_rfl) (by kernel_rfl) (by kernel_rfl) (fun _ _ _ h => h) (by rfl) ?_ (by assumption) ?_
        rotate_left 1
        · intro w hSw
          (try dsimp only at hSw)
          go_simp
          try with_reducible rfl
        try simp only [List.setIfInBounds_toArray, List.set_cons_zero, List.set_cons_succ]
        refine takeH (i := 1) (v := ?_) rfl rfl (by kernel_rfl) (by kernel_rfl) (by kernel_rfl) (fun _ _ _ h => h) (by rfl) ?_ (by assumption) ?_
        rotate_left 1
        · intro w hSw
          (try dsimp only at hSw)
          go_simp
          try with_reducible rfl
        try simp only [List.setIfInBounds_toArray, List.set_cons_zero, List.set_cons_succ]
        refine takeH (i := 2) (v := ?_) rfl rfl (by kernel_rfl) (by kernel_rfl) (by kernel_rfl) (fun _ _ _ h => h) (by rfl) ?_ (by assumption) ?_
        rotate_left 1
        · intro w hSw
          (try dsimp only at hSw)
          go_simp
          try with_reducible rfl
        try simp only [List.setIfInBounds_toArray, List.set_cons_zero, List.set_cons_succ]
        refine takeH (i := 3) (v := ?_) rfl rfl (by kernel_rfl) (by kernel_rfl) (by kernel_rfl) (fun _ _ _ h => h) (by rfl) ?_ (by assumption) ?_
        rotate_left 1
        · intro w hSw
          (try dsimp only at hSw)
          go_simp
          try with_reducible rfl
        try simp only [List.setIfInBounds_toArray, List.set_cons_zero, List.set_cons_succ]
        refine takeH (i := 4) (v := ?_) rfl rfl (by kernel_rfl) (by kernel_rfl) (by kernel_rfl) (fun _ _ _ h => h) (by rfl) ?_ (by assumption) ?_
        rotate_left 1
        · intro w hSw
          (try dsimp only at hSw)
          go_simp
          try with_reducible rfl
        try simp only [List.setIfInBounds_toArray, List.set_cons_zero, List.set_cons_succ]
        refine takeH (i := 5) (v := ?_) rfl rfl (by kernel_rfl) (by kernel_rfl) (by kernel_rfl) (fun _ _ _ h => h) (by rfl) ?_ (by assumption) ?_
        rotate_left 1
        · intro w hSw
          (try dsimp only at hSw)
          go_simp
          try with_reducible rfl
        try simp only [List.setIfInBounds_toArray, List.set_cons_zero, List.set_cons_succ]
        refine takeH (i := 6) (v := ?_) rfl rfl (by kernel_rfl) (by kernel_rfl) (by kernel_rfl) (fun _ _ _ h => h) (by rfl) ?_ (by assumption) ?_
        rotate_left 1
        · intro w hSw
          (try dsimp only at hSw)
          go_simp
          try with_reducible rfl
        try simp only [List.setIfInBounds_toArray, List.set_cons_zero, List.set_cons_succ]
        refine takeH (i := 7) (v := ?_) rfl rfl (by kernel_rfl) (by kernel_rfl) (by kernel_rfl) (fun _ _ _ h => h) (by rfl) ?_ (by assumption) ?_
        rotate_left 1
        · intro w hSw
          (try dsimp only at hSw)
          go_simp
          try with_reducible rfl
        try simp only [List.setIfInBounds_toArray, List.set_cons_zero, List.set_cons_succ]
        refine wpAnyH_ready (rs := [8]) (by kernel_rfl) (by simp) ?_
        refine AllReadyH.cons rfl (fun K hK => ?_) (AllReadyH.nil)
        go_simp
        refine (ircmp_is v.f v.b v.a v.c v.P v.l v.d v.e v.M u.f u.b u.a u.c u.P u.l u.d u.e u.M HX.out _ p hHeld.2.out.2.1 hHeld.2.out.2.2.1 (HE.out.below hHeld.2.out.1)).mono ?_
        rintro en wc ⟨rfl, bc⟩
        go_wp2_with fail
        refine hK.out _ _ ?_ (fun hNew => ?_)
        · exact ⟨⟨⟨cell_later bc hHeld.1.1.1, cell_later bc hHeld.1.1.2.1, cell_later bc hHeld.1.1.2.2.1, cell_later bc hHeld.1.1.2.2.2.1, cell_later bc hHeld.1.1.2.2.2.2⟩, cell_later bc hHeld.1.2.1, cell_later bc hHeld.1.2.2.1, cell_later bc hHeld.1.2.2.2.1, cell_later bc hHeld.1.2.2.2.2.1, cell_later bc hHeld.1.2.2.2.2.2⟩, Lib.hid ⟨next hHeld.2.out.1 bc, hHeld.2.out.2.1.below bc, hHeld.2.out.2.2.1.below bc, hHeld.2.out.2.2.2.below bc⟩⟩
        clear hK K hHeld
        have hHeld := hNew
        clear hNew
        try simp only [Act.put, List.setIfInBounds_toArray, List.set_cons_zero, List.set_cons_succ]
        refine takeH (i := 9) (v := ?_) rfl rfl (by kernel_rfl) (by kernel_rfl) (by kernel_rfl) (fun _ _ _ h => h) (by rfl) ?_ (by assumption) ?_
        rotate_left 1
        · intro w hSw
          (try dsimp only at hSw)
          go_simp
          try with_reducible rfl
        try simp only [List.setIfInBounds_toArray, List.set_cons_zero, List.set_cons_succ]
        refine wpAnyH_done (by kernel_rfl) ?_ _
        have HB4 := Lib.hid hHeld.2.out.1
        have HA4 := Lib.hid hHeld.2.out.2.2.2
        clear hHeld HC HA3 HB3
        by_cases hkt : k < t
        · have d3 := d2 hkt
          have d4 : (k : Int) < (t : Int) := by omega
          clear d2
          go_wp2_with fail
          go_roundw
          case rel => exact ⟨k + 1, by go_num, by omega, HA4, HB4⟩
          case measure => simp [intOf]; omega
        · have d4 : ¬ (k : Int) < (t : Int) := by omega
          clear d2
          go_wp2_with fail
          go_roundw
          case rel => exact ⟨k + 1, by go_num, by omega, HA4, HB4⟩
          case measure => simp [intOf]; omega
      · obtain rfl : k = L.length := by omega
        go_wp2_with fail
        go_ret
        exact ⟨by simp [htl], HB3.out⟩
end Go.Proofs.YtfjfcdifnfffbaaDoor
