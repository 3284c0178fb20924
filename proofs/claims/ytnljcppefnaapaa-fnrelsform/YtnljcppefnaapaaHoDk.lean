/-
  Drawn relations, sometimes bad: DrawRelsOk.
-/
import Derived.Test.YtnljcppefnaapaaHoDs
namespace Go.Proofs.Ytnljcppefnaapaa
open Go.RowKit
set_option linter.unusedSimpArgs false
set_option linter.unusedVariables false

theorem ownm_some {W : World} {R n c : Nat} {a : Option Addr} {L : List IR} (h : OwnM W R (.slice a n c) L) (hp : 0 < L.length) : ∃ g, a = some ⟨g, 0, none⟩ := by
  rcases h.2 with ⟨e, h0⟩ | ⟨g, cap, cur, e, _⟩
  · omega
  · injection e with e1 e2 e3; exact ⟨g, e1⟩
set_option maxRecDepth 100000 in
set_option maxHeartbeats 4000000 in
theorem dRelsOk_any (a0 : Option Addr) (len0 cap0 : Nat) (zs0 : List Int) (w : World) (h : IsRow w a0 len0 cap0 zs0) : Calls Try.prog 32 #[.slice a0 len0 cap0] w (DnM w) := by
  have H0 := Lib.hid h
  clear h
  go_enter Try.func32, Try.ntmps32
  go_wp2_with fail
  refine (open_any a0 len0 cap0 zs0 _ H0.out).mono ?_
  rintro en w1 ⟨rfl, hr, b1⟩
  have HR := Lib.hid hr
  have HB := Lib.hid b1
  have hB1 := rd_lt hr
  clear hr b1
  go_wp2_with fail
  refine (rels_any _ w.heap.size 0 (by omega) HR.out).mono ?_
  rintro en w2 ⟨v, L, n, q, rfl, hn, hl, hI⟩
  obtain ⟨ta, tc, rfl, _⟩ := OwnM.tab hI.par.row
  have I2 := Lib.hid hI
  obtain ⟨q2, hr2, hq2⟩ := hI.rd
  have HR2 := Lib.hid hr2
  have HN := Lib.hid (And.intro hn hl)
  have hln : 2 ≤ L.length ∧ L.length ≤ 5 := by omega
  obtain ⟨g, rfl⟩ := ownm_some hI.par.row (by omega)
  clear hI hr2 hn hl
  go_wp2_with fail
  refine (pick_any 5 _ w.heap.size q2 (by omega) (by omega) HR2.out).mono ?_
  rintro en w3 ⟨y, y0, y1, rfl, hr3, hg3⟩
  have I3 := Lib.hid (I2.out.picked hB1 hg3 hr3 (show q2 + 1 ≤ 201 by omega))
  have HR3 := Lib.hid hr3
  clear hr3 hg3 I2 HR2
  by_cases hy : y = 0
  · have e0 : (y == 0) = true := by simp [hy]
    clear hy
    have I3d := Lib.hid (I3.out.later (Below.refl _ w3).drew)
    have HR3d := Lib.hid (rd_below HR3.out (Below.refl _ w3).drew)
    have HCL : Hid (∀ (i : Nat) x, L[i]? = some x → w3.drew.cell? ⟨g, i, none⟩ = some x.v) := Lib.hid (fun i x h => rowcell I3d.out.par h)
    go_wp2_with fail
    refine wp_region_held_drew (S := fun W => Hid (∀ (i : Nat) x, L[i]? = some x → W.cell? ⟨g, i, none⟩ = some x.v)) (by kernel_rfl) ?_ (fun hHeld => ?_)
    · exact HCL
    refine takeH (i := 0) (v := ?_) rfl rfl (by kernel_rfl) (by kernel_rfl) (by kernel_rfl) (fun _ _ _ h => h) (by rfl) ?_ (by assumption) ?_
    rotate_left 1
    · intro w hSw
      (try dsimp only at hSw)
      go_simp
      try with_reducible rfl
    try simp only [List.setIfInBounds_toArray, List.set_cons_zero, List.set_cons_succ]
    refine takeH (i := 1) (v := ?_) rfl rfl (by kernel_rfl) (by kernel_rfl) (by kernel_rfl) (fun _ _ _ h => h) (by rfl) ?_ (by assumption) ?_
    rotate_left 1
    · intro w hSw
      (try dsimp only at hSw)
      go_simp
      try with_reducible rfl
    try simp only [List.setIfInBounds_toArray, List.set_cons_zero, List.set_cons_succ]
    refine takeH (i := 2) (v := ?_) rfl rfl (by kernel_rfl) (by kernel_rfl) (by kernel_rfl) (fun _ _ _ h => h) (by rfl) ?_ (by assumption) ?_
    rotate_left 1
    · intro w hSw
      (try dsimp only at hSw)
      go_simp
      try with_reducible rfl
    try simp only [List.setIfInBounds_toArray, List.set_cons_zero, List.set_cons_succ]
    refine takeH (i := 3) (v := ?_) rfl rfl (by kernel_rfl) (by kernel_rfl) (by kernel_rfl) (fun _ _ _ h => h) (by rfl) ?_ (by assumption) ?_
    rotate_left 1
    · intro w hSw
      (try dsimp only at hSw)
      go_simp
      try with_reducible rfl
    try simp only [List.setIfInBounds_toArray, List.set_cons_zero, List.set_cons_succ]
    refine takeH (i := 7) (v := ?_) rfl rfl (by kernel_rfl) (by kernel_rfl) (by kernel_rfl) (fun _ _ _ h => h) (by rfl) ?_ (by assumption) ?_
    rotate_left 1
    · intro w hSw
      (try dsimp only at hSw)
      go_simp
      try with_reducible rfl
    try simp only [List.setIfInBounds_toArray, List.set_cons_zero, List.set_cons_succ]
    refine takeH (i := 8) (v := ?_) rfl rfl (by kernel_rfl) (by kernel_rfl) (by kernel_rfl) (fun _ _ _ h => h) (by rfl) ?_ (by assumption) ?_
    rotate_left 1
    · intro w hSw
      (try dsimp only at hSw)
      go_simp
      try with_reducible rfl
    try simp only [List.setIfInBounds_toArray, List.set_cons_zero, List.set_cons_succ]
    refine takeH (i := 9) (v := ?_) rfl rfl (by kernel_rfl) (by kernel_rfl) (by kernel_rfl) (fun _ _ _ h => h) (by rfl) ?_ (by assumption) ?_
    rotate_left 1
    · intro w hSw
      (try dsimp only at hSw)
      go_simp
      try with_reducible rfl
    try simp only [List.setIfInBounds_toArray, List.set_cons_zero, List.set_cons_succ]
    refine takeH (i := 11) (v := ?_) rfl rfl (by kernel_rfl) (by kernel_rfl) (by kernel_rfl) (fun _ _ _ h => h) (by rfl) ?_ (by assumption) ?_
    rotate_left 1
    · intro w hSw
      (try dsimp only at hSw)
      go_simp
      try with_reducible rfl
    try simp only [List.setIfInBounds_toArray, List.set_cons_zero, List.set_cons_succ]
    refine wpAnyH_ready (rs := [4]) (by kernel_rfl) (by simp) ?_
    refine AllReadyH.cons rfl (fun K hK => ?_) (AllReadyH.nil)
    go_simp
    refine (pick_any (L.length : Int) _ w.heap.size (q2 + 1) (by omega) (by omega) HR3d.out).mono ?_
    rintro en w4 ⟨x4, x40, x41, rfl, hr4, hg4⟩
    obtain ⟨X, rfl⟩ := Int.eq_ofNat_of_zero_le x40
    have I4 := Lib.hid (I3d.out.picked hB1 hg4 hr4 (show q2 + 1 + 1 ≤ 202 by omega))
    have HR4 := Lib.hid hr4
    obtain ⟨x, hx⟩ : ∃ x, L[X]? = some x := ⟨_, List.getElem?_eq_getElem (by omega)⟩
    obtain ⟨xa, xc, xP⟩ := x
    have hxl : xP.length = n := I4.out.sq _ (List.mem_of_getElem? hx)
    obtain ⟨gx, hgx⟩ := own_some (I4.out.par.own _ (List.mem_of_getElem? hx)) (show 0 < xP.length by have := HN.out; omega)
    dsimp only at hgx
    subst hgx
    have HX := Lib.hid hx
    have HXL := Lib.hid hxl
    have xp5 : L.length ≤ xP.length := by have := HN.out; omega
    clear hr4 hg4 hx hxl
    go_wp2_with fail
    refine hK.out _ _ ?_ (fun hNew => ?_)
    · exact Lib.hid (fun i x h => rowcell I4.out.par h)
    clear hK K hHeld
    have hHeld := hNew
    clear hNew
    try simp only [Act.put, List.setIfInBounds_toArray, List.set_cons_zero, List.set_cons_succ]
    refine takeH (i := 5) (v := ?_) rfl rfl (by kernel_rfl) (by kernel_rfl) (by kernel_rfl) (fun _ _ _ h => h) (by rfl) ?_ (by assumption) ?_
    rotate_left 1
    · intro w hSw
      (try dsimp only at hSw)
      go_simp
      try with_reducible rfl
    try simp only [List.setIfInBounds_toArray, List.set_cons_zero, List.set_cons_succ]
    refine takeH (i := 6) (v := ?_) rfl rfl (by kernel_rfl) (by kernel_rfl) (by kernel_rfl) (fun _ _ _ h => h) (by rfl) ?_ (by assumption) ?_
    rotate_left 1
    · intro w hSw
      (try dsimp only at hSw)
      go_simp
      have hq : w.cell? ⟨g, X, none⟩ = some (.slice (some ⟨gx, 0, none⟩) xP.length xc) := hSw.out X _ HX.out
      rw [hq]
      rfl
      try with_reducible rfl
    try simp only [List.setIfInBounds_toArray, List.set_cons_zero, List.set_cons_succ]
    refine wpAnyH_ready (rs := [10]) (by kernel_rfl) (by simp) ?_
    refine AllReadyH.cons rfl (fun K hK => ?_) (AllReadyH.nil)
    go_simp
    refine (pick_any (L.length : Int) _ w.heap.size (q2 + 1 + 1) (by omega) (by omega) HR4.out).mono ?_
    rintro en w5 ⟨x5, x50, x51, rfl, hr5, hg5⟩
    obtain ⟨Y, rfl⟩ := Int.eq_ofNat_of_zero_le x50
    have I5 := Lib.hid (I4.out.picked hB1 hg5 hr5 (show q2 + 1 + 1 + 1 ≤ 203 by omega))
    have HR5 := Lib.hid hr5
    have yl : (Y : Int) < (xP.length : Int) := by omega
    clear hr5 hg5
    go_wp2_with fail
    refine hK.out _ _ ?_ (fun hNew => ?_)
    · exact Lib.hid (fun i x h => rowcell I5.out.par h)
    clear hK K hHeld
    have hHeld := hNew
    clear hNew
    try simp only [Act.put, List.setIfInBounds_toArray, List.set_cons_zero, List.set_cons_succ]
    refine wpAnyH_ready (rs := [12]) (by kernel_rfl) (by simp) ?_
    refine AllReadyH.cons rfl (fun K hK => ?_) (AllReadyH.nil)
    go_simp
    refine (pick_any 5 _ w.heap.size (q2 + 1 + 1 + 1) (by omega) (by omega) HR5.out).mono ?_
    rintro en w6 ⟨V, x60, x61, rfl, hr6, hg6⟩
    have I6 := Lib.hid (I5.out.picked hB1 hg6 hr6 (show q2 + 1 + 1 + 1 + 1 ≤ 204 by omega))
    clear hr6 hg6
    go_wp2_with fail
    refine hK.out _ _ ?_ (fun hNew => ?_)
    · exact Lib.hid (fun i x h => rowcell I6.out.par h)
    clear hK K hHeld
    have hHeld := hNew
    clear hNew
    try simp only [Act.put, List.setIfInBounds_toArray, List.set_cons_zero, List.set_cons_succ]
    refine takeH (i := 13) (v := ?_) rfl rfl (by kernel_rfl) (by kernel_rfl) (by kernel_rfl) (fun _ _ _ h => h) (by rfl) ?_ (by assumption) ?_
    rotate_left 1
    · intro w hSw
      (try dsimp only at hSw)
      go_simp
      try with_reducible rfl
    try simp only [List.setIfInBounds_toArray, List.set_cons_zero, List.set_cons_succ]
    refine wpAnyH_ready (rs := [14]) (by kernel_rfl) (by simp) ?_
    refine AllReadyH.cons rfl (fun K hK => ?_) (AllReadyH.nil)
    have HO6 := Lib.hid (show OwnI w6 w1.heap.size (.slice (some ⟨gx, 0, none⟩) xP.length xc) xP from I6.out.par.own _ (List.mem_of_getElem? HX.out))
    refine wp_stI (.tmp 25) (.tmp 24) rfl w1.heap.size gx xc Y xP V (by simp [Act.eval]) (by simp [Act.eval]) HO6.out (by omega) ?_
    intro w7 o7 g7
    have I7 := Lib.hid (RlI.put' rfl I6.out hB1 HX.out (by simp) o7 g7)
    refine hK.out _ _ ?_ (fun hNew => ?_)
    · exact Lib.hid (fun i x h => g7.cell (rowcell I6.out.par h) (by have h0 := mrows_apart I6.out.par.row HO6.out (by decide); rcases h0 with h0 | h0; (simp [Value.ownBlock] at h0); (simpa [Value.ownBlock] using h0)))
    clear hK K hHeld
    have hHeld := hNew
    clear hNew
    try simp only [Act.put, List.setIfInBounds_toArray, List.set_cons_zero, List.set_cons_succ]
    refine wpAnyH_done (by kernel_rfl) ?_ _
    clear hHeld o7 g7
    have HF := Lib.hid (show DrM w (.slice (some ⟨g, 0, none⟩) L.length tc) (L.set X ⟨some ⟨gx, 0, none⟩, xc, xP.set Y V⟩) w7 by
      have h0 : (L.set X (⟨some ⟨gx, 0, none⟩, xc, xP.set Y V⟩ : IR)).length = L.length := List.length_set
      exact DrM.of HB.out (Nat.le_refl _) I7.out (h0.trans HN.out.2) HN.out.1)
    clear I7
    go_wp2_with fail
    go_ret
    exact ⟨_, _, rfl, HF.out⟩
  · have e0 : (y == 0) = false := by simp [hy]
    have HF := Lib.hid (DrM.of HB.out (Nat.le_refl _) I3.out HN.out.2 HN.out.1)
    clear hy I3
    go_wp2_with fail
    go_ret
    exact ⟨_, L, rfl, HF.out⟩
end Go.Proofs.Ytnljcppefnaapaa
