/-
  The program's relations, read from a matrix: relationsOf.
-/
import Derived.Test.YtnljcppefnaapaaHoAt
import Derived.Test.YtnljcppefnaapaaJ2
namespace Go.Proofs.Ytnljcppefnaapaa
open Go.RowKit
open Go.Maps (Keyed)
set_option linter.unusedSimpArgs false
set_option linter.unusedVariables false

/-- what relationsOf hands back -/
def RlEnd (w : World) (M : Mat) (z : Bool) (e : Ending) (w' : World) : Prop := ∃ (k : Int) (o : Option Nat), e = .returned (.tuple #[.agg #[.int .i64 k, .map o], .bool z]) ∧ Below w.heap.size w w' ∧ (z = true → k = M.length ∧ ∃ b, o = some b ∧ Rels w' (fM M) b)
theorem fl_new (w : World) (n : Nat) : Fl w (((w.alloc (.cells #[.int .i64 0, .map none] 50)).alloc (.map #[] 0)).alloc (.cells #[.int .i64 (n : Int), .map (some (w.heap.size + 1))] 50)) n := by
  refine ⟨(((Below.refl _ _).alloc (Nat.le_refl _) _).alloc (by simp) _).alloc (by simp; omega) _, ?_, ?_⟩
  · exact ((AtX.new2 w _ _ _).below ((Below.refl _ _).alloc (Nat.le_refl _) _)).below ((Below.refl _ _).alloc (Nat.le_refl _) _)
  · have := AtX.new2 ((w.alloc (.cells #[.int .i64 0, .map none] 50)).alloc (.map #[] 0)) (.int .i64 (n : Int)) (.map (some (w.heap.size + 1))) 50
    simp only [World.size_alloc] at this
    exact this
theorem relsU_new (w : World) (n : Nat) : RelsU (((w.alloc (.cells #[.int .i64 0, .map none] 50)).alloc (.map #[] 0)).alloc (.cells #[.int .i64 (n : Int), .map (some (w.heap.size + 1))] 50)) (fun _ _ => 0) (w.heap.size + 1) 0 := by
  have := World.ownsMap_made (H := Unit) (w.alloc (.cells #[.int .i64 0, .map none] 50)) Try.prog 63 (plainElem Try.prog 3)
  simp only [World.size_alloc] at this
  exact ⟨_, this.alloc _, Kn.made⟩
theorem noRel_ran {P : List Int} (h : P.any noRel = false) {k : Nat} {r : Int} (hr : P[k]? = some r) : 0 ≤ r ∧ r ≤ 3 := by
  have h1 := List.any_eq_false.1 h r (List.mem_of_getElem? hr)
  simp [noRel] at h1
  omega

theorem oneR2 (k : Int) (o : Option Nat) : (#[Value.int .i64 k, Value.map o]).all (·.oneCell') = true := by simp [Value.oneCell']
theorem rlEnd_no {w w' : World} {M : Mat} {z : Bool} (hz : false = z) (k : Int) (o : Option Nat) (hb : Below w.heap.size w w') : RlEnd w M z (.returned (.tuple #[.agg #[.int .i64 k, .map o], .bool false])) w' := by
  subst hz; exact ⟨k, o, rfl, hb, fun h => by cases h⟩
set_option maxRecDepth 100000 in
set_option maxHeartbeats 4000000 in
theorem irels_is (L : List IR) {z : Bool} (hz : relsOk (matP L) = z) (a : Option Addr) (cap n : Nat) (w : World) (hn : n = L.length) (hA : MatA w a L) (hl : L.length ≤ 2000000) :
    Calls Try.prog 44 #[.slice a n cap] w (RlEnd w (matP L) z) := by
  subst hn
  have HX := Lib.hid hz
  have HA := Lib.hid hA
  clear hz hA
  by_cases hlen : 1 ≤ L.length ∧ L.length ≤ 5
  · have l0 : ¬ (L.length : Int) < 1 := by omega
    have l1 : ¬ (L.length : Int) > 5 := by omega
    have d0 : decide ((L.length : Int) < 1) = false := decide_eq_false l0
    have d1 : decide ((L.length : Int) > 5) = false := decide_eq_false l1
    have HF0 := Lib.hid (fl_new w L.length)
    have HU0 := Lib.hid (relsU_new w L.length)
    obtain ⟨W, hW⟩ : ∃ W, ((w.alloc (.cells #[.int .i64 0, .map none] 50)).alloc (.map #[] 0)).alloc (.cells #[.int .i64 (L.length : Int), .map (some (w.heap.size + 1))] 50) = W := ⟨_, rfl⟩
    rw [hW] at HF0 HU0
    have hmm := @run_makeMap Try.prog
    clear l0 l1
    go_enter Try.func44, Try.ntmps44
    go_wp2_with fail
    go_loopw [24] (fun i wr => ∃ I : Nat, I ≤ L.length ∧ i = .int .i64 I ∧ Hid (∀ j, j < I → ((matP L).getD j []).length = L.length ∧ ∀ k, k < L.length → 0 ≤ mAt (matP L) j k ∧ mAt (matP L) j k ≤ 3) ∧ Hid (Fl w wr L.length) ∧ Hid (RelsU wr (fill (matP L) I 0) (w.heap.size + 1) (5 * I))) (fun i _ => L.length - (intOf i).toNat)
    case atStart => exact ⟨0, Nat.zero_le _, rfl, Lib.hid (fun j hj => by omega), HF0, Lib.hid (by rw [fill_0]; exact HU0.out)⟩
    case round =>
      clear HF0 HU0 hW hmm
      obtain ⟨I, hI, rfl, HN, HF, HU⟩ := hrel
      by_cases hlt : I < L.length
      · obtain ⟨x, hx⟩ : ∃ x, L[I]? = some x := ⟨_, List.getElem?_eq_getElem hlt⟩
        obtain ⟨xa, xc, xP⟩ := x
        have HV := Lib.hid hx
        have i0 : (0 : Int) ≤ (I : Int) := by omega
        have i1 : (I : Int) < (L.length : Int) := by omega
        obtain ⟨b, off, rfl, c0, hIx, hcx⟩ := (HA.out.below HF.out.bel).at hx
        dsimp only at c0 hIx hcx
        have HIx := Lib.hid hIx
        clear hx hIx
        by_cases hxl : xP.length = L.length
        · have e1 : ((xP.length : Int) != (L.length : Int)) = false := by simp [hxl]
          have HXL := Lib.hid hxl
          have hx2 : xP.length ≤ 2000000 := by omega
          clear hxl
          cases hno : xP.any noRel with
          | true =>
            have HZ := Lib.hid (show false = z by
              rw [← HX.out]
              obtain ⟨r, hr, hb⟩ := List.any_eq_true.1 hno
              obtain ⟨k, hk⟩ := List.mem_iff_getElem?.1 hr
              have hkl := (List.getElem?_eq_some_iff.1 hk).1
              refine (relsOk_ran (i := I) (k := k) (by rw [matP_len]; exact hlt) (by rw [matP_len, ← HXL.out]; exact hkl) ?_).symm
              rw [mAt_at HV.out, getD_at hk]
              simp [noRel] at hb
              omega)
            have HNO := Lib.hid hno
            clear hno
            go_wp2_with fail
            refine (containsF_is HNO.out xa xc _ _ rfl HIx.out hx2).mono ?_
            rintro e wq ⟨rfl, rfl⟩
            clear c0
            go_wp2_with (refine wpList_stX rfl 50 (.tmp 2) (.tmp 38) rfl w.heap.size #[.int .i64 0, .map none] ?x1 ?y1 (oneR2 _ _) infoR2 _ HF.out.res rfl ?g1)
            try case x1 => rfl
            try case y1 => rfl
            intro w4 hA4 g4
            obtain ⟨z0, z1⟩ := hA4.two
            have HB4 := Lib.hid (HF.out.bel.grown g4 HF.out.bel.size (fun k hk => by cases hk; exact Nat.le_refl _))
            clear hA4 g4
            go_wp2_with fail
            refine bodyPost_ret (v := .tuple #[.agg #[.int .i64 0, .map none], .bool false]) (by simp [results, Try.results44, go_sem, z0, z1]) rfl (rlEnd_no HZ.out _ _ HB4.out)
          | false =>
            have HNO := Lib.hid hno
            clear hno
            go_wp2_with fail
            refine (containsF_is HNO.out xa xc _ _ rfl HIx.out hx2).mono ?_
            rintro e wq ⟨rfl, rfl⟩
            clear c0
            go_wp2_with fail
            go_loopw [41] (fun k wr2 => ∃ K : Nat, K ≤ xP.length ∧ k = .int .i64 K ∧ Hid (Fl w wr2 L.length) ∧ Hid (RelsU wr2 (fill (matP L) I K) (w.heap.size + 1) (5 * I + K))) (fun k _ => xP.length - (intOf k).toNat)
            case atStart => exact ⟨0, Nat.zero_le _, rfl, HF, HU⟩
            case round =>
              clear HF HU
              obtain ⟨K, hK, rfl, HF, HU⟩ := hrel
              by_cases hkt : K < xP.length
              · have k0 : (0 : Int) ≤ (K : Int) := by omega
                have k1 : (K : Int) < (xP.length : Int) := by omega
                obtain ⟨b', off', eb, c0, hIx, _⟩ := (HA.out.below HF.out.bel).at HV.out
                dsimp only at hIx
                obtain ⟨b2, off2, r, rfl, hr, c2⟩ := hIx.at hkt
                have HM := Lib.hid (show mAt (matP L) I K = r by rw [mAt_at HV.out, getD_at hr])
                have hrr := noRel_ran HNO.out hr
                have hbd : 5 * I + K < 100 := by have := HXL.out; omega
                clear hIx hr eb c0
                by_cases hr0 : r = 0
                · have e2 : (r != 0) = false := by simp [hr0]
                  have HU2 := Lib.hid (show RelsU wr (fill (matP L) I (K + 1)) (w.heap.size + 1) (5 * I + (K + 1)) by rw [fill_no (matP L) I K (by rw [matP_len, ← HXL.out]; exact hkt) (HM.out.trans hr0)]; exact HU.out.mono (by omega))
                  clear hr0 hrr
                  go_wp2_with fail
                  go_roundw
                  case rel => exact ⟨K + 1, by omega, by go_num, HF, HU2⟩
                  case measure => simp [intOf]; omega
                · have e2 : (r != 0) = true := by simp [hr0]
                  obtain ⟨kz0, kz1⟩ := HF.out.kno.two
                  have HW1 := Lib.hid (iwL (p := (I : Int) + 1) (by omega) (by have := HXL.out; omega))
                  have HW2 := Lib.hid (iwL (p := (K : Int) + 1) (by omega) (by have := HXL.out; omega))
                  have HW3 := Lib.hid (iwL (p := r) (by omega) (by omega))
                  have HR0 := Lib.hid hr0
                  clear hrr hr0
                  go_wp2_with (at_mapUpdate; refine wpList_put_R rfl (.tmp 49) (.tmp 54) (.tmp 55) rfl (fill (matP L) I K) (w.heap.size + 1) (5 * I + K) ?m1 HU.out hbd ((I : Int) + 1) ((K : Int) + 1) r ?x3 ?v1 HW1.out HW2.out HW3.out HR0.out ?g3)
                  try case m1 => rfl
                  try case x3 => rfl
                  try case v1 => rfl
                  intro w5 hU5 g5
                  have HU2 := Lib.hid (show RelsU w5 (fill (matP L) I (K + 1)) (w.heap.size + 1) (5 * I + (K + 1)) by rw [fill_put, HM.out]; exact hU5)
                  have HF2 := Lib.hid (HF.out.put g5)
                  clear hU5 g5 c2
                  go_wp2_with fail
                  go_roundw
                  case rel => exact ⟨K + 1, by omega, by go_num, HF2, HU2⟩
                  case measure => simp [intOf]; omega
              · obtain rfl : K = xP.length := by omega
                have HN2 : Hid (∀ j, j < I + 1 → ((matP L).getD j []).length = L.length ∧ ∀ k, k < L.length → 0 ≤ mAt (matP L) j k ∧ mAt (matP L) j k ≤ 3) := Lib.hid (fun j hj => by
                  by_cases e : j = I
                  · subst e
                    refine ⟨by rw [matP_at HV.out]; exact HXL.out, fun k hk => ?_⟩
                    obtain ⟨r, hkx⟩ : ∃ r, xP[k]? = some r := ⟨_, List.getElem?_eq_getElem (by have := HXL.out; omega)⟩
                    rw [mAt_at HV.out, getD_at hkx]
                    exact noRel_ran HNO.out hkx
                  · exact HN.out j (by omega))
                have HU2 := Lib.hid (show RelsU wr (fill (matP L) (I + 1) 0) (w.heap.size + 1) (5 * (I + 1)) by rw [← fill_row, matP_len, ← HXL.out]; exact HU.out.mono (by have := HXL.out; omega))
                go_wp2_with fail
                go_roundw
                case rel => exact ⟨I + 1, by omega, by go_num, HN2, HF, HU2⟩
                case measure => simp [intOf]; omega
        · have e1 : ((xP.length : Int) != (L.length : Int)) = true := by simp; omega
          have HZ := Lib.hid (show false = z by rw [← HX.out, relsOk_sq (i := I) (by rw [matP_len]; exact hlt) (by rw [matP_at HV.out, matP_len]; exact hxl)])
          clear hxl
          go_wp2_with (refine wpList_stX rfl 50 (.tmp 2) (.tmp 38) rfl w.heap.size #[.int .i64 0, .map none] ?x2 ?y2 (oneR2 _ _) infoR2 _ HF.out.res rfl ?g2)
          try case x2 => rfl
          try case y2 => rfl
          intro w4 hA4 g4
          obtain ⟨z0, z1⟩ := hA4.two
          have HB4 := Lib.hid (HF.out.bel.grown g4 HF.out.bel.size (fun k hk => by cases hk; exact Nat.le_refl _))
          clear hA4 g4
          go_wp2_with fail
          refine bodyPost_ret (v := .tuple #[.agg #[.int .i64 0, .map none], .bool false]) (by simp [results, Try.results44, go_sem, z0, z1]) rfl (rlEnd_no HZ.out _ _ HB4.out)
      · obtain rfl : I = L.length := by omega
        have HR := Lib.hid (show Rels wr (fM (matP L)) (w.heap.size + 1) by have h := fill_all (matP L); rw [matP_len] at h; rw [← h]; exact HU.out.rels (by omega))
        have H1 := Lib.hid (show z = true → ∀ p q, Iw p → Iw q → fM (matP L) p q ≠ 0 → agr (fM (matP L)) p q from fun h p q _ _ hf => relsOk_agr (HX.out.trans h) hf)
        have H0 := Lib.hid (show (∀ p q, Iw p → Iw q → fM (matP L) p q ≠ 0 → agr (fM (matP L)) p q) → z = true from fun h => by
          rw [← HX.out]
          refine relsOk_yes (by rw [matP_len]; exact hlen) (fun i hi => ?_) (fun i k hi hk => ?_) h
          · rw [matP_len] at hi ⊢; exact (HN.out i hi).1
          · rw [matP_len] at hi hk; exact (HN.out i hi).2 k hk)
        have HK := Lib.hid HF.out.kno.two
        clear HU HN
        go_wp2_with fail
        refine wp_region_held_drew (S := fun Wx => (Wx.cell? ⟨w.heap.size + 2, 0, none⟩ = some (.int .i64 (L.length : Int)) ∧ Wx.cell? ⟨w.heap.size + 2, 1, none⟩ = some (.map (some (w.heap.size + 1)))) ∧ Hid (Rels Wx (fM (matP L)) (w.heap.size + 1) ∧ Below w.heap.size w Wx ∧ ∃ c0 c1, AtX Wx w.heap.size [c0, c1])) (by kernel_rfl) ?_ (fun hHeld => ?_)
        · exact ⟨HK.out, Lib.hid ⟨HR.out.below (Below.refl _ wr).drew, HF.out.bel.drew, _, _, HF.out.res⟩⟩
        refine takeH (i := 0) (v := ?_) rfl rfl (by kernel_rfl) (by kernel_rfl) (by kernel_rfl) (fun _ _ _ h => h) (by rfl) ?_ (by assumption) ?_
        rotate_left 1
        · intro w hSw
          (try dsimp only at hSw)
          go_simp
          try with_reducible rfl
        try simp only [List.setIfInBounds_toArray, List.set_cons_zero, List.set_cons_succ]
        refine takeH (i := 1) (v := ?_) rfl rfl (by kernel_rfl) (by kernel_rfl) (by kernel_rfl) (fun _ _ _ h => h) (by rfl) ?_ (by assumption) ?_
        rotate_left 1
        · intro w hSw
          (try dsimp only at hSw)
          go_simp
          try with_reducible rfl
        try simp only [List.setIfInBounds_toArray, List.set_cons_zero, List.set_cons_succ]
        refine wpAnyH_ready (rs := [2]) (by kernel_rfl) (by simp) ?_
        refine AllReadyH.cons rfl (fun K hK => ?_) (AllReadyH.nil)
        go_simp
        refine (agree_is H1.out H0.out L.length (w.heap.size + 1) _ hHeld.2.out.1).mono ?_
        rintro e wq ⟨rfl, bq⟩
        go_wp2_with fail
        refine hK.out _ _ ?_ (fun hNew => ?_)
        · exact ⟨⟨cell_later bq hHeld.1.1, cell_later bq hHeld.1.2⟩, Lib.hid ⟨hHeld.2.out.1.below bq, next hHeld.2.out.2.1 bq, hHeld.2.out.2.2.imp fun _ h => h.imp fun _ h => h.below bq⟩⟩
        clear hK K hHeld
        have hHeld := hNew
        clear hNew
        try simp only [Act.put, List.setIfInBounds_toArray, List.set_cons_zero, List.set_cons_succ]
        refine wpAnyH_ready (rs := [3]) (by kernel_rfl) (by simp) ?_
        refine AllReadyH.cons rfl (fun K hK => ?_) (AllReadyH.nil)
        obtain ⟨y0, y1, hy⟩ := hHeld.2.out.2.2
        refine wp_stX 50 (.tmp 2) (.tmp 58) rfl w.heap.size #[.int .i64 (L.length : Int), .map (some (w.heap.size + 1))] (by simp [Act.eval]) (by simp [Act.eval]) (oneR2 _ _) infoR2 _ hy rfl ?_
        intro w5 hA5 g5
        refine hK.out _ _ ?_ (fun hNew => ?_)
        · exact ⟨⟨g5.cell hHeld.1.1 (by simp), g5.cell hHeld.1.2 (by simp)⟩, Lib.hid ⟨hHeld.2.out.1.only g5 (by simp), hHeld.2.out.2.1.grown g5 hHeld.2.out.2.1.size (fun k hk => by cases hk; exact Nat.le_refl _), _, _, hA5⟩⟩
        clear hK K hHeld
        have hHeld := hNew
        clear hNew
        try simp only [Act.put, List.setIfInBounds_toArray, List.set_cons_zero, List.set_cons_succ]
        refine takeH (i := 4) (v := ?_) rfl rfl (by kernel_rfl) (by kernel_rfl) (by kernel_rfl) (fun _ _ _ h => h) (by rfl) ?_ (by assumption) ?_
        rotate_left 1
        · intro w hSw
          (try dsimp only at hSw)
          go_simp
          try with_reducible rfl
        try simp only [List.setIfInBounds_toArray, List.set_cons_zero, List.set_cons_succ]
        refine wpAnyH_done (by kernel_rfl) ?_ _
        obtain ⟨z0, z1⟩ := hA5.two
        have HB4 := Lib.hid hHeld.2.out.2.1
        have HR4 := Lib.hid hHeld.2.out.1
        clear hHeld hA5
        go_wp2_with fail
        refine bodyPost_ret (v := .tuple #[.agg #[.int .i64 (L.length : Int), .map (some (w.heap.size + 1))], .bool z]) (by simp [results, Try.results44, go_sem, z0, z1]) rfl ⟨_, _, rfl, HB4.out, fun _ => ⟨by rw [matP_len], _, rfl, HR4.out⟩⟩
  · have HZ := Lib.hid (show false = z by rw [← HX.out, relsOk_len (by rw [matP_len]; exact hlen)])
    have HB4 := Lib.hid ((Below.refl w.heap.size w).alloc (Nat.le_refl _) (.cells #[.int .i64 0, .map none] 50))
    by_cases hl1 : L.length < 1
    · have d0 : decide ((L.length : Int) < 1) = true := decide_eq_true (by omega)
      clear hlen hl1
      go_enter Try.func44, Try.ntmps44
      go_wp2_with fail
      refine bodyPost_ret (v := .tuple #[.agg #[.int .i64 0, .map none], .bool false]) (by simp [results, Try.results44, go_sem]) rfl (rlEnd_no HZ.out _ _ HB4.out)
    · have d0 : decide ((L.length : Int) < 1) = false := decide_eq_false (by omega)
      have d1 : decide ((L.length : Int) > 5) = true := decide_eq_true (by omega)
      clear hlen hl1
      go_enter Try.func44, Try.ntmps44
      go_wp2_with fail
      refine bodyPost_ret (v := .tuple #[.agg #[.int .i64 0, .map none], .bool false]) (by simp [results, Try.results44, go_sem]) rfl (rlEnd_no HZ.out _ _ HB4.out)
end Go.Proofs.Ytnljcppefnaapaa
