/-
  What a route lacks, by the document's model: SealLacks, SealOk.
-/
import Derived.Test.YtnnmgbgkgnejlaaDoorSlMk
namespace Go.Proofs.YtnnmgbgkgnejlaaDoor
open Go.RowKit
set_option linter.unusedSimpArgs false
set_option linter.unusedVariables false

/-- who has not sealed, the first one -/
def firstLack (S : List SV) : List SP → Int
  | [] => 0
  | s :: Q => if hasS S s then firstLack S Q else s.y
def lackM (H : List HV) (S : List SV) (f b : Int) (P : List Int) (l : Int) (M : List Int) (t : Int) : Int :=
  if tellB f b P l M t then (if holdsB H (P.getD (P.length - 1) 0) f b then firstLack S (sealsOf f b t P) else -1) else -2
theorem seals_drop {f b t : Int} {P : List Int} {i : Nat} (hi : i < P.length) : (sealsOf f b t P).drop i = sealAt f b t P i :: (sealsOf f b t P).drop (i + 1) := by
  have h := sealsOf_at f b t P i hi
  have hl := (List.getElem?_eq_some_iff.1 h)
  rw [← hl.2]; exact (List.drop_eq_getElem_cons hl.1)
theorem rtOk_path {f b l : Int} {P M : List Int} (h : rtOk (f, b, P, l, M) = true) : 0 < P.length := by
  cases P with
  | nil => rw [rtOk_nil] at h; cases h
  | cons x P => simp
set_option maxRecDepth 100000 in
set_option maxHeartbeats 4000000 in
theorem slacks_is (H : List HV) (S : List SV) (ha sa : Option Addr) (hc sc : Nat) (f b : Int) (a : Option Addr) (c : Nat) (P : List Int) (l : Int) (d : Option Addr) (e : Nat) (M : List Int) (tt : Int) {z : Int} (hz : lackM H S f b P l M tt = z) (w : World) (hH : HvA w ha H) (hHl : H.length ≤ 2000000) (hS : SlA w sa S) (hSl : S.length ≤ 2000000) (hm : RtM w a c P d e M) :
    Calls Tryd.prog 26 #[.slice ha H.length hc, .slice sa S.length sc, .agg #[.int .i64 f, .int .i64 b, .slice a P.length c, .int .i64 l, .slice d M.length e], .int .i64 tt] w fun en w' => en = .returned (.int .i64 z) ∧ Below w.heap.size w w' := by
  have HX := Lib.hid hz
  have hPl := hm.2.2.2.1
  obtain ⟨W, hW⟩ : ∃ W, w.alloc (.cells #[.int .i64 f, .int .i64 b, .slice a P.length c, .int .i64 l, .slice d M.length e] 27) = W := ⟨_, rfl⟩
  have hb : Below w.heap.size w W := by rw [← hW]; exact (Below.refl _ _).alloc (Nat.le_refl _) _
  have BX := Lib.hid (show AtY W w.heap.size [.int .i64 f, .int .i64 b, .slice a P.length c, .int .i64 l, .slice d M.length e] by rw [← hW]; exact AtY.new5 w _ _ _ _ _ _)
  have HB := Lib.hid hb
  have HM := Lib.hid (hm.below hb)
  have HH := Lib.hid (hH.below hb)
  have HS := Lib.hid (hS.below hb)
  obtain ⟨q0, q1, q2, q3, q4⟩ := BX.out.five
  clear hz hb hH hS
  go_enter Tryd.func26, Tryd.ntmps26
  go_wp2_with fail
  cases ho : rtOk (f, b, P, l, M) with
  | false =>
    have HZ := Lib.hid (show -2 = z by rw [← HX.out, lackM, tellB, ho]; rfl)
    refine (srok_is f b a c P l d e M ho _ HM.out).mono ?_
    rintro en w1 ⟨rfl, b1⟩
    have HB1 := Lib.hid (next HB.out b1)
    clear b1
    go_wp2_with fail
    go_ret
    exact ⟨by rw [← HZ.out]; rfl, HB1.out⟩
  | true =>
    refine (srok_is f b a c P l d e M ho _ HM.out).mono ?_
    rintro en w1 ⟨rfl, b1⟩
    have HB1 := Lib.hid (next HB.out b1)
    have BX1 := Lib.hid (BX.out.below b1)
    have HM1 := Lib.hid (HM.out.below b1)
    have HH1 := Lib.hid (HH.out.below b1)
    have HS1 := Lib.hid (HS.out.below b1)
    have hp0 := rtOk_path ho
    clear b1 q0 q1 q2 q3 q4 BX HM HH HS hW
    obtain ⟨q0, q1, q2, q3, q4⟩ := BX1.out.five
    go_wp2_with fail
    cases hh : isH tt with
    | false =>
      have HZ := Lib.hid (show -2 = z by rw [← HX.out, lackM, tellB, ho, hh]; rfl)
      refine (shouse_is hh _).mono ?_
      rintro en wq ⟨rfl, rfl⟩
      go_wp2_with fail
      go_ret
      exact ⟨by rw [← HZ.out]; rfl, HB1.out⟩
    | true =>
      refine (shouse_is hh _).mono ?_
      rintro en wq ⟨rfl, rfl⟩
      go_wp2_with fail
      cases hp : decide (tt ∈ P) with
      | true =>
        have HZ := Lib.hid (show -2 = z by rw [← HX.out, lackM, tellB, ho, hh, hp]; rfl)
        refine (pshas_is hp a c _ _ rfl HM1.out.1.1 (by omega)).mono ?_
        rintro en wq ⟨rfl, rfl⟩
        go_wp2_with fail
        go_ret
        exact ⟨by rw [← HZ.out]; rfl, HB1.out⟩
      | false =>
        have HX2 := Lib.hid (show (if holdsB H (P.getD (P.length - 1) 0) f b then firstLack S (sealsOf f b tt P) else -1) = z by rw [← HX.out, lackM, tellB, ho, hh, hp]; rfl)
        refine (pshas_is hp a c _ _ rfl HM1.out.1.1 (by omega)).mono ?_
        rintro en wq ⟨rfl, rfl⟩
        clear ho hh hp HX
        obtain ⟨pb, poff, h, rfl, hget, cP⟩ := HM1.out.1.1.at (show P.length - 1 < P.length by omega)
        have hgd : P.getD (P.length - 1) 0 = h := by simp [List.getD, hget]
        rw [hgd] at HX2
        have n0 : IntKind.i64.wrap ((P.length : Int) - 1) = ((P.length - 1 : Nat) : Int) := by rw [IntKind.wrap_i64]; omega
        have n1 : (0 : Int) ≤ ((P.length - 1 : Nat) : Int) := by omega
        have n2 : ((P.length - 1 : Nat) : Int) < (P.length : Int) := by omega
        obtain ⟨y, hy⟩ : ∃ y, holdsB H h f b = y := ⟨_, rfl⟩
        have HY := Lib.hid hy
        rw [hy] at HX2
        have HQ := Lib.hid (And.intro (And.intro (show w1.drew.cell? ⟨w.heap.size, 0, none⟩ = _ from q0) (And.intro q1 (And.intro q2 (And.intro q3 q4)))) cP)
        clear q0 q1 q2 q3 q4 cP hy hgd hget
        go_wp2_with fail
        refine wp_region_held_drew (S := fun Wx => ((Wx.cell? ⟨w.heap.size, 0, none⟩ = some (.int .i64 f) ∧ Wx.cell? ⟨w.heap.size, 1, none⟩ = some (.int .i64 b) ∧ Wx.cell? ⟨w.heap.size, 2, none⟩ = some (.slice (some ⟨pb, poff, none⟩) P.length c) ∧ Wx.cell? ⟨w.heap.size, 3, none⟩ = some (.int .i64 l) ∧ Wx.cell? ⟨w.heap.size, 4, none⟩ = some (.slice d M.length e)) ∧ Wx.cell? ⟨pb, poff + (P.length - 1), none⟩ = some (.int .i64 h)) ∧ Hid (Below w1.heap.size w1 Wx)) (by kernel_rfl) ?_ (fun hHeld => ?_)
        · exact ⟨HQ.out, Lib.hid (Below.refl _ w1).drew⟩
        refine takeH (i := 0) (v := ?_) rfl rfl (by kernel_rfl) (by kernel_rfl) (by kernel_rfl) (fun _ _ _ h => h) (by rfl) ?_ (by assumption) ?_
        rotate_left 1
        · intro w hSw
          (try dsimp only at hSw)
          go_simp
          try with_reducible rfl
        try simp only [List.setIfInBounds_toArray, List.set_cons_zero, List.set_cons_succ]
        refine takeH (i := 1) (v := ?_) rfl rfl (by kernel_rfl) (by kernel_rfl) (by kernel_rfl) (fun _ _ _ h => h) (by rfl) ?_ (by assumption) ?_
        rotate_left 1
        · intro w hSw
          (try dsimp only at hSw)
          go_simp
          try with_reducible rfl
        try simp only [List.setIfInBounds_toArray, List.set_cons_zero, List.set_cons_succ]
        refine takeH (i := 2) (v := ?_) rfl rfl (by kernel_rfl) (by kernel_rfl) (by kernel_rfl) (fun _ _ _ h => h) (by rfl) ?_ (by assumption) ?_
        rotate_left 1
        · intro w hSw
          (try dsimp only at hSw)
          go_simp
          try with_reducible rfl
        try simp only [List.setIfInBounds_toArray, List.set_cons_zero, List.set_cons_succ]
        refine takeH (i := 3) (v := ?_) rfl rfl (by kernel_rfl) (by kernel_rfl) (by kernel_rfl) (fun _ _ _ h => h) (by rfl) ?_ (by assumption) ?_
        rotate_left 1
        · intro w hSw
          (try dsimp only at hSw)
          go_simp
          try with_reducible rfl
        try simp only [List.setIfInBounds_toArray, List.set_cons_zero, List.set_cons_succ]
        refine takeH (i := 4) (v := ?_) rfl rfl (by kernel_rfl) (by kernel_rfl) (by kernel_rfl) (fun _ _ _ h => h) (by rfl) ?_ (by assumption) ?_
        rotate_left 1
        · intro w hSw
          (try dsimp only at hSw)
          go_simp
          try with_reducible rfl
        try simp only [List.setIfInBounds_toArray, List.set_cons_zero, List.set_cons_succ]
        refine takeH (i := 5) (v := ?_) rfl rfl (by kernel_rfl) (by kernel_rfl) (by kernel_rfl) (fun _ _ _ h => h) (by rfl) ?_ (by assumption) ?_
        rotate_left 1
        · intro w hSw
          (try dsimp only at hSw)
          go_simp
          try with_reducible rfl
        try simp only [List.setIfInBounds_toArray, List.set_cons_zero, List.set_cons_succ]
        refine takeH (i := 6) (v := ?_) rfl rfl (by kernel_rfl) (by kernel_rfl) (by kernel_rfl) (fun _ _ _ h => h) (by rfl) ?_ (by assumption) ?_
        rotate_left 1
        · intro w hSw
          (try dsimp only at hSw)
          go_simp
          try with_reducible rfl
        try simp only [List.setIfInBounds_toArray, List.set_cons_zero, List.set_cons_succ]
        refine takeH (i := 7) (v := ?_) rfl rfl (by kernel_rfl) (by kernel_rfl) (by kernel_rfl) (fun _ _ _ h => h) (by rfl) ?_ (by assumption) ?_
        rotate_left 1
        · intro w hSw
          (try dsimp only at hSw)
          go_simp
          try with_reducible rfl
        try simp only [List.setIfInBounds_toArray, List.set_cons_zero, List.set_cons_succ]
        refine takeH (i := 8) (v := ?_) rfl rfl (by kernel_rfl) (by kernel_rfl) (by kernel_rfl) (fun _ _ _ h => h) (by rfl) ?_ (by assumption) ?_
        rotate_left 1
        · intro w hSw
          (try dsimp only at hSw)
          go_simp
          try with_reducible rfl
        try simp only [List.setIfInBounds_toArray, List.set_cons_zero, List.set_cons_succ]
        refine takeH (i := 9) (v := ?_) rfl rfl (by kernel_rfl) (by kernel_rfl) (by kernel_rfl) (fun _ _ _ h => h) (by rfl) ?_ (by assumption) ?_
        rotate_left 1
        · intro w hSw
          (try dsimp only at hSw)
          go_simp
          try with_reducible rfl
        try simp only [List.setIfInBounds_toArray, List.set_cons_zero, List.set_cons_succ]
        refine takeH (i := 10) (v := ?_) rfl rfl (by kernel_rfl) (by kernel_rfl) (by kernel_rfl) (fun _ _ _ h => h) (by rfl) ?_ (by assumption) ?_
        rotate_left 1
        · intro w hSw
          (try dsimp only at hSw)
          go_simp
          try with_reducible rfl
        try simp only [List.setIfInBounds_toArray, List.set_cons_zero, List.set_cons_succ]
        refine wpAnyH_ready (rs := [11]) (by kernel_rfl) (by simp) ?_
        refine AllReadyH.cons rfl (fun K hK => ?_) (AllReadyH.nil)
        go_simp
        refine (sholds_is H h f b HY.out ha hc _ _ rfl (HH1.out.below hHeld.2.out) hHl).mono ?_
        rintro en wq ⟨rfl, bq⟩
        go_wp2_with fail
        refine hK.out _ _ ?_ (fun hNew => ?_)
        · exact ⟨⟨⟨cell_later bq hHeld.1.1.1, cell_later bq hHeld.1.1.2.1, cell_later bq hHeld.1.1.2.2.1, cell_later bq hHeld.1.1.2.2.2.1, cell_later bq hHeld.1.1.2.2.2.2⟩, cell_later bq hHeld.1.2⟩, Lib.hid (next hHeld.2.out bq)⟩
        clear hK K hHeld
        have hHeld := hNew
        clear hNew
        try simp only [Act.put, List.setIfInBounds_toArray, List.set_cons_zero, List.set_cons_succ]
        refine takeH (i := 12) (v := ?_) rfl rfl (by kernel_rfl) (by kernel_rfl) (by kernel_rfl) (fun _ _ _ h => h) (by rfl) ?_ (by assumption) ?_
        rotate_left 1
        · intro w hSw
          (try dsimp only at hSw)
          go_simp
          try with_reducible rfl
        try simp only [List.setIfInBounds_toArray, List.set_cons_zero, List.set_cons_succ]
        refine wpAnyH_done (by kernel_rfl) ?_ _
        have HW2 := Lib.hid hHeld.2.out
        have BX2 := Lib.hid (BX1.out.below HW2.out)
        have HM2 := Lib.hid (HM1.out.below HW2.out)
        have HH2 := Lib.hid (HH1.out.below HW2.out)
        have HS2 := Lib.hid (HS1.out.below HW2.out)
        have HB2 := Lib.hid (next HB1.out HW2.out)
        clear hHeld HQ HW2 BX1 HM1 HH1 HS1 HB1 n0 n1 n2
        cases y with
        | false =>
          have HZ := Lib.hid (show -1 = z by rw [← HX2.out]; rfl)
          go_wp2_with fail
          go_ret
          exact ⟨ret_int HZ.out, HB2.out⟩
        | true =>
          have HZ := Lib.hid (show firstLack S (sealsOf f b tt P) = z by rw [← HX2.out]; rfl)
          clear HX2
          try rw [Bool.not_true]
          go_wp2_with fail
          go_loopw [8, 9] (fun r i wr => ∃ I : Nat, I ≤ P.length ∧ i = .int .i64 I ∧ r = .int .i64 0 ∧ Hid (firstLack S ((sealsOf f b tt P).drop I) = z) ∧ Hid (Below wq.heap.size wq wr)) (fun _ i _ => P.length - (intOf i).toNat)
          case atStart => exact ⟨0, Nat.zero_le _, rfl, rfl, HZ, Lib.hid (Below.refl _ _)⟩
          case round =>
            obtain ⟨I, hI, rfl, rfl, HF, HW⟩ := hrel
            have BX3 := Lib.hid (BX2.out.below HW.out)
            have HM3 := Lib.hid (HM2.out.below HW.out)
            have HS3 := Lib.hid (HS2.out.below HW.out)
            obtain ⟨q0, q1, q2, q3, q4⟩ := BX3.out.five
            by_cases hlt : I < P.length
            · have i0 : (0 : Int) ≤ (I : Int) := by omega
              have i1 : (I : Int) < (P.length : Int) := by omega
              have HDR := Lib.hid (seals_drop (f := f) (b := b) (t := tt) hlt)
              go_wp2_with fail
              refine (sof13_is f b (some ⟨pb, poff, none⟩) c P l d e M tt I hlt _ ⟨HM3.out.1.1, HM3.out.2.1, hPl⟩).mono ?_
              rintro en w5 ⟨a5, c5, rfl, o5, b5⟩
              obtain ⟨s, hs⟩ : ∃ s : SV, (⟨P.getD I 0, whomAt tt P I, f, b, a5, c5, P.drop I⟩ : SV) = s := ⟨_, rfl⟩
              have hsp : s.p = sealAt f b tt P I := by rw [← hs]; rfl
              have hsm : s.m w5 := by
                rw [← hs]
                exact ⟨(OwnI.intA o5).2.2, (OwnI.intA o5).2.1, by simp; omega⟩
              have HB5 := Lib.hid (HW.out.trans (b5.mono HW.out.size))
              have BX5 := Lib.hid (BX3.out.below b5)
              have HM5 := Lib.hid (HM3.out.below b5)
              have HS5 := Lib.hid (HS3.out.below b5)
              have HSP := Lib.hid hsp
              have HSM := Lib.hid hsm
              rw [hs]
              obtain ⟨y, hy⟩ : ∃ y, hasS S s.p = y := ⟨_, rfl⟩
              have HY5 := Lib.hid hy
              clear o5 b5 hs hsp hsm hy q0 q1 q2 q3 q4 HW BX3 HM3 HS3
              go_wp2_with fail
              refine (shas13_is S s HY5.out sa sc _ _ rfl HS5.out HSM.out hSl).mono ?_
              rintro en w6 ⟨rfl, b6⟩
              have HB6 := Lib.hid (HB5.out.trans (b6.mono HB5.out.size))
              have BX6 := Lib.hid (BX5.out.below b6)
              have HM6 := Lib.hid (HM5.out.below b6)
              have HBZ := Lib.hid (next HB2.out HB6.out)
              clear b6 HSM HS5 BX5 HM5 HB5
              cases y with
              | true =>
                have HF2 := Lib.hid (show firstLack S ((sealsOf f b tt P).drop (I + 1)) = z by rw [← HF.out, HDR.out, firstLack, if_pos (by rw [← HSP.out]; exact HY5.out)])
                go_wp2_with fail
                go_roundw
                case rel => exact ⟨I + 1, by omega, by go_num, rfl, HF2, HB6⟩
                case measure => simp [intOf]; omega
              | false =>
                have HF2 := Lib.hid (show P.getD I 0 = z by rw [← HF.out, HDR.out, firstLack, if_neg (by rw [← HSP.out, HY5.out]; decide)]; rfl)
                obtain ⟨q0, q1, q2, q3, q4⟩ := BX6.out.five
                obtain ⟨b', off', x, ea, hx, cX⟩ := HM6.out.1.1.at hlt
                obtain ⟨rfl, rfl⟩ : pb = b' ∧ poff = off' := by simpa using ea
                have HX6 := Lib.hid (show x = z by rw [← HF2.out]; simp [List.getD, hx])
                clear ea hx HF2
                go_wp2_with fail
                go_ret
                exact ⟨ret_int HX6.out, HBZ.out⟩
            · obtain rfl : I = P.length := by omega
              have HE := Lib.hid (show (0 : Int) = z by have h := HF.out; rw [show (sealsOf f b tt P).drop P.length = [] from List.drop_eq_nil_of_le (by rw [sealsOf_len]; omega)] at h; rw [← h]; rfl)
              have HBZ := Lib.hid (next HB2.out HW.out)
              go_wp2_with fail
              go_ret
              exact ⟨ret_int HE.out, HBZ.out⟩
theorem sealok_is (H : List HV) (S : List SV) (ha sa : Option Addr) (hc sc : Nat) (f b : Int) (a : Option Addr) (c : Nat) (P : List Int) (l : Int) (d : Option Addr) (e : Nat) (M : List Int) (tt : Int) {z : Bool} (hz : decide (lackM H S f b P l M tt = 0) = z) (w : World) (hH : HvA w ha H) (hHl : H.length ≤ 2000000) (hS : SlA w sa S) (hSl : S.length ≤ 2000000) (hm : RtM w a c P d e M) :
    Calls Tryd.prog 30 #[.slice ha H.length hc, .slice sa S.length sc, .agg #[.int .i64 f, .int .i64 b, .slice a P.length c, .int .i64 l, .slice d M.length e], .int .i64 tt] w fun en w' => en = .returned (.bool z) ∧ Below w.heap.size w w' := by
  obtain ⟨x, hx⟩ : ∃ x, lackM H S f b P l M tt = x := ⟨_, rfl⟩
  rw [hx] at hz
  have HX := Lib.hid hz
  have HK := Lib.hid hx
  obtain ⟨W, hW⟩ : ∃ W, w.alloc (.cells #[.int .i64 f, .int .i64 b, .slice a P.length c, .int .i64 l, .slice d M.length e] 27) = W := ⟨_, rfl⟩
  have hb : Below w.heap.size w W := by rw [← hW]; exact (Below.refl _ _).alloc (Nat.le_refl _) _
  have BX := Lib.hid (show AtY W w.heap.size [.int .i64 f, .int .i64 b, .slice a P.length c, .int .i64 l, .slice d M.length e] by rw [← hW]; exact AtY.new5 w _ _ _ _ _ _)
  have HB := Lib.hid hb
  have HM := Lib.hid (hm.below hb)
  have HH := Lib.hid (hH.below hb)
  have HS := Lib.hid (hS.below hb)
  obtain ⟨q0, q1, q2, q3, q4⟩ := BX.out.five
  clear hz hb hH hS hx hm
  go_enter Tryd.func30, Tryd.ntmps30
  go_wp2_with fail
  refine (slacks_is H S ha sa hc sc f b a c P l d e M tt HK.out _ HH.out hHl HS.out hSl HM.out).mono ?_
  rintro en w1 ⟨rfl, b1⟩
  have HB1 := Lib.hid (next HB.out b1)
  clear b1
  go_wp2_with fail
  go_ret
  exact ⟨ret_bool (by rw [← HX.out]; first | rfl | (by_cases h : x = 0 <;> simp [h])), HB1.out⟩
end Go.Proofs.YtnnmgbgkgnejlaaDoor
