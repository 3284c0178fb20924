/-
  The program's SealHas, SealLacks, SealOk.
-/
import Derived.Test.YtnnmgbgkgnejlaaDoorSlIm
import Derived.Test.YtnnmgbgkgnejlaaDoorSlLk
namespace Go.Proofs.YtnnmgbgkgnejlaaDoor
open Go.RowKit
set_option linter.unusedSimpArgs false
set_option linter.unusedVariables false

theorem firstLack_step {S : List SV} {Q : List SP} {s : SP} {I : Nat} (h : Q[I]? = some s) : firstLack S (Q.drop I) = if hasS S s then firstLack S (Q.drop (I + 1)) else s.y := by
  have hl := List.getElem?_eq_some_iff.1 h
  rw [List.drop_eq_getElem_cons hl.1, hl.2]; rfl
theorem sealsP_at {L : List SV} {I : Nat} {s : SV} (h : L[I]? = some s) : (sealsP L)[I]? = some s.p := by simp [sealsP, h]
set_option maxRecDepth 100000 in
set_option maxHeartbeats 4000000 in
theorem isealhas_is (L : List SV) (hwL : ∀ x ∈ L, SpW x.p) (s : SV) (hws : SpW s.p) {z : Bool} (hz : hasS L s.p = z) (a : Option Addr) (cap n : Nat) (w : World) (hn : n = L.length) (hA : SlA w a L) (hs : s.m w) (hl : L.length ≤ 2000000) (ht : PowS w) :
    Calls Tryd.prog 21 #[.slice a n cap, slV s] w fun e w' => e = .returned (.bool z) ∧ Below w.heap.size w w' := by
  subst hn
  obtain ⟨W, hW⟩ : ∃ W, w.alloc (.cells #[.int .i64 s.y, .int .i64 s.t, .int .i64 s.f, .int .i64 s.b, .slice s.a s.P.length s.c] 34) = W := ⟨_, rfl⟩
  have hb : Below w.heap.size w W := by rw [← hW]; exact (Below.refl _ _).alloc (Nat.le_refl _) _
  have HC := Lib.hid (show SlC W w.heap.size 0 s by rw [← hW]; exact ⟨by simp, by simp, by simp, by simp, by simp⟩)
  have HB := Lib.hid hb
  have HA := Lib.hid (hA.below hb)
  have HM := Lib.hid (hs.below hb)
  have HT := Lib.hid (ht.next hb)
  have HZ := Lib.hid ((hasS_mem L s.p).symm.trans hz)
  have HWL := Lib.hid hwL
  have HWS := Lib.hid hws
  clear hA hb hs ht hz hwL hws
  go_enter Tryd.func21, Tryd.ntmps21
  go_wp2_with fail
  refine wp_region_held_drew (S := fun Wx => (Wx.cell? ⟨w.heap.size, 0, none⟩ = some (.int .i64 s.y) ∧ Wx.cell? ⟨w.heap.size, 1, none⟩ = some (.int .i64 s.t) ∧ Wx.cell? ⟨w.heap.size, 2, none⟩ = some (.int .i64 s.f) ∧ Wx.cell? ⟨w.heap.size, 3, none⟩ = some (.int .i64 s.b) ∧ Wx.cell? ⟨w.heap.size, 4, none⟩ = some (.slice s.a s.P.length s.c)) ∧ Hid (Below W.heap.size W Wx)) (by kernel_rfl) ?_ (fun hHeld => ?_)
  · exact ⟨(by have h := HC.out; unfold SlC at h; simpa using h), Lib.hid (Below.refl _ W).drew⟩
  refine takeH (i := 0) (v := ?_) rfl rfl (by kernel_rfl) (by kernel_rfl) (by kernel_rfl) (fun _ _ _ h => h) (by rfl) ?_ (by assumption) ?_
  rotate_left 1
  · intro w hSw
    (try dsimp only at hSw)
    go_simp
    try with_reducible rfl
  try simp only [List.setIfInBounds_toArray, List.set_cons_zero, List.set_cons_succ]
  refine takeH (i := 2) (v := ?_) rfl rfl (by kernel_rfl) (by kernel_rfl) (by kernel_rfl) (fun _ _ _ h => h) (by rfl) ?_ (by assumption) ?_
  rotate_left 1
  · intro w hSw
    (try dsimp only at hSw)
    go_simp
    try with_reducible rfl
  try simp only [List.setIfInBounds_toArray, List.set_cons_zero, List.set_cons_succ]
  refine wpAnyH_ready (rs := [1]) (by kernel_rfl) (by simp) ?_
  refine AllReadyH.cons rfl (fun K hK => ?_) (AllReadyH.nil)
  go_simp
  refine (isealsin_is L HWL.out a cap _ _ rfl (HA.out.below hHeld.2.out) hl (HT.out.next hHeld.2.out)).mono ?_
  rintro en w1 ⟨bs, rfl, hS1, b1⟩
  have HS1 := Lib.hid hS1
  clear hS1
  go_wp2_with fail
  refine hK.out _ _ ?_ (fun hNew => ?_)
  · exact ⟨⟨cell_later b1 hHeld.1.1, cell_later b1 hHeld.1.2.1, cell_later b1 hHeld.1.2.2.1, cell_later b1 hHeld.1.2.2.2.1, cell_later b1 hHeld.1.2.2.2.2⟩, Lib.hid (next hHeld.2.out b1)⟩
  clear hK K hHeld
  have hHeld := hNew
  clear hNew
  try simp only [Act.put, List.setIfInBounds_toArray, List.set_cons_zero, List.set_cons_succ]
  refine wpAnyH_ready (rs := [3]) (by kernel_rfl) (by simp) ?_
  refine AllReadyH.cons rfl (fun K hK => ?_) (AllReadyH.nil)
  go_simp
  refine (ikey_is s HWS.out _ (HM.out.below hHeld.2.out) (HT.out.next hHeld.2.out)).mono ?_
  rintro en w3 ⟨rfl, b3⟩
  have HS2 := Lib.hid (HS1.out.below b3)
  go_wp2_with fail
  refine hK.out _ _ ?_ (fun hNew => ?_)
  · exact ⟨⟨cell_later b3 hHeld.1.1, cell_later b3 hHeld.1.2.1, cell_later b3 hHeld.1.2.2.1, cell_later b3 hHeld.1.2.2.2.1, cell_later b3 hHeld.1.2.2.2.2⟩, Lib.hid (next hHeld.2.out b3)⟩
  clear hK K hHeld
  have hHeld := hNew
  clear hNew
  try simp only [Act.put, List.setIfInBounds_toArray, List.set_cons_zero, List.set_cons_succ]
  refine wpAnyH_ready (rs := [4]) (by kernel_rfl) (by simp) ?_
  refine AllReadyH.cons rfl (fun K hK => ?_) (AllReadyH.nil)
  go_simp
  refine (ihass_is _ s.p HWS.out HM.out.2.2 bs _ HZ.out _ HS2.out).mono ?_
  rintro en w4 ⟨rfl, b4⟩
  go_wp2_with fail
  refine hK.out _ _ ?_ (fun hNew => ?_)
  · exact ⟨⟨cell_later b4 hHeld.1.1, cell_later b4 hHeld.1.2.1, cell_later b4 hHeld.1.2.2.1, cell_later b4 hHeld.1.2.2.2.1, cell_later b4 hHeld.1.2.2.2.2⟩, Lib.hid (next hHeld.2.out b4)⟩
  clear hK K hHeld
  have hHeld := hNew
  clear hNew
  try simp only [Act.put, List.setIfInBounds_toArray, List.set_cons_zero, List.set_cons_succ]
  refine takeH (i := 5) (v := ?_) rfl rfl (by kernel_rfl) (by kernel_rfl) (by kernel_rfl) (fun _ _ _ h => h) (by rfl) ?_ (by assumption) ?_
  rotate_left 1
  · intro w hSw
    (try dsimp only at hSw)
    go_simp
    try with_reducible rfl
  try simp only [List.setIfInBounds_toArray, List.set_cons_zero, List.set_cons_succ]
  refine wpAnyH_done (by kernel_rfl) ?_ _
  have HF := Lib.hid (next HB.out hHeld.2.out)
  clear hHeld
  go_wp2_with fail
  go_ret
  exact ⟨rfl, HF.out⟩
set_option maxRecDepth 100000 in
set_option maxHeartbeats 4000000 in
theorem islacks_is (H : List HV) (S : List SV) (hw : ∀ x ∈ S, SpW x.p) (ha sa : Option Addr) (hc sc : Nat) (f b : Int) (a : Option Addr) (c : Nat) (P : List Int) (l : Int) (d : Option Addr) (e : Nat) (M : List Int) (tt : Int) {z : Int} (hz : lackM H S f b P l M tt = z) (w : World) (p : Addr) (hH : HvA w ha H) (hHl : H.length ≤ 2000000) (hS : SlA w sa S) (hSl : S.length ≤ 2000000) (hm : RtM w a c P d e M) (hE : EV w p) (ht : PowS w) :
    Calls Tryd.prog 25 #[.slice ha H.length hc, .slice sa S.length sc, .agg #[.int .i64 f, .int .i64 b, .slice a P.length c, .int .i64 l, .slice d M.length e], .int .i64 tt] w fun en w' => en = .returned (.int .i64 z) ∧ Below w.heap.size w w' := by
  have HX := Lib.hid hz
  have hPl := hm.2.2.2.1
  obtain ⟨W, hW⟩ : ∃ W, w.alloc (.cells #[.int .i64 f, .int .i64 b, .slice a P.length c, .int .i64 l, .slice d M.length e] 27) = W := ⟨_, rfl⟩
  have hb : Below w.heap.size w W := by rw [← hW]; exact (Below.refl _ _).alloc (Nat.le_refl _) _
  have BX := Lib.hid (show AtY W w.heap.size [.int .i64 f, .int .i64 b, .slice a P.length c, .int .i64 l, .slice d M.length e] by rw [← hW]; exact AtY.new5 w _ _ _ _ _ _)
  have HB := Lib.hid hb
  have HM := Lib.hid (hm.below hb)
  have HH := Lib.hid (hH.below hb)
  have HS := Lib.hid (hS.below hb)
  have HE := Lib.hid (hE.below hb)
  have HT := Lib.hid (ht.next hb)
  have HWS := Lib.hid hw
  obtain ⟨q0, q1, q2, q3, q4⟩ := BX.out.five
  clear hz hb hH hS hm hE ht hw
  go_enter Tryd.func25, Tryd.ntmps25
  go_wp2_with fail
  refine (isealmake_is f b a c P l d e M tt rfl _ p HM.out HE.out).mono ?_
  rintro en w1 ⟨v, L, rfl, hR, hQ, hsm, b1⟩
  obtain ⟨la, lc, rfl, _⟩ := OwnSl.tab hR.row
  have HB1 := Lib.hid (next HB.out b1)
  have HW1 := Lib.hid b1
  have BX1 := Lib.hid (BX.out.below b1)
  have HLA := Lib.hid (SlR.sla hR (fun x hx => by have := hsm x hx; omega))
  have HQ := Lib.hid hQ
  clear b1 hR hsm hQ q0 q1 q2 q3 q4 BX hW
  obtain ⟨q0, q1, q2, q3, q4⟩ := BX1.out.five
  cases hk : tellB f b P l M tt with
  | false =>
    obtain rfl : L = [] := by
      have h := HQ.out
      rw [makeS, hk] at h
      cases L with
      | nil => rfl
      | cons x L => simp [sealsP] at h
    have HZ := Lib.hid (show -2 = z by rw [← HX.out, lackM, hk]; rfl)
    go_wp2_with fail
    go_ret
    exact ⟨ret_int HZ.out, HB1.out⟩
  | true =>
    have hP0 := rtOk_path (tellB_rt hk).1
    have hLQ : sealsP L = sealsOf f b tt P := by rw [HQ.out, makeS, hk]; rfl
    have hLl : L.length = P.length := by have h := congrArg List.length hLQ; rw [sealsOf_len, sealsP, List.length_map] at h; exact h
    have HWL := Lib.hid (makeS_w HQ.out)
    obtain ⟨g, hg⟩ : ∃ g, L[L.length - 1]? = some g := ⟨_, List.getElem?_eq_getElem (by omega)⟩
    have hgy : g.y = P.getD (P.length - 1) 0 := by
      have h1 := sealsP_at hg
      rw [hLQ, sealsOf_at f b tt P _ (by omega)] at h1
      have h2 : sealAt f b tt P (L.length - 1) = g.p := by simpa using h1
      have h3 : (sealAt f b tt P (L.length - 1)).y = g.y := by rw [h2]; rfl
      rw [← h3, hLl]; rfl
    obtain ⟨gb, go, rfl, hgc, _⟩ := HLA.out.at hg
    obtain ⟨c0, _⟩ := hgc
    obtain ⟨x, hx⟩ : ∃ x, holdsB H g.y f b = x := ⟨_, rfl⟩
    have HHx := Lib.hid hx
    have HZ := Lib.hid (show (if x then firstLack S (sealsP L) else -1) = z by rw [← HX.out, lackM, hk, ← hgy, hx, hLQ]; rfl)
    have e0 : ((L.length : Int) == 0) = false := by rw [beq_eq_false_iff_ne]; omega
    have hL5 : L.length ≤ 2000000 := by omega
    obtain ⟨K, hK⟩ : ∃ K, L.length = K + 1 := ⟨L.length - 1, by omega⟩
    have ek : IntKind.i64.wrap ((L.length : Int) - 1) = (K : Int) := by rw [IntKind.wrap_i64]; omega
    have i0 : (0 : Int) ≤ (K : Int) := by omega
    have i1 : (K : Int) < (L.length : Int) := by omega
    rw [hK, Nat.add_sub_cancel] at c0
    clear hk hP0 hLQ hLl hg hgy hx hK
    go_wp2_with fail
    refine (iholdhas_is H g.y f b HHx.out ha hc _ _ rfl (HH.out.below HW1.out) hHl).mono ?_
    rintro en w2 ⟨rfl, b2⟩
    have HW2 := Lib.hid (next HW1.out b2)
    have HB2 := Lib.hid (next HB1.out b2)
    have HL2 := Lib.hid (HLA.out.below b2)
    clear b2 c0 q0 q1 q2 q3 q4 ek i0 i1
    cases x with
    | false =>
      go_wp2_with fail
      go_ret
      exact ⟨ret_int HZ.out, HB2.out⟩
    | true =>
      go_wp2_with fail
      refine (isealsin_is S HWS.out sa sc _ _ rfl (HS.out.below HW2.out) hSl (HT.out.next HW2.out)).mono ?_
      rintro en w3 ⟨bs, rfl, hS3, b3⟩
      have H3 := Lib.hid (show SetS w3 (sealsP S) bs S.length ∧ Below w.heap.size w w3 ∧ Below W.heap.size W w3 ∧ SlA w3 (some ⟨gb, go, none⟩) L from ⟨hS3, next HB2.out b3, next HW2.out b3, HL2.out.below b3⟩)
      have HZ0 := Lib.hid (show firstLack S ((sealsP L).drop 0) = z from HZ.out)
      clear hS3 b3
      go_wp2_with fail
      go_loopw [37] (fun i wr => ∃ I : Nat, I ≤ L.length ∧ i = .int .i64 I ∧ Hid (firstLack S ((sealsP L).drop I) = z) ∧ Hid (SetS wr (sealsP S) bs S.length ∧ Below w.heap.size w wr ∧ Below W.heap.size W wr ∧ SlA wr (some ⟨gb, go, none⟩) L)) (fun i _ => L.length - (intOf i).toNat)
      case atStart => exact ⟨0, Nat.zero_le _, rfl, HZ0, H3⟩
      case round =>
        clear HZ0 H3
        obtain ⟨I, hI, rfl, HF, HW⟩ := hrel
        by_cases hlt : I < L.length
        · obtain ⟨s, hs⟩ : ∃ s, L[I]? = some s := ⟨_, List.getElem?_eq_getElem hlt⟩
          obtain ⟨b0, o0, e5, hc5, hm5⟩ := HW.out.2.2.2.at hs
          obtain ⟨rfl, rfl⟩ : gb = b0 ∧ go = o0 := by simpa using e5
          have HSs := Lib.hid (HWL.out s (List.mem_of_getElem? hs))
          have HMs := Lib.hid hm5
          have HST := Lib.hid ((firstLack_step (S := S) (sealsP_at hs)).symm.trans HF.out)
          have j0 : (0 : Int) ≤ (I : Int) := by omega
          have j1 : (I : Int) < (L.length : Int) := by omega
          obtain ⟨q0, q1, q2, q3, q4⟩ := hc5
          clear hs hm5 e5
          go_wp2_with (refine wpList_stY rfl 34 _ _ rfl wr.heap.size #[.int .i64 s.y, .int .i64 s.t, .int .i64 s.f, .int .i64 s.b, .slice s.a s.P.length s.c] ?x2 ?y2 ?o2 ?i2 _ (AtY.new5 wr _ _ _ _ _ _) rfl ?g2)
          try case x2 => simp [Act.eval]
          try case y2 => simp [Act.eval]
          try case o2 => simp [Value.oneCell']
          try case i2 => rfl
          intro w4 a4 g4
          have bb : Below wr.heap.size wr w4 := ((Below.refl wr.heap.size wr).alloc (Nat.le_refl _) _).grown g4 (by simp) (fun k hk => by cases hk; exact Nat.le_refl _)
          have HW4 := Lib.hid (show SetS w4 (sealsP S) bs S.length ∧ Below w.heap.size w w4 ∧ Below W.heap.size W w4 ∧ SlA w4 (some ⟨gb, go, none⟩) L from ⟨HW.out.1.below bb, next HW.out.2.1 bb, next HW.out.2.2.1 bb, HW.out.2.2.2.below bb⟩)
          have HM4 := Lib.hid (SV.m.below HMs.out bb)
          have HA4 := Lib.hid a4
          obtain ⟨r0, r1, r2, r3, r4⟩ := a4.five
          clear a4 g4 bb q0 q1 q2 q3 q4
          go_wp2_with fail
          refine (ikey_is s HSs.out _ HM4.out (HT.out.next HW4.out.2.2.1)).mono ?_
          rintro en w5 ⟨rfl, b5⟩
          have HW5 := Lib.hid (show SetS w5 (sealsP S) bs S.length ∧ Below w.heap.size w w5 ∧ Below W.heap.size W w5 ∧ SlA w5 (some ⟨gb, go, none⟩) L from ⟨HW4.out.1.below b5, next HW4.out.2.1 b5, next HW4.out.2.2.1 b5, HW4.out.2.2.2.below b5⟩)
          have HA5 := Lib.hid (HA4.out.below b5)
          clear b5 r0 r1 r2 r3 r4
          obtain ⟨y, hy⟩ : ∃ y, hasS S s.p = y := ⟨_, rfl⟩
          have HY := Lib.hid ((hasS_mem S s.p).symm.trans hy)
          rw [hy] at HST
          clear hy
          go_wp2_with fail
          refine (ihass_is _ s.p HSs.out HMs.out.2.2 bs _ HY.out _ HW5.out.1).mono ?_
          rintro en w6 ⟨rfl, b6⟩
          have HW6 := Lib.hid (show SetS w6 (sealsP S) bs S.length ∧ Below w.heap.size w w6 ∧ Below W.heap.size W w6 ∧ SlA w6 (some ⟨gb, go, none⟩) L from ⟨HW5.out.1.below b6, next HW5.out.2.1 b6, next HW5.out.2.2.1 b6, HW5.out.2.2.2.below b6⟩)
          have HA6 := Lib.hid (HA5.out.below b6)
          clear b6
          cases y with
          | true =>
            go_wp2_with fail
            go_roundw
            case rel => exact ⟨I + 1, by omega, by go_num, Lib.hid HST.out, HW6⟩
            case measure => simp [intOf]; omega
          | false =>
            obtain ⟨r0, r1, r2, r3, r4⟩ := HA6.out.five
            go_wp2_with fail
            go_ret
            exact ⟨ret_int HST.out, HW6.out.2.1⟩
        · obtain rfl : I = L.length := by omega
          have HE0 := Lib.hid (show 0 = z by have h := HF.out; rw [List.drop_eq_nil_of_le (by simp [sealsP])] at h; exact h)
          go_wp2_with fail
          go_ret
          exact ⟨ret_int HE0.out, HW.out.2.1⟩
set_option maxHeartbeats 2000000 in
theorem isealok_is (H : List HV) (S : List SV) (hw : ∀ x ∈ S, SpW x.p) (ha sa : Option Addr) (hc sc : Nat) (f b : Int) (a : Option Addr) (c : Nat) (P : List Int) (l : Int) (d : Option Addr) (e : Nat) (M : List Int) (tt : Int) {z : Bool} (hz : decide (lackM H S f b P l M tt = 0) = z) (w : World) (p : Addr) (hH : HvA w ha H) (hHl : H.length ≤ 2000000) (hS : SlA w sa S) (hSl : S.length ≤ 2000000) (hm : RtM w a c P d e M) (hE : EV w p) (ht : PowS w) :
    Calls Tryd.prog 28 #[.slice ha H.length hc, .slice sa S.length sc, .agg #[.int .i64 f, .int .i64 b, .slice a P.length c, .int .i64 l, .slice d M.length e], .int .i64 tt] w fun en w' => en = .returned (.bool z) ∧ Below w.heap.size w w' := by
  obtain ⟨x, hx⟩ : ∃ x, lackM H S f b P l M tt = x := ⟨_, rfl⟩
  rw [hx] at hz
  have HX := Lib.hid hz
  have HK := Lib.hid hx
  obtain ⟨W, hW⟩ : ∃ W, w.alloc (.cells #[.int .i64 f, .int .i64 b, .slice a P.length c, .int .i64 l, .slice d M.length e] 27) = W := ⟨_, rfl⟩
  have hb : Below w.heap.size w W := by rw [← hW]; exact (Below.refl _ _).alloc (Nat.le_refl _) _
  have BX := Lib.hid (show AtY W w.heap.size [.int .i64 f, .int .i64 b, .slice a P.length c, .int .i64 l, .slice d M.length e] by rw [← hW]; exact AtY.new5 w _ _ _ _ _ _)
  have HB := Lib.hid hb
  have HM := Lib.hid (hm.below hb)
  have HH := Lib.hid (hH.below hb)
  have HS := Lib.hid (hS.below hb)
  have HE := Lib.hid (hE.below hb)
  have HT := Lib.hid (ht.next hb)
  obtain ⟨q0, q1, q2, q3, q4⟩ := BX.out.five
  clear hz hb hH hS hx hm hE ht
  go_enter Tryd.func28, Tryd.ntmps28
  go_wp2_with fail
  refine (islacks_is H S hw ha sa hc sc f b a c P l d e M tt HK.out _ p HH.out hHl HS.out hSl HM.out HE.out HT.out).mono ?_
  rintro en w1 ⟨rfl, b1⟩
  have HB1 := Lib.hid (next HB.out b1)
  clear b1
  go_wp2_with fail
  go_ret
  exact ⟨ret_bool (by rw [← HX.out]; first | rfl | (by_cases h : x = 0 <;> simp [h])), HB1.out⟩
end Go.Proofs.YtnnmgbgkgnejlaaDoor
