/-
  Drawn: holdings, seals, a route and a house (l92Sealed), with bounds of the route's numbers.
-/
import Derived.Test.YtnnmgbgkgnejlaaDoorSlDw
import Derived.Test.YtnnmgbgkgnejlaaDoorRtDi
namespace Go.Proofs.YtnnmgbgkgnejlaaDoor
open Go.RowKit
set_option linter.unusedSimpArgs false
set_option linter.unusedVariables false

/-- a path that lies in an own one, and its numbers fit -/
def PathIv (w : World) (R : Nat) (a' : Option Addr) (c' : Nat) (P' : List Int) : Prop := ∃ (a : Option Addr) (c : Nat) (P : List Int), OwnI w R (.slice a P.length c) P ∧ (∀ W, IntA W a P → IntA W a' P') ∧ P'.length ≤ c' ∧ ∀ y ∈ P', Iv y
/-- what is drawn -/
def SealedI (w : World) (B p : Nat) (en : Ending) (w' : World) : Prop := ∃ (f b l t : Int) (P M : List Int) (a : Option Addr) (c : Nat) (d : Option Addr) (e : Nat) (al : Option Addr) (cl : Nat) (L : List SV) (ah : Option Addr) (ch : Nat) (H : List HV) (p' : Nat),
  en = .returned (.tuple #[.slice ah H.length ch, .slice al L.length cl, .agg #[.int .i64 f, .int .i64 b, .slice a P.length c, .int .i64 l, .slice d M.length e], .int .i64 t]) ∧
  (H.length ≤ 5 ∧ L.length ≤ 12 ∧ P.length ≤ 6 ∧ M.length ≤ 11 ∧ 0 ≤ t ∧ t ≤ 6 ∧ (∀ x ∈ L, Sx x) ∧ Iv f ∧ Iv b) ∧
  (OwnHv w' w.heap.size (.slice ah H.length ch) H ∧ SlO w' w.heap.size (.slice al L.length cl) L ∧ PathIv w' w.heap.size a c P ∧ OwnI w' w.heap.size (.slice d M.length e) M) ∧ Rd w' B p' ∧ p' ≤ p + 272 ∧ w.grownBy w' (some B)
/-- behind the switch -/
def Fin13I (w : World) (B q R3 X R1 : Nat) (al : Option Addr) (cl : Nat) (L : List SV) (ah : Option Addr) (ch : Nat) (H : List HV) (a' : Option Addr) (c' : Nat) (P' : List Int) (f b l : Int) (d : Option Addr) (e : Nat) (M : List Int) (wx : World) : Prop :=
  (∃ q', Rd wx B q' ∧ q' ≤ q) ∧ w.grownBy wx (some B) ∧ SlO wx R3 (.slice al L.length cl) L ∧ OwnHv wx R3 (.slice ah H.length ch) H ∧ (∀ x ∈ L, Sx x) ∧ AtY wx X [.int .i64 f, .int .i64 b, .slice a' P'.length c', .int .i64 l, .slice d M.length e] ∧ PathIv wx R1 a' c' P' ∧ OwnI wx R1 (.slice d M.length e) M ∧ AtY wx w.heap.size [.int .i64 0, .int .i64 0, .slice none 0 0, .int .i64 0, .slice none 0 0]
set_option maxRecDepth 100000 in
set_option maxHeartbeats 4000000 in
theorem sealed_iv (w : World) (B p : Nat) (hp : p < 100000) (hr : Rd w B p) :
    Calls Tryd.prog 64 #[.pointer (some ⟨B, 0, none⟩)] w (SealedI w B p) := by
  have hBw := rd_lt hr
  have HR := Lib.hid hr
  obtain ⟨w1, hW⟩ : ∃ W, w.alloc (.cells #[.int .i64 0, .int .i64 0, .slice none 0 0, .int .i64 0, .slice none 0 0] 27) = W := ⟨_, rfl⟩
  have HR1 := Lib.hid (show Rd w1 B p by rw [← hW]; exact rd_alloc hr _)
  have HG1 := Lib.hid (show w.grownBy w1 (some B) by rw [← hW]; exact only_alloc (World.grownBy.refl w (some B)) _)
  have hs1 : w1.heap.size = w.heap.size + 1 := by rw [← hW]; simp
  have HZ1 := Lib.hid (show AtY w1 w.heap.size [.int .i64 0, .int .i64 0, .slice none 0 0, .int .i64 0, .slice none 0 0] by rw [← hW]; exact AtY.new5 w _ _ _ _ _ _)
  have HS1 := Lib.hid hs1
  clear hr
  go_enter Tryd.func64, Tryd.ntmps64
  go_wp2_with fail
  refine (route_iv _ B p (by omega) HR1.out).mono ?_
  rintro en w2 ⟨f, b, l, P, M, pv, mv, q2, rfl, ⟨hlP, hlM⟩, hiv, ⟨o1, o2⟩, hr2, hq2, hg2⟩
  have HIV := Lib.hid hiv
  clear hiv
  obtain ⟨a, c, rfl, _, _⟩ := OwnI.tab o1
  obtain ⟨d, e, rfl, _, _⟩ := OwnI.tab o2
  have HG2 := Lib.hid (only_on HG1.out hg2)
  have HO1 := Lib.hid o1
  have HO2 := Lib.hid o2
  have HR2 := Lib.hid hr2
  have HZ2 := Lib.hid (HZ1.out.only hg2 (by simp; omega))
  have HQ2 := Lib.hid hq2
  have hs2 := hg2.size
  clear hr2 hg2 o1 o2 hs1 HZ1 HR1 HG1 hq2
  obtain ⟨w3, hW3⟩ : ∃ W, w2.alloc (.cells #[.int .i64 f, .int .i64 b, .slice a P.length c, .int .i64 l, .slice d M.length e] 27) = W := ⟨_, rfl⟩
  have hk3 : Below w2.heap.size w2 w3 := by rw [← hW3]; exact (Below.refl _ _).alloc (Nat.le_refl _) _
  have HX3 := Lib.hid (show AtY w3 w2.heap.size [.int .i64 f, .int .i64 b, .slice a P.length c, .int .i64 l, .slice d M.length e] by rw [← hW3]; exact AtY.new5 w2 _ _ _ _ _ _)
  have HO3 := Lib.hid (And.intro (owni_later HO1.out hk3) (owni_later HO2.out hk3))
  have HZ3 := Lib.hid (HZ2.out.below hk3)
  have LTP := Lib.hid (And.intro (OwnI.btw HO1.out) (OwnI.btw HO2.out))
  have HI3 := Lib.hid (show SdI w3 B (p + 50) w3 from ⟨⟨q2, by rw [← hW3]; exact rd_alloc HR2.out _, HQ2.out⟩, World.grownBy.refl _ _⟩)
  have HG3 := Lib.hid (show w.grownBy w3 (some B) by rw [← hW3]; exact only_alloc HG2.out _)
  have HS3 := Lib.hid (show w3.heap.size = w2.heap.size + 1 by rw [← hW3]; simp)
  have hlt3 : w2.heap.size < w3.heap.size := by have := HS3.out; omega
  have hlow : w.heap.size < w2.heap.size := by have := HS1.out; omega
  clear hk3 HO1 HO2 HZ2 HR2 HQ2 HG2 hs2
  go_wp2_with fail
  clear hW3
  obtain ⟨q', hr', hq'⟩ := HI3.out.rd
  refine (pick_any 5 _ B q' (by omega) (by omega) hr').mono ?_
  rintro en w4 ⟨y, y0, y1, rfl, hr4, hg4⟩
  have iy : IntKind.i64.wrap (1 + y) = 1 + y := by rw [IntKind.wrap_i64]; omega
  have HI4 := Lib.hid (HI3.out.pick hr4 hg4 (r := p + 51) (by omega))
  clear hr4 hg4 hr' hq' HI3
  go_upto_block 0 with fail
  go_cut [7, 8] from 18 (fun tt n wx => ∃ t : Int, tt = .int .i64 t ∧ 1 ≤ t ∧ t ≤ 5 ∧ Hid (SdI w3 B (p + 57) wx))
  case first =>
    go_wp2_with fail
    go_loopw [7, 8] (fun tt n wr => ∃ (t : Int) (N : Nat), tt = .int .i64 t ∧ n = .int .i64 (N : Int) ∧ N ≤ 6 ∧ 1 ≤ t ∧ t ≤ 5 ∧ Hid (SdI w3 B (p + 51 + N) wr)) (fun _ n _ => 6 - (intOf n).toNat)
    case atStart => exact ⟨1 + y, 0, rfl, rfl, by omega, by omega, by omega, HI4⟩
    case round =>
      clear HI4 iy y0 y1
      obtain ⟨t, N, rfl, rfl, hN, t1, t5, HI⟩ := hrel
      have HXr := Lib.hid (HX3.out.only HI.out.gr (by simp; omega))
      have HOr := Lib.hid (And.intro (owni_pick HO3.out.1 HI.out.gr (by have := HS1.out; omega)) (owni_pick HO3.out.2 HI.out.gr (by have := HS1.out; omega)))
      obtain ⟨q0, q1, q2, q3, q4⟩ := HXr.out.five
      by_cases hN6 : N < 6
      · have i1 : (N : Int) < 6 := by omega
        go_wp2_with fail
        cases hp2 : decide (t ∈ P) with
        | true =>
          refine (pshas_is hp2 a c _ _ rfl (OwnI.intA HOr.out.1).2.2 (by omega)).mono ?_
          rintro en wq ⟨rfl, rfl⟩
          clear hp2
          obtain ⟨q', hr', hq'⟩ := HI.out.rd
          go_wp2_with fail
          refine (pick_any 5 _ B q' (by omega) (by omega) hr').mono ?_
          rintro en w5 ⟨y, y0, y1, rfl, hr5, hg5⟩
          have iy : IntKind.i64.wrap (1 + y) = 1 + y := by rw [IntKind.wrap_i64]; omega
          have HI5 := Lib.hid (HI.out.pick hr5 hg5 (r := p + 51 + (N + 1)) (by omega))
          clear hr5 hg5 hr' hq' HI HXr HOr q0 q1 q2 q3 q4
          go_wp2_with fail
          go_roundw
          case rel => exact ⟨1 + y, N + 1, rfl, by go_num, by omega, by omega, by omega, HI5⟩
          case measure => simp [intOf]; omega
        | false =>
          refine (pshas_is hp2 a c _ _ rfl (OwnI.intA HOr.out.1).2.2 (by omega)).mono ?_
          rintro en wq ⟨rfl, rfl⟩
          clear hp2
          have HIe := Lib.hid (HI.out.le (r := p + 57) (by omega))
          go_wp2_with fail
          go_meet
          exact ⟨t, rfl, t1, t5, HIe⟩
      · have i1 : ¬ (N : Int) < 6 := by omega
        have HIe := Lib.hid (HI.out.le (r := p + 57) (by omega))
        go_wp2_with fail
        go_meet
        exact ⟨t, rfl, t1, t5, HIe⟩
  case rest =>
    obtain ⟨t, rfl, t1, t5, HI⟩ := hcut
    clear HI4 iy y0 y1
    have hsc := HI.out.gr.size
    have HXc := Lib.hid (HX3.out.only HI.out.gr (by simp; omega))
    have HOc := Lib.hid (And.intro (owni_pick HO3.out.1 HI.out.gr (by have := HS1.out; omega)) (owni_pick HO3.out.2 HI.out.gr (by have := HS1.out; omega)))
    obtain ⟨q0, q1, q2, q3, q4⟩ := HXc.out.five
    go_wp2_with fail
    refine (ssealmake_is f b a c P l d e M t rfl _ (rtm_own HOc.out.1 HOc.out.2 (by omega) (by omega))).mono ?_
    rintro en w5 ⟨v5, L5, rfl, hR5, hQ5, hP5, b5⟩
    have hL5 : L5.length ≤ 6 := by
      have h1 := makeS_len f b P l M t
      rw [← hQ5, sealsP, List.length_map] at h1
      omega
    obtain ⟨a5, c5, rfl, hc5⟩ := OwnSl.tab hR5.row
    obtain ⟨q5, hr5, hq5⟩ := HI.out.rd
    have HI5 := Lib.hid (show SdI w3 B (p + 57) w5 from ⟨⟨q5, rd_below hr5 b5, hq5⟩, only_below HI.out.gr b5⟩)
    have HL5 := Lib.hid (And.intro (hR5.slo.mono hsc) (show ∀ x ∈ L5, Sx x from fun x hx => ⟨by have := hP5 x hx; omega, makeS_w hQ5 x hx⟩))
    clear hR5 hQ5 hP5 b5 hr5 hq5 HI HXc HOc q0 q1 q2 q3 q4
    obtain ⟨q5', hr5, hq5⟩ := HI5.out.rd
    go_wp2_with fail
    refine (holds_any _ B q5' (by omega) hr5).mono ?_
    rintro en w6 ⟨H6, v6, q6, rfl, hH6, hO6, hr6, hq6, hg6⟩
    have hs5 := HI5.out.gr.size
    have HI6 := Lib.hid (HI5.out.pick hr6 hg6 (r := p + 57 + 161) (by omega))
    have HL6 := Lib.hid (And.intro (HL5.out.1.pick hg6 (by omega)) HL5.out.2)
    have HH6 := Lib.hid (World.ownsRow.mono hO6 hs5)
    obtain ⟨a6, c6, rfl, hc6⟩ := OwnHv.tab hO6
    clear hO6 hr6 hg6 hr5 hq5 HI5 HL5 hsc hs5
    go_upto_region 9 with fail
    go_cut [44] from 36 (fun cnd wx => ∃ z : Bool, cnd = .bool z ∧ (z = true → 0 < P.length) ∧ Hid (SdI w6 B (p + 219) wx))
    case first =>
      have HX6 := Lib.hid (HX3.out.only HI6.out.gr (by simp; omega))
      obtain ⟨q0, q1, q2, q3, q4⟩ := HX6.out.five
      obtain ⟨q7, hr7, hq7⟩ := HI6.out.rd
      by_cases hp0 : 0 < P.length
      · have i1 : (0 : Int) < (P.length : Int) := by omega
        go_wp2_with fail
        refine (pick_any 6 _ B q7 (by omega) (by omega) hr7).mono ?_
        rintro en w7 ⟨y, y0, y1, rfl, hr8, hg8⟩
        have HI7 := Lib.hid (show SdI w6 B (p + 219) w7 from ⟨⟨q7 + 1, hr8, by omega⟩, hg8⟩)
        clear hr8 hg8 hr7 hq7
        by_cases hy : 0 < y
        · go_wp2_with fail
          go_meet
          exact ⟨true, rfl, fun _ => hp0, HI7⟩
        · go_wp2_with fail
          go_meet
          exact ⟨_, rfl, (fun h => by have := of_decide_eq_true h; omega), HI7⟩
      · have i1 : ¬ (0 : Int) < (P.length : Int) := by omega
        have HI7 := Lib.hid (show SdI w6 B (p + 219) w6 from ⟨⟨q7, hr7, by omega⟩, World.grownBy.refl _ _⟩)
        clear hr7 hq7
        go_wp2_with fail
        go_meet
        exact ⟨false, rfl, (fun h => by cases h), HI7⟩
    case rest =>
      obtain ⟨z, rfl, hz, HIx⟩ := hcut
      have hs6 := HI6.out.gr.size
      have HI7 := Lib.hid (HI6.out.on HIx.out)
      have HL7 := Lib.hid (And.intro (HL6.out.1.pick HIx.out.gr (by omega)) HL6.out.2)
      have HH7 := Lib.hid (OwnHv.pick HH6.out HIx.out.gr (by omega))
      clear HIx HI6 HL6 HH6 hs6
      obtain ⟨w7, hw7⟩ : ∃ W, W = wc := ⟨_, rfl⟩
      subst hw7
      have hs7 := HI7.out.gr.size
      go_upto_if 44 with fail
      go_cut [10] from 45 (fun hs wx => ∃ (ah : Option Addr) (ch : Nat) (H : List HV), hs = .slice ah H.length ch ∧ H.length ≤ 5 ∧ Hid (SdI w3 B (p + 219) wx ∧ SlO wx w3.heap.size (.slice a5 L5.length c5) L5 ∧ OwnHv wx w3.heap.size (.slice ah H.length ch) H))
      case first =>
        cases z with
        | false =>
          go_wp2_with fail
          go_meet
          exact ⟨a6, c6, H6, rfl, by omega, Lib.hid ⟨HI7.out, HL7.out.1, HH7.out⟩⟩
        | true =>
          have hp0 := hz rfl
          clear hz
          obtain ⟨pb, poff, h, rfl, hget, cP⟩ := (OwnI.intA HO3.out.1).2.2.at (show P.length - 1 < P.length by omega)
          have hpb : w1.heap.size ≤ pb := (HO3.out.1.lt pb rfl).1
          have n0 : IntKind.i64.wrap ((P.length : Int) - 1) = ((P.length - 1 : Nat) : Int) := by rw [IntKind.wrap_i64]; omega
          have n1 : (0 : Int) ≤ ((P.length - 1 : Nat) : Int) := by omega
          have n2 : ((P.length - 1 : Nat) : Int) < (P.length : Int) := by omega
          have HALL := Lib.hid (show ∀ Wx, w3.grownBy Wx (some B) → (Wx.cell? ⟨w2.heap.size, 0, none⟩ = some (.int .i64 f) ∧ Wx.cell? ⟨w2.heap.size, 1, none⟩ = some (.int .i64 b) ∧ Wx.cell? ⟨w2.heap.size, 2, none⟩ = some (.slice (some ⟨pb, poff, none⟩) P.length c) ∧ Wx.cell? ⟨w2.heap.size, 3, none⟩ = some (.int .i64 l) ∧ Wx.cell? ⟨w2.heap.size, 4, none⟩ = some (.slice d M.length e)) ∧ Wx.cell? ⟨pb, poff + (P.length - 1), none⟩ = some (.int .i64 h) from fun Wx g => ⟨(HX3.out.only g (by simp; omega)).five, only_cell g cP (by have := HS1.out; omega)⟩)
          have HQ := Lib.hid (HALL.out _ HI7.out.gr)
          clear hget cP
          go_wp2_with fail
          refine wp_region_held_drew (S := fun Wx => ((Wx.cell? ⟨w2.heap.size, 0, none⟩ = some (.int .i64 f) ∧ Wx.cell? ⟨w2.heap.size, 1, none⟩ = some (.int .i64 b) ∧ Wx.cell? ⟨w2.heap.size, 2, none⟩ = some (.slice (some ⟨pb, poff, none⟩) P.length c) ∧ Wx.cell? ⟨w2.heap.size, 3, none⟩ = some (.int .i64 l) ∧ Wx.cell? ⟨w2.heap.size, 4, none⟩ = some (.slice d M.length e)) ∧ Wx.cell? ⟨pb, poff + (P.length - 1), none⟩ = some (.int .i64 h)) ∧ Hid (w3.grownBy Wx (some B))) (by kernel_rfl) ?_ (fun hHeld => ?_)
          · exact ⟨HQ.out, Lib.hid (show w3.grownBy w7.drew (some B) from only_drew HI7.out.gr)⟩
          refine takeH (i := 0) (v := ?_) rfl rfl (by kernel_rfl) (by kernel_rfl) (by kernel_rfl) (fun _ _ _ h => h) (by rfl) ?_ (by assumption) ?_
          rotate_left 1
          · intro w hSw
            (try dsimp only at hSw)
            go_simp
            try with_reducible rfl
          try simp only [List.setIfInBounds_toArray, List.set_cons_zero, List.set_cons_succ]
          refine takeH (i := 1) (v := ?_) rfl rfl (by kernel_rfl) (by kernel_rfl) (by kernel_rfl) (fun _ _ _ h => h) (by rfl) ?_ (by assumption) ?_
          rotate_left 1
          · intro w hSw
            (try dsimp only at hSw)
            go_simp
            try with_reducible rfl
          try simp only [List.setIfInBounds_toArray, List.set_cons_zero, List.set_cons_succ]
          refine takeH (i := 2) (v := ?_) rfl rfl (by kernel_rfl) (by kernel_rfl) (by kernel_rfl) (fun _ _ _ h => h) (by rfl) ?_ (by assumption) ?_
          rotate_left 1
          · intro w hSw
            (try dsimp only at hSw)
            go_simp
            try with_reducible rfl
          try simp only [List.setIfInBounds_toArray, List.set_cons_zero, List.set_cons_succ]
          refine takeH (i := 3) (v := ?_) rfl rfl (by kernel_rfl) (by kernel_rfl) (by kernel_rfl) (fun _ _ _ h => h) (by rfl) ?_ (by assumption) ?_
          rotate_left 1
          · intro w hSw
            (try dsimp only at hSw)
            go_simp
            try with_reducible rfl
          try simp only [List.setIfInBounds_toArray, List.set_cons_zero, List.set_cons_succ]
          refine takeH (i := 4) (v := ?_) rfl rfl (by kernel_rfl) (by kernel_rfl) (by kernel_rfl) (fun _ _ _ h => h) (by rfl) ?_ (by assumption) ?_
          rotate_left 1
          · intro w hSw
            (try dsimp only at hSw)
            go_simp
            try with_reducible rfl
          try simp only [List.setIfInBounds_toArray, List.set_cons_zero, List.set_cons_succ]
          refine takeH (i := 5) (v := ?_) rfl rfl (by kernel_rfl) (by kernel_rfl) (by kernel_rfl) (fun _ _ _ h => h) (by rfl) ?_ (by assumption) ?_
          rotate_left 1
          · intro w hSw
            (try dsimp only at hSw)
            go_simp
            try with_reducible rfl
          try simp only [List.setIfInBounds_toArray, List.set_cons_zero, List.set_cons_succ]
          refine takeH (i := 6) (v := ?_) rfl rfl (by kernel_rfl) (by kernel_rfl) (by kernel_rfl) (fun _ _ _ h => h) (by rfl) ?_ (by assumption) ?_
          rotate_left 1
          · intro w hSw
            (try dsimp only at hSw)
            go_simp
            try with_reducible rfl
          try simp only [List.setIfInBounds_toArray, List.set_cons_zero, List.set_cons_succ]
          refine takeH (i := 7) (v := ?_) rfl rfl (by kernel_rfl) (by kernel_rfl) (by kernel_rfl) (fun _ _ _ h => h) (by rfl) ?_ (by assumption) ?_
          rotate_left 1
          · intro w hSw
            (try dsimp only at hSw)
            go_simp
            try with_reducible rfl
          try simp only [List.setIfInBounds_toArray, List.set_cons_zero, List.set_cons_succ]
          refine takeH (i := 8) (v := ?_) rfl rfl (by kernel_rfl) (by kernel_rfl) (by kernel_rfl) (fun _ _ _ h => h) (by rfl) ?_ (by assumption) ?_
          rotate_left 1
          · intro w hSw
            (try dsimp only at hSw)
            go_simp
            try with_reducible rfl
          try simp only [List.setIfInBounds_toArray, List.set_cons_zero, List.set_cons_succ]
          refine takeH (i := 9) (v := ?_) rfl rfl (by kernel_rfl) (by kernel_rfl) (by kernel_rfl) (fun _ _ _ h => h) (by rfl) ?_ (by assumption) ?_
          rotate_left 1
          · intro w hSw
            (try dsimp only at hSw)
            go_simp
            try with_reducible rfl
          try simp only [List.setIfInBounds_toArray, List.set_cons_zero, List.set_cons_succ]
          refine takeH (i := 10) (v := ?_) rfl rfl (by kernel_rfl) (by kernel_rfl) (by kernel_rfl) (fun _ _ _ h => h) (by rfl) ?_ (by assumption) ?_
          rotate_left 1
          · intro w hSw
            (try dsimp only at hSw)
            go_simp
            try with_reducible rfl
          try simp only [List.setIfInBounds_toArray, List.set_cons_zero, List.set_cons_succ]
          refine takeH (i := 11) (v := ?_) rfl rfl (by kernel_rfl) (by kernel_rfl) (by kernel_rfl) (fun _ _ _ h => h) (by rfl) ?_ (by assumption) ?_
          rotate_left 1
          · intro w hSw
            (try dsimp only at hSw)
            go_simp
            try with_reducible rfl
          try simp only [List.setIfInBounds_toArray, List.set_cons_zero, List.set_cons_succ]
          refine wpAnyH_ready (rs := [12]) (by kernel_rfl) (by simp) ?_
          refine AllReadyH.cons rfl (fun K hK => ?_) (AllReadyH.nil)
          have hs0 : w3.heap.size ≤ w7.drew.heap.size := hs7
          have HId := Lib.hid (show SdI w3 B (p + 219) w7.drew from ⟨HI7.out.rd, only_drew HI7.out.gr⟩)
          have HLd := Lib.hid (show SlO w7.drew w3.heap.size (.slice a5 L5.length c5) L5 from HL7.out.1)
          have HHd := Lib.hid (show OwnHv w7.drew w3.heap.size (.slice a6 H6.length c6) H6 from HH7.out)
          generalize w7.drew = wz0 at *
          go_simp
          have be1 : Below wz0.heap.size wz0 (wz0.alloc (.cells #[.int .i64 h, .int .i64 f, .int .i64 b] 48)) := (Below.refl _ _).alloc (Nat.le_refl _) _
          have N1 := Lib.hid (newHv wz0 ⟨h, f, b⟩)
          have HI1 := Lib.hid (show SdI w3 B (p + 219) (wz0.alloc (.cells #[.int .i64 h, .int .i64 f, .int .i64 b] 48)) from ⟨(by obtain ⟨q, k1, k2⟩ := HId.out.rd; exact ⟨q, rd_below k1 be1, k2⟩), only_below HId.out.gr be1⟩)
          have HL1 := Lib.hid (HLd.out.later be1)
          have HH1 := Lib.hid (ownhv_later HHd.out be1)
          have hz1 := be1.size
          clear be1
          dsimp only at N1
          generalize wz0.alloc (.cells #[.int .i64 h, .int .i64 f, .int .i64 b] 48) = wz1 at *
          refine hK.out _ _ ?_ (fun hNew => ?_)
          · exact ⟨HALL.out _ HI1.out.gr, Lib.hid HI1.out.gr⟩
          clear hK K hHeld
          have hHeld := hNew
          clear hNew
          try simp only [Act.put, List.setIfInBounds_toArray, List.set_cons_zero, List.set_cons_succ]
          refine wpAnyH_ready (rs := [13]) (by kernel_rfl) (by simp) ?_
          refine AllReadyH.cons rfl (fun K hK => ?_) (AllReadyH.nil)
          refine wp_appH (.tmp 45) (.tmp 57) rfl w3.heap.size (.slice a6 H6.length c6) H6 (by simp [Act.eval]) HH1.out wz0.heap.size 1 1 [⟨h, f, b⟩] rfl (by simp [Act.eval]) N1.out (by simp; omega) (by omega) ?_
          intro v8 w908 own8 grow8
          obtain ⟨a8, c8, rfl, _⟩ := OwnHv.tab own8
          have hlo : ∀ k, (Value.slice a6 H6.length c6).ownBlock = some k → w3.heap.size ≤ k := fun k hk => (World.ownsRow.lt HH1.out k hk).1
          have HF := Lib.hid (show SdI w3 B (p + 219) w908 ∧ SlO w908 w3.heap.size (.slice a5 L5.length c5) L5 ∧ OwnHv w908 w3.heap.size (.slice a8 (H6 ++ [(⟨h, f, b⟩ : HV)]).length c8) (H6 ++ [(⟨h, f, b⟩ : HV)]) from ⟨⟨(by obtain ⟨q, k1, k2⟩ := HI1.out.rd; exact ⟨q, prd_own k1 grow8 hlo (by omega), k2⟩), ponly_own HI1.out.gr grow8 hlo⟩, HL1.out.held HH1.out grow8, own8⟩)
          clear own8 grow8 hlo
          generalize hw8 : w908 = wz8 at *
          clear hw8
          show K (Act.put _ (some 58) _) wz8
          refine hK.out _ _ ?_ (fun hNew => ?_)
          · exact ⟨HALL.out _ HF.out.1.gr, Lib.hid HF.out.1.gr⟩
          clear hK K hHeld
          have hHeld := hNew
          clear hNew
          try simp only [Act.put, List.setIfInBounds_toArray, List.set_cons_zero, List.set_cons_succ]
          refine takeH (i := 14) (v := ?_) rfl rfl (by kernel_rfl) (by kernel_rfl) (by kernel_rfl) (fun _ _ _ h => h) (by rfl) ?_ (by assumption) ?_
          rotate_left 1
          · intro w hSw
            (try dsimp only at hSw)
            go_simp
            try with_reducible rfl
          try simp only [List.setIfInBounds_toArray, List.set_cons_zero, List.set_cons_succ]
          refine wpAnyH_done (by kernel_rfl) ?_ _
          clear hHeld
          go_wp2_with fail
          go_meet
          exact ⟨a8, c8, H6 ++ [(⟨h, f, b⟩ : HV)], (by simp), (by simp; omega), HF⟩
      case rest =>
        obtain ⟨ah, ch, H, rfl, hH, HF⟩ := hcut
        obtain ⟨w8, hw8⟩ : ∃ W, W = wc := ⟨_, rfl⟩
        subst hw8
        have HI8 := Lib.hid HF.out.1
        have HL8 := Lib.hid (And.intro HF.out.2.1 HL7.out.2)
        have HH8 := Lib.hid HF.out.2.2
        have hs8 := HI8.out.gr.size
        clear HF HI7 HL7 HH7 hs7 hz
        obtain ⟨q8, hr8, hq8⟩ := HI8.out.rd
        go_wp2_with fail
        refine (route_iv _ B q8 (by omega) hr8).mono ?_
        rintro en w9 ⟨f2, b2, l2, P2, M2, pv2, mv2, q9, rfl, ⟨hlP2, hlM2⟩, _, ⟨o1, o2⟩, hr9, hq9, hg9⟩
        obtain ⟨a2, c2, rfl, _, _⟩ := OwnI.tab o1
        obtain ⟨d2, e2, rfl, _, _⟩ := OwnI.tab o2
        obtain ⟨w10, hW10⟩ : ∃ W, w9.alloc (.cells #[.int .i64 f2, .int .i64 b2, .slice a2 P2.length c2, .int .i64 l2, .slice d2 M2.length e2] 27) = W := ⟨_, rfl⟩
        have hk10 : Below w9.heap.size w9 w10 := by rw [← hW10]; exact (Below.refl _ _).alloc (Nat.le_refl _) _
        have HI9 := HI8.out.pick hr9 hg9 (r := p + 269) (by omega)
        have HY10 := Lib.hid (show AtY w10 w9.heap.size [.int .i64 f2, .int .i64 b2, .slice a2 P2.length c2, .int .i64 l2, .slice d2 M2.length e2] by rw [← hW10]; exact AtY.new5 w9 _ _ _ _ _ _)
        have HM10 := Lib.hid (And.intro (owni_mono (owni_later o1 hk10) hs8) (owni_mono (owni_later o2 hk10) hs8))
        have LT5 := Lib.hid (show ∀ k, (Value.slice a5 L5.length c5).ownBlock = some k → w3.heap.size ≤ k ∧ k < w9.heap.size from fun k hk => World.ownsRow.lt (HL8.out.1.pick hg9 (by omega)).1 k hk)
        have HI10 := Lib.hid (show SdI w3 B (p + 269) w10 from ⟨(by obtain ⟨q, k1, k2⟩ := HI9.rd; exact ⟨q, rd_below k1 hk10, k2⟩), only_below HI9.gr hk10⟩)
        have HL10 := Lib.hid (And.intro ((HL8.out.1.pick hg9 (by omega)).later hk10) HL8.out.2)
        have HH10 := Lib.hid (ownhv_later (OwnHv.pick HH8.out hg9 (by omega)) hk10)
        have hs9 : w3.heap.size ≤ w9.heap.size := by have := hg9.size; omega
        have HS10 := Lib.hid (show w10.heap.size = w9.heap.size + 1 by rw [← hW10]; simp)
        clear hk10 HI9 o1 o2 hr9 hg9 hr8 hq8 HI8 HL8 HH8
        go_upto_region 12 with fail
        clear hW10
        go_cut [9] from 61 (fun ls wx => ∃ (al : Option Addr) (cl : Nat) (L : List SV), ls = .slice al L.length cl ∧ L.length ≤ 12 ∧ Hid (SdI w3 B (p + 270) wx ∧ SlO wx w3.heap.size (.slice al L.length cl) L ∧ OwnHv wx w3.heap.size (.slice ah H.length ch) H ∧ ∀ x ∈ L, Sx x))
        case first =>
          have HQ := Lib.hid (HY10.out.five)
          go_wp2_with fail
          refine wp_region_held_drew (S := fun Wx => (Wx.cell? ⟨w9.heap.size, 0, none⟩ = some (.int .i64 f2) ∧ Wx.cell? ⟨w9.heap.size, 1, none⟩ = some (.int .i64 b2) ∧ Wx.cell? ⟨w9.heap.size, 2, none⟩ = some (.slice a2 P2.length c2) ∧ Wx.cell? ⟨w9.heap.size, 3, none⟩ = some (.int .i64 l2) ∧ Wx.cell? ⟨w9.heap.size, 4, none⟩ = some (.slice d2 M2.length e2)) ∧ Hid (SdI w3 B (p + 270) Wx)) (by kernel_rfl) ?_ (fun hHeld => ?_)
          · exact ⟨HQ.out, Lib.hid (show SdI w3 B (p + 270) w10.drew from ⟨(HI10.out.le (by omega)).rd, only_drew HI10.out.gr⟩)⟩
          refine takeH (i := 0) (v := ?_) rfl rfl (by kernel_rfl) (by kernel_rfl) (by kernel_rfl) (fun _ _ _ h => h) (by rfl) ?_ (by assumption) ?_
          rotate_left 1
          · intro w hSw
            (try dsimp only at hSw)
            go_simp
            try with_reducible rfl
          try simp only [List.setIfInBounds_toArray, List.set_cons_zero, List.set_cons_succ]
          refine takeH (i := 1) (v := ?_) rfl rfl (by kernel_rfl) (by kernel_rfl) (by kernel_rfl) (fun _ _ _ h => h) (by rfl) ?_ (by assumption) ?_
          rotate_left 1
          · intro w hSw
            (try dsimp only at hSw)
            go_simp
            try with_reducible rfl
          try simp only [List.setIfInBounds_toArray, List.set_cons_zero, List.set_cons_succ]
          refine takeH (i := 2) (v := ?_) rfl rfl (by kernel_rfl) (by kernel_rfl) (by kernel_rfl) (fun _ _ _ h => h) (by rfl) ?_ (by assumption) ?_
          rotate_left 1
          · intro w hSw
            (try dsimp only at hSw)
            go_simp
            try with_reducible rfl
          try simp only [List.setIfInBounds_toArray, List.set_cons_zero, List.set_cons_succ]
          refine wpAnyH_ready (rs := [3]) (by kernel_rfl) (by simp) ?_
          refine AllReadyH.cons rfl (fun K hK => ?_) (AllReadyH.nil)
          have hs0 : w3.heap.size ≤ w10.drew.heap.size := HI10.out.gr.size
          have HId := Lib.hid (show SdI w3 B (p + 269) w10.drew from ⟨HI10.out.rd, only_drew HI10.out.gr⟩)
          have HLd := Lib.hid (show SlO w10.drew w3.heap.size (.slice a5 L5.length c5) L5 from HL10.out.1)
          have HHd := Lib.hid (show OwnHv w10.drew w3.heap.size (.slice ah H.length ch) H from HH10.out)
          have HMd := Lib.hid (show OwnI w10.drew w3.heap.size (.slice a2 P2.length c2) P2 ∧ OwnI w10.drew w3.heap.size (.slice d2 M2.length e2) M2 from HM10.out)
          have HYd := Lib.hid (show AtY w10.drew w9.heap.size [.int .i64 f2, .int .i64 b2, .slice a2 P2.length c2, .int .i64 l2, .slice d2 M2.length e2] from HY10.out)
          generalize w10.drew = wz0 at *
          obtain ⟨qz, hrz, hqz⟩ := HId.out.rd
          go_simp
          refine (pick_any 5 _ B qz (by omega) (by omega) hrz).mono ?_
          rintro en w11 ⟨y, y0, y1, rfl, hr11, hg11⟩
          have iy : IntKind.i64.wrap (1 + y) = 1 + y := by rw [IntKind.wrap_i64]; omega
          have HI11 := Lib.hid (HId.out.pick hr11 hg11 (r := p + 270) (by omega))
          have HL11 := Lib.hid (HLd.out.pick hg11 (by omega))
          have HH11 := Lib.hid (OwnHv.pick HHd.out hg11 (by omega))
          have HM11 := Lib.hid (rtm_own (owni_pick HMd.out.1 hg11 (by omega)) (owni_pick HMd.out.2 hg11 (by omega)) (by omega) (by omega))
          have HY11 := Lib.hid (HYd.out.only hg11 (by simp; omega))
          clear hr11 hg11 hrz
          go_wp2_with fail
          refine hK.out _ _ ?_ (fun hNew => ?_)
          · exact ⟨HY11.out.five, HI11⟩
          clear hK K hHeld
          have hHeld := hNew
          clear hNew
          try simp only [Act.put, List.setIfInBounds_toArray, List.set_cons_zero, List.set_cons_succ]
          refine takeH (i := 4) (v := ?_) rfl rfl (by kernel_rfl) (by kernel_rfl) (by kernel_rfl) (fun _ _ _ h => h) (by rfl) ?_ (by assumption) ?_
          rotate_left 1
          · intro w hSw
            (try dsimp only at hSw)
            go_simp
            try with_reducible rfl
          try simp only [List.setIfInBounds_toArray, List.set_cons_zero, List.set_cons_succ]
          refine wpAnyH_ready (rs := [5]) (by kernel_rfl) (by simp) ?_
          refine AllReadyH.cons rfl (fun K hK => ?_) (AllReadyH.nil)
          go_simp
          refine (ssealmake_is f2 b2 a2 c2 P2 l2 d2 e2 M2 (1 + y) rfl _ HM11.out).mono ?_
          rintro en w12 ⟨v12, L12, rfl, hR12, hQ12, hP12, b12⟩
          have hL12 : L12.length ≤ 6 := (by have h1 := makeS_len f2 b2 P2 l2 M2 (1 + y); rw [← hQ12, sealsP, List.length_map] at h1; omega)
          obtain ⟨a12, c12, rfl, hc12⟩ := OwnSl.tab hR12.row
          have hs11 := HI11.out.gr.size
          have HI12 := Lib.hid (show SdI w3 B (p + 270) w12 from ⟨(by obtain ⟨q, k1, k2⟩ := HI11.out.rd; exact ⟨q, rd_below k1 b12, k2⟩), only_below HI11.out.gr b12⟩)
          have HL12 := Lib.hid (HL11.out.later b12)
          have HH12 := Lib.hid (ownhv_later HH11.out b12)
          have HY12 := Lib.hid (HY11.out.below b12)
          have HN12 := Lib.hid (And.intro (hR12.slo.mono hs11) (show ∀ x ∈ L12, Sx x from fun x hx => ⟨by have := hP12 x hx; omega, makeS_w hQ12 x hx⟩))
          have hs12 := HI12.out.gr.size
          clear hR12 hQ12 hP12 b12
          go_wp2_with fail
          refine hK.out _ _ ?_ (fun hNew => ?_)
          · exact ⟨HY12.out.five, HI12⟩
          clear hK K hHeld
          have hHeld := hNew
          clear hNew
          try simp only [Act.put, List.setIfInBounds_toArray, List.set_cons_zero, List.set_cons_succ]
          refine wpAnyH_ready (rs := [6]) (by kernel_rfl) (by simp) ?_
          refine AllReadyH.cons rfl (fun K hK => ?_) (AllReadyH.nil)
          refine wp_appS (.tmp 61) (.tmp 66) rfl w3.heap.size (.slice a5 L5.length c5) L5 (by simp [Act.eval]) HL12.out.1 a12 L12.length c12 L12 rfl (by simp [Act.eval]) (OwnSl.lies HN12.out.1.1) hc12 (by omega) (by omega) ?_
          intro v13 w913 own13 grow13
          obtain ⟨a13, c13, rfl, _⟩ := OwnSl.tab own13
          have hlo : ∀ k, (Value.slice a5 L5.length c5).ownBlock = some k → w3.heap.size ≤ k := fun k hk => (LT5.out k hk).1
          have HF := Lib.hid (show SdI w3 B (p + 270) w913 ∧ SlO w913 w3.heap.size (.slice a13 (L5 ++ L12).length c13) (L5 ++ L12) ∧ OwnHv w913 w3.heap.size (.slice ah H.length ch) H ∧ ∀ x ∈ L5 ++ L12, Sx x from ⟨⟨(by obtain ⟨q, k1, k2⟩ := HI12.out.rd; exact ⟨q, prd_own k1 grow13 hlo (by omega), k2⟩), ponly_own HI12.out.gr grow13 hlo⟩, HL12.out.app HN12.out.1.2 own13 grow13, HH12.out.seals HL12.out.1 grow13, fun x hx => (List.mem_append.1 hx).elim (HL10.out.2 x) (HN12.out.2 x)⟩)
          have HY13 := Lib.hid (HY12.out.only grow13 (fun k => by have := (LT5.out _ k.symm).2; omega))
          clear own13 grow13 hlo
          generalize hw13 : w913 = wz13 at *
          clear hw13
          show K (Act.put _ (some 67) _) wz13
          refine hK.out _ _ ?_ (fun hNew => ?_)
          · exact ⟨HY13.out.five, Lib.hid HF.out.1⟩
          clear hK K hHeld
          have hHeld := hNew
          clear hNew
          try simp only [Act.put, List.setIfInBounds_toArray, List.set_cons_zero, List.set_cons_succ]
          refine takeH (i := 7) (v := ?_) rfl rfl (by kernel_rfl) (by kernel_rfl) (by kernel_rfl) (fun _ _ _ h => h) (by rfl) ?_ (by assumption) ?_
          rotate_left 1
          · intro w hSw
            (try dsimp only at hSw)
            go_simp
            try with_reducible rfl
          try simp only [List.setIfInBounds_toArray, List.set_cons_zero, List.set_cons_succ]
          refine wpAnyH_done (by kernel_rfl) ?_ _
          clear hHeld
          go_wp2_with fail
          go_meet
          exact ⟨a13, c13, L5 ++ L12, (by simp), (by simp; omega), HF⟩
        case rest =>
          obtain ⟨al, cl, L, rfl, hL, HF⟩ := hcut
          obtain ⟨w14, hw14⟩ : ∃ W, W = wc := ⟨_, rfl⟩
          subst hw14
          clear HI10 HL10 HH10 HM10 HY10 LT5 HS10 hlP2 hlM2 hs9 hs8
          obtain ⟨q14, hr14, hq14⟩ := HF.out.1.rd
          go_wp2_with fail
          refine (pick_any 6 _ B q14 (by omega) (by omega) hr14).mono ?_
          rintro en w15 ⟨cse, cs0, cs1, rfl, hr15, hg15⟩
          have hs14 := HF.out.1.gr.size
          have HI15 := Lib.hid (HF.out.1.pick hr15 hg15 (r := p + 271) (by omega))
          have HL15 := Lib.hid (And.intro (HF.out.2.1.pick hg15 (by omega)) HF.out.2.2.2)
          have HH15 := Lib.hid (OwnHv.pick HF.out.2.2.1 hg15 (by omega))
          clear hr14 hr15 hg15 HF hs14
          have hs15 := HI15.out.gr.size
          go_upto_block 2 with fail
          go_cut [7, 9, 12] from 70 (fun tt ls kk wx => ∃ (t : Int) (al : Option Addr) (cl : Nat) (L : List SV) (a' : Option Addr) (c' : Nat) (P' : List Int), tt = .int .i64 t ∧ (0 ≤ t ∧ t ≤ 6) ∧ ls = .slice al L.length cl ∧ L.length ≤ 12 ∧ P'.length ≤ 6 ∧ Hid (Fin13I w B (p + 272) w3.heap.size w2.heap.size w1.heap.size al cl L ah ch H a' c' P' f b l d e M wx))
          case first =>
            have FIN := Lib.hid (show ∀ wx q (al : Option Addr) (cl : Nat) (L : List SV), SdI w3 B q wx → q ≤ p + 272 → SlO wx w3.heap.size (.slice al L.length cl) L → OwnHv wx w3.heap.size (.slice ah H.length ch) H → (∀ x ∈ L, Sx x) → Fin13I w B (p + 272) w3.heap.size w2.heap.size w1.heap.size al cl L ah ch H a c P f b l d e M wx from by
              intro wx q al cl L k1 k2 k3 k4 k7
              obtain ⟨q', k5, k6⟩ := k1.rd
              have o1 := owni_pick HO3.out.1 k1.gr (by have := HS1.out; omega)
              exact ⟨⟨q', k5, by omega⟩, only_on HG3.out k1.gr, k3, k4, k7, HX3.out.only k1.gr (by simp; omega), ⟨a, c, P, o1, fun _ h => h, (OwnI.intA o1).2.1, HIV.out.2.2⟩, owni_pick HO3.out.2 k1.gr (by have := HS1.out; omega), HZ3.out.only k1.gr (by simp; omega)⟩)
            have HXs := Lib.hid (HX3.out.only HI15.out.gr (by simp; omega))
            obtain ⟨q0, q1, q2, q3, q4⟩ := HXs.out.five
            obtain ⟨q16, hr16, hq16⟩ := HI15.out.rd
            have HF0 := Lib.hid (FIN.out w15 _ _ _ _ HI15.out (by omega) HL15.out.1 HH15.out HL15.out.2)
            by_cases c0 : cse = 0
            · have e0 : (cse == 0) = true := by simp [c0]
              by_cases hL0 : 0 < L.length
              · have i1 : (0 : Int) < (L.length : Int) := by omega
                clear c0
                go_wp2_with fail
                refine (pick_any (L.length : Int) _ B q16 (by omega) (by omega) hr16).mono ?_
                rintro en w16 ⟨y, y0, y1, rfl, hr17, hg17⟩
                obtain ⟨J, rfl⟩ := Int.eq_ofNat_of_zero_le y0
                have iK : IntKind.i64.wrap ((J : Int) + 1) = ((J + 1 : Nat) : Int) := by rw [IntKind.wrap_i64]; omega
                have hKL : J < L.length := by omega
                obtain ⟨lg, rfl, hlc, hlg⟩ : ∃ lg, al = some ⟨lg, 0, none⟩ ∧ L.length ≤ cl ∧ lg < w16.heap.size := by
                  have h5 := (HL15.out.1.pick hg17 (by omega)).1
                  rcases h5.2 with ⟨e0, h0⟩ | ⟨g, cap, cur, e0, _, _, hn, _⟩
                  · omega
                  · injection e0 with e1 e2 e3
                    subst e1
                    exact ⟨g, rfl, by omega, (World.ownsRow.lt h5 g rfl).2⟩
                have HI16 := Lib.hid (HI15.out.pick hr17 hg17 (r := p + 272) (by omega))
                have HL16 := Lib.hid (HL15.out.1.pick hg17 (by omega))
                have HH16 := Lib.hid (OwnHv.pick HH15.out hg17 (by omega))
                have hs16 := HI16.out.gr.size
                have k0 : (0 : Int) ≤ (J : Int) := by omega
                have k1 : (J : Int) ≤ (cl : Int) := by omega
                have k2 : (0 : Int) ≤ ((J + 1 : Nat) : Int) := by omega
                have k3 : ((J + 1 : Nat) : Int) ≤ (L.length : Int) := by omega
                have k4 : (L.length : Int) ≤ (cl : Int) := by omega
                have k5 : J ≤ cl := by omega
                have k6 : L.length - (J + 1) ≤ cl - (J + 1) := by omega
                have k7 : J + 1 ≤ L.length := by omega
                have k2' : (0 : Int) ≤ (J : Int) + 1 := by omega
                have k3' : (J : Int) + 1 ≤ (L.length : Int) := by omega
                obtain ⟨aa, haa⟩ : ∃ aa : Option Addr, (if cl = J + 1 then some (⟨lg, 0, none⟩ : Addr) else some ⟨lg, (J + 1) * 5, none⟩) = aa := ⟨_, rfl⟩
                have HAA := Lib.hid (show ∀ W, SlL W (some ⟨lg, 0, none⟩) L → SlL W aa (L.drop (J + 1)) from fun W h => by
                  rw [← haa]
                  split
                  · exact .inl (List.drop_eq_nil_of_le (by omega))
                  · have := SlL.drop h (J + 1); rwa [Nat.zero_add] at this)
                clear hr16 hr17 hg17 y0 y1
                go_wp2_with fail
                refine wp_region_held_drew (S := fun Wx => Hid (SdI w3 B (p + 272) Wx)) (by kernel_rfl) ?_ (fun hHeld => ?_)
                · exact Lib.hid (show SdI w3 B (p + 272) w16.drew from ⟨HI16.out.rd, only_drew HI16.out.gr⟩)
                refine takeH (i := 1) (v := ?_) rfl rfl (by kernel_rfl) (by kernel_rfl) (by kernel_rfl) (fun _ _ _ h => h) (by rfl) ?_ (by assumption) ?_
                rotate_left 1
                · intro w hSw
                  (try dsimp only at hSw)
                  go_simp
                  try with_reducible rfl
                try simp only [List.setIfInBounds_toArray, List.set_cons_zero, List.set_cons_succ]
                refine takeH (i := 2) (v := ?_) rfl rfl (by kernel_rfl) (by kernel_rfl) (by kernel_rfl) (fun _ _ _ h => h) (by rfl) ?_ (by assumption) ?_
                rotate_left 1
                · intro w hSw
                  (try dsimp only at hSw)
                  go_simp
                  try with_reducible rfl
                try simp only [List.setIfInBounds_toArray, List.set_cons_zero, List.set_cons_succ]
                refine takeH (i := 3) (v := ?_) rfl rfl (by kernel_rfl) (by kernel_rfl) (by kernel_rfl) (fun _ _ _ h => h) (by rfl) ?_ (by assumption) ?_
                rotate_left 1
                · intro w hSw
                  (try dsimp only at hSw)
                  go_simp
                  try with_reducible rfl
                try simp only [List.setIfInBounds_toArray, List.set_cons_zero, List.set_cons_succ]
                refine takeH (i := 5) (v := ?_) rfl rfl (by kernel_rfl) (by kernel_rfl) (by kernel_rfl) (fun _ _ _ h => h) (by rfl) ?_ (by assumption) ?_
                rotate_left 1
                · intro w hSw
                  (try dsimp only at hSw)
                  go_simp
                  try with_reducible rfl
                try simp only [List.setIfInBounds_toArray, List.set_cons_zero, List.set_cons_succ]
                refine takeH (i := 6) (v := ?_) rfl rfl (by kernel_rfl) (by kernel_rfl) (by kernel_rfl) (fun _ _ _ h => h) (by rfl) ?_ (by assumption) ?_
                rotate_left 1
                · intro w hSw
                  (try dsimp only at hSw)
                  go_simp
                  try with_reducible rfl
                try simp only [List.setIfInBounds_toArray, List.set_cons_zero, List.set_cons_succ]
                refine takeH (i := 7) (v := ?_) rfl rfl (by kernel_rfl) (by kernel_rfl) (by kernel_rfl) (fun _ _ _ h => h) (by rfl) ?_ (by assumption) ?_
                rotate_left 1
                · intro w hSw
                  (try dsimp only at hSw)
                  go_simp
                  try with_reducible rfl
                try simp only [List.setIfInBounds_toArray, List.set_cons_zero, List.set_cons_succ]
                refine takeH (i := 8) (v := ?_) rfl rfl (by kernel_rfl) (by kernel_rfl) (by kernel_rfl) (fun _ _ _ h => h) (by rfl) ?_ (by assumption) ?_
                rotate_left 1
                · intro w hSw
                  (try dsimp only at hSw)
                  go_simp
                  try with_reducible rfl
                try simp only [List.setIfInBounds_toArray, List.set_cons_zero, List.set_cons_succ]
                refine wpAnyH_ready (rs := [0]) (by kernel_rfl) (by simp) ?_
                refine AllReadyH.cons rfl (fun K hK => ?_) (AllReadyH.nil)
                have hs0 : w3.heap.size ≤ w16.drew.heap.size := hs16
                have hlg0 : lg < w16.drew.heap.size := hlg
                have HId := Lib.hid (show SdI w3 B (p + 272) w16.drew from ⟨HI16.out.rd, only_drew HI16.out.gr⟩)
                have HLd := Lib.hid (show SlO w16.drew w3.heap.size (.slice (some ⟨lg, 0, none⟩) L.length cl) L from HL16.out)
                have HHd := Lib.hid (show OwnHv w16.drew w3.heap.size (.slice ah H.length ch) H from HH16.out)
                go_simp
                have be1 : Below w16.drew.heap.size w16.drew ((w16.alloc (.cells #[] 34)).drew) := (show Below w16.drew.heap.size w16.drew (w16.drew.alloc (.cells #[] 34)) from (Below.refl _ _).alloc (Nat.le_refl _) _)
                have HE1 := Lib.hid (show SlO ((w16.alloc (.cells #[] 34)).drew) w3.heap.size (.slice (some ⟨w16.heap.size, 0, none⟩) 0 0) [] from (slr_empty w16.drew w3.heap.size hs0).slo)
                have HI1 := Lib.hid (show SdI w3 B (p + 272) ((w16.alloc (.cells #[] 34)).drew) from ⟨(by obtain ⟨q, k1, k2⟩ := HId.out.rd; exact ⟨q, rd_below k1 be1, k2⟩), only_below HId.out.gr be1⟩)
                have HL1 := Lib.hid (HLd.out.later be1)
                have HH1 := Lib.hid (ownhv_later HHd.out be1)
                have hz1 : w16.heap.size ≤ ((w16.alloc (.cells #[] 34)).drew).heap.size := be1.size
                clear be1
                generalize (w16.alloc (.cells #[] 34)).drew = wz1 at *
                refine hK.out _ _ ?_ (fun hNew => ?_)
                · exact HI1
                clear hK K hHeld
                have hHeld := hNew
                clear hNew
                try simp only [Act.put, List.setIfInBounds_toArray, List.set_cons_zero, List.set_cons_succ]
                refine wpAnyH_ready (rs := [4]) (by kernel_rfl) (by simp) ?_
                refine AllReadyH.cons rfl (fun K hK => ?_) (AllReadyH.nil)
                refine wp_appS (.tmp 79) (.tmp 82) rfl w3.heap.size (.slice (some ⟨w16.heap.size, 0, none⟩) 0 0) [] (by simp [Act.eval]) HE1.out.1 (some ⟨lg, 0, none⟩) J cl (L.take J) (by simp; omega) (by simp [Act.eval]) ((OwnSl.lies HL1.out.1).take J) k5 (by simp; omega) (by omega) ?_
                intro v2 w902 own2 grow2
                rw [List.nil_append] at own2
                obtain ⟨a2', c2', rfl, _⟩ := OwnSl.tab own2
                have hlo : ∀ k, (Value.slice (some ⟨w16.heap.size, 0, none⟩) 0 0).ownBlock = some k → w3.heap.size ≤ k := fun k hk => (World.ownsRow.lt HE1.out.1 k hk).1
                have HI2 := Lib.hid (show SdI w3 B (p + 272) w902 from ⟨(by obtain ⟨q, k1, k2⟩ := HI1.out.rd; exact ⟨q, prd_own k1 grow2 hlo (by omega), k2⟩), ponly_own HI1.out.gr grow2 hlo⟩)
                have HL2 := Lib.hid (show SlO w902 w3.heap.size (.slice (some ⟨lg, 0, none⟩) L.length cl) L from ⟨World.ownsRow.kept HL1.out.1 grow2 (.inr (fun q => by simp [Value.ownBlock] at q; omega)), fun x hx => World.ownsRow.kept (HL1.out.2 x hx) grow2 (slrows_apart (HL1.out.2 x hx) HE1.out.1 (by decide))⟩)
                have HH2 := Lib.hid (HH1.out.seals HE1.out.1 grow2)
                have HO2' := Lib.hid own2
                have hz2 := grow2.size
                clear own2 grow2 hlo
                generalize hw2 : w902 = wz2 at *
                clear hw2
                show K (Act.put _ (some 83) _) wz2
                refine hK.out _ _ ?_ (fun hNew => ?_)
                · exact HI2
                clear hK K hHeld
                have hHeld := hNew
                clear hNew
                try simp only [Act.put, List.setIfInBounds_toArray, List.set_cons_zero, List.set_cons_succ]
                refine wpAnyH_ready (rs := [9]) (by kernel_rfl) (by simp) ?_
                refine AllReadyH.cons rfl (fun K hK => ?_) (AllReadyH.nil)
                refine wp_appS (.tmp 83) (.tmp 87) rfl w3.heap.size (.slice a2' (L.take J).length c2') (L.take J) (by simp [Act.eval]) HO2'.out (aa) (L.length - (J + 1)) (cl - (J + 1)) (L.drop (J + 1)) (by simp) (by simp [Act.eval]) (HAA.out _ (OwnSl.lies HL2.out.1)) k6 (by simp; omega) (by omega) ?_
                intro v3 w903 own3 grow3
                obtain ⟨a3', c3', rfl, _⟩ := OwnSl.tab own3
                have hlo : ∀ k, (Value.slice a2' (L.take J).length c2').ownBlock = some k → w3.heap.size ≤ k := fun k hk => (World.ownsRow.lt HO2'.out k hk).1
                have HI4' := Lib.hid (show SdI w3 B (p + 272) w903 from ⟨(by obtain ⟨q, k1, k2⟩ := HI2.out.rd; exact ⟨q, prd_own k1 grow3 hlo (by omega), k2⟩), ponly_own HI2.out.gr grow3 hlo⟩)
                have hsub : ∀ x ∈ L.take J ++ L.drop (J + 1), x ∈ L := fun x hx => (List.mem_append.1 hx).elim List.mem_of_mem_take List.mem_of_mem_drop
                have HFN := Lib.hid (FIN.out w903 _ a3' c3' (L.take J ++ L.drop (J + 1)) HI4'.out (Nat.le_refl _) ⟨own3, fun x hx => World.ownsRow.kept (HL2.out.2 x (hsub x hx)) grow3 (slrows_apart (HL2.out.2 x (hsub x hx)) HO2'.out (by decide))⟩ (HH2.out.seals HO2'.out grow3) (fun x hx => HL15.out.2 x (hsub x hx)))
                clear own3 grow3 hlo hsub
                generalize hw3' : w903 = wz3 at *
                clear hw3'
                show K (Act.put _ (some 88) _) wz3
                refine hK.out _ _ ?_ (fun hNew => ?_)
                · exact HI4'
                clear hK K hHeld
                have hHeld := hNew
                clear hNew
                try simp only [Act.put, List.setIfInBounds_toArray, List.set_cons_zero, List.set_cons_succ]
                refine takeH (i := 10) (v := ?_) rfl rfl (by kernel_rfl) (by kernel_rfl) (by kernel_rfl) (fun _ _ _ h => h) (by rfl) ?_ (by assumption) ?_
                rotate_left 1
                · intro w hSw
                  (try dsimp only at hSw)
                  go_simp
                  try with_reducible rfl
                try simp only [List.setIfInBounds_toArray, List.set_cons_zero, List.set_cons_succ]
                refine wpAnyH_done (by kernel_rfl) ?_ _
                clear hHeld
                go_wp2_with fail
                go_meet
                exact ⟨t, a3', c3', L.take J ++ L.drop (J + 1), a, c, P, rfl, ⟨by omega, by omega⟩, (by simp), (by simp; omega), by omega, HFN⟩
              · have i1 : ¬ (0 : Int) < (L.length : Int) := by omega
                clear c0 hr16
                go_wp2_with fail
                go_meet
                exact ⟨t, al, cl, L, a, c, P, rfl, ⟨by omega, by omega⟩, rfl, by omega, by omega, HF0⟩
            · have e0 : (cse == 0) = false := by simp [c0]
              by_cases c1 : cse = 1
              · have e1 : (cse == 1) = true := by simp [c1]
                by_cases hp1 : 1 < P.length
                · have i1 : (1 : Int) < (P.length : Int) := by omega
                  obtain ⟨pb, poff, h, rfl, hget, cP⟩ := (OwnI.intA HO3.out.1).2.2.at (show 0 < P.length by omega)
                  have i2 : (1 : Int) ≤ (P.length : Int) := by omega
                  have i3 : (P.length : Int) ≤ (c : Int) := by have := (OwnI.intA HO3.out.1).2.1; omega
                  have i4 : (1 : Int) ≤ (c : Int) := by omega
                  have hpb : w1.heap.size ≤ pb ∧ pb < w3.heap.size := HO3.out.1.lt pb rfl
                  clear c0 c1 hr16 hget cP
                  go_wp2_with (refine wpList_st1Y rfl 25 (.tmp 98) (.tmp 97) rfl w2.heap.size 2 (.slice (some ⟨pb, poff + 1, none⟩) (P.drop 1).length (c - 1)) ?x1 ?y1 rfl rfl infoIs _ HXs.out ?l1 ?g1)
                  try case x1 => rfl
                  try case y1 => (simp [Act.eval]; try omega)
                  try case l1 => simp
                  intro w16 hA16 g16
                  have ap : ∀ v, pBtw v w1.heap.size w2.heap.size → v.ownBlock = none ∨ v.ownBlock ≠ some w2.heap.size := fun v hv => by
                    cases ek : v.ownBlock with
                    | none => exact .inl rfl
                    | some k => exact .inr (fun q => by have := (hv k ek).2; simp at q; omega)
                  have o1 := World.ownsRow.kept (owni_pick HO3.out.1 HI15.out.gr (by have := HS1.out; omega)) g16 (ap _ LTP.out.1)
                  have o2 := World.ownsRow.kept (owni_pick HO3.out.2 HI15.out.gr (by have := HS1.out; omega)) g16 (ap _ LTP.out.2)
                  have HF1 := Lib.hid (show Fin13I w B (p + 272) w3.heap.size w2.heap.size w1.heap.size al cl L ah ch H (some ⟨pb, poff + 1, none⟩) (c - 1) (P.drop 1) f b l d e M w16 from by
                    obtain ⟨q', k5, k6⟩ := HI15.out.rd
                    have gX : w15.grownBy w16 (Value.slice (some ⟨w2.heap.size, 0, none⟩) 0 0).ownBlock := g16
                    exact ⟨⟨q', prd_own (R := w2.heap.size) k5 gX (fun k hk => by simp [Value.ownBlock] at hk; omega) (by omega), by omega⟩, ponly_own (only_on HG3.out HI15.out.gr) gX (fun k hk => by simp [Value.ownBlock] at hk; omega), HL15.out.1.pick g16 hlt3, OwnHv.pick HH15.out g16 hlt3, HL15.out.2, (by rw [List.length_drop]; exact hA16), ⟨_, c, P, o1, fun _ h => IntA.drop h 1, by simp; omega, fun y hy => HIV.out.2.2 y (List.mem_of_mem_drop hy)⟩, o2, (HZ3.out.only HI15.out.gr (by simp; omega)).only g16 (by simp; omega)⟩)
                  clear hA16 g16 ap o1 o2
                  go_wp2_with fail
                  go_meet
                  exact ⟨t, al, cl, L, some ⟨pb, poff + 1, none⟩, c - 1, P.drop 1, rfl, ⟨by omega, by omega⟩, rfl, by omega, by simp; omega, HF1⟩
                · have i1 : ¬ (1 : Int) < (P.length : Int) := by omega
                  clear c0 c1 hr16
                  go_wp2_with fail
                  go_meet
                  exact ⟨t, al, cl, L, a, c, P, rfl, ⟨by omega, by omega⟩, rfl, by omega, by omega, HF0⟩
              · have e1 : (cse == 1) = false := by simp [c1]
                by_cases c2 : cse = 2
                · have e2 : (cse == 2) = true := by simp [c2]
                  clear c0 c1 c2
                  go_wp2_with fail
                  refine (pick_any 5 _ B q16 (by omega) (by omega) hr16).mono ?_
                  rintro en w16 ⟨y, y0, y1, rfl, hr17, hg17⟩
                  have iy : IntKind.i64.wrap (1 + y) = 1 + y := by rw [IntKind.wrap_i64]; omega
                  have HF2 := Lib.hid (FIN.out w16 _ _ _ _ (HI15.out.pick hr17 hg17 (r := p + 272) (by omega)) (by omega) (HL15.out.1.pick hg17 (by omega)) (OwnHv.pick HH15.out hg17 (by omega)) HL15.out.2)
                  clear hr16 hr17 hg17
                  go_wp2_with fail
                  go_meet
                  exact ⟨1 + y, al, cl, L, a, c, P, rfl, ⟨by omega, by omega⟩, rfl, by omega, by omega, HF2⟩
                · have e2 : (cse == 2) = false := by simp [c2]
                  clear c0 c1 c2 hr16
                  go_wp2_with fail
                  go_meet
                  exact ⟨t, al, cl, L, a, c, P, rfl, ⟨by omega, by omega⟩, rfl, by omega, by omega, HF0⟩
          case rest =>
            obtain ⟨tz, az, cz, Lz, ap', cp', Pz, rfl, ⟨tz0, tz6⟩, rfl, hLz, hPz, HFZ⟩ := hcut
            obtain ⟨w17, hw17⟩ : ∃ W, W = wc := ⟨_, rfl⟩
            subst hw17
            clear HI15 HL15 HH15
            have HQ := Lib.hid (HFZ.out.2.2.2.2.2.1.five)
            have hR1 : w1.heap.size = w.heap.size + 1 := HS1.out
            have hR3 : w.heap.size < w3.heap.size := by omega
            have HR1' := Lib.hid hR1
            clear hR1
            go_wp2_with fail
            refine wp_region_held_drew (S := fun Wx => (Wx.cell? ⟨w2.heap.size, 0, none⟩ = some (.int .i64 f) ∧ Wx.cell? ⟨w2.heap.size, 1, none⟩ = some (.int .i64 b) ∧ Wx.cell? ⟨w2.heap.size, 2, none⟩ = some (.slice ap' Pz.length cp') ∧ Wx.cell? ⟨w2.heap.size, 3, none⟩ = some (.int .i64 l) ∧ Wx.cell? ⟨w2.heap.size, 4, none⟩ = some (.slice d M.length e)) ∧ Hid True) (by kernel_rfl) ?_ (fun hHeld => ?_)
            · exact ⟨HQ.out, Lib.hid trivial⟩
            refine takeH (i := 0) (v := ?_) rfl rfl (by kernel_rfl) (by kernel_rfl) (by kernel_rfl) (fun _ _ _ h => h) (by rfl) ?_ (by assumption) ?_
            rotate_left 1
            · intro w hSw
              (try dsimp only at hSw)
              go_simp
              try with_reducible rfl
            try simp only [List.setIfInBounds_toArray, List.set_cons_zero, List.set_cons_succ]
            refine takeH (i := 1) (v := ?_) rfl rfl (by kernel_rfl) (by kernel_rfl) (by kernel_rfl) (fun _ _ _ h => h) (by rfl) ?_ (by assumption) ?_
            rotate_left 1
            · intro w hSw
              (try dsimp only at hSw)
              go_simp
              try with_reducible rfl
            try simp only [List.setIfInBounds_toArray, List.set_cons_zero, List.set_cons_succ]
            refine takeH (i := 2) (v := ?_) rfl rfl (by kernel_rfl) (by kernel_rfl) (by kernel_rfl) (fun _ _ _ h => h) (by rfl) ?_ (by assumption) ?_
            rotate_left 1
            · intro w hSw
              (try dsimp only at hSw)
              go_simp
              try with_reducible rfl
            try simp only [List.setIfInBounds_toArray, List.set_cons_zero, List.set_cons_succ]
            refine takeH (i := 3) (v := ?_) rfl rfl (by kernel_rfl) (by kernel_rfl) (by kernel_rfl) (fun _ _ _ h => h) (by rfl) ?_ (by assumption) ?_
            rotate_left 1
            · intro w hSw
              (try dsimp only at hSw)
              go_simp
              try with_reducible rfl
            try simp only [List.setIfInBounds_toArray, List.set_cons_zero, List.set_cons_succ]
            refine takeH (i := 4) (v := ?_) rfl rfl (by kernel_rfl) (by kernel_rfl) (by kernel_rfl) (fun _ _ _ h => h) (by rfl) ?_ (by assumption) ?_
            rotate_left 1
            · intro w hSw
              (try dsimp only at hSw)
              go_simp
              try with_reducible rfl
            try simp only [List.setIfInBounds_toArray, List.set_cons_zero, List.set_cons_succ]
            refine takeH (i := 5) (v := ?_) rfl rfl (by kernel_rfl) (by kernel_rfl) (by kernel_rfl) (fun _ _ _ h => h) (by rfl) ?_ (by assumption) ?_
            rotate_left 1
            · intro w hSw
              (try dsimp only at hSw)
              go_simp
              try with_reducible rfl
            try simp only [List.setIfInBounds_toArray, List.set_cons_zero, List.set_cons_succ]
            refine wpAnyH_ready (rs := [6]) (by kernel_rfl) (by simp) ?_
            refine AllReadyH.cons rfl (fun K hK => ?_) (AllReadyH.nil)
            refine wp_stY 27 (.tmp 4) (.tmp 106) rfl w.heap.size #[.int .i64 f, .int .i64 b, .slice ap' Pz.length cp', .int .i64 l, .slice d M.length e] (by simp [Act.eval]) (by simp [Act.eval]) (by simp [Value.oneCell']) infoR5s _ (show AtY w17.drew w.heap.size _ from HFZ.out.2.2.2.2.2.2.2.2) rfl ?_
            intro wz4 aa gg
            have g17 : w17.grownBy wz4 (some w.heap.size) := only_on (only_drew (World.grownBy.refl w17 _)) gg
            have gX : w17.grownBy wz4 (Value.slice (some ⟨w.heap.size, 0, none⟩) 0 0).ownBlock := g17
            have HX4 := Lib.hid (HFZ.out.2.2.2.2.2.1.only g17 (by simp; omega))
            have HZ4 := Lib.hid aa
            have HEND := Lib.hid (show SealedI w B p (.returned (.tuple #[.slice ah H.length ch, .slice az Lz.length cz, .agg #[.int .i64 f, .int .i64 b, .slice ap' Pz.length cp', .int .i64 l, .slice d M.length e], .int .i64 tz])) wz4 from by (obtain ⟨⟨qz, r1, r2⟩, r3, r4, r5, r6, r7, ⟨ax, cx, Px, r8, r8', r8''⟩, r9, r10⟩ := HFZ.out; have hr1 := HR1'.out; exact ⟨f, b, l, tz, Pz, M, ap', cp', d, e, az, cz, Lz, ah, ch, H, qz, rfl, ⟨hH, hLz, hPz, hlM, tz0, tz6, r6, HIV.out.1, HIV.out.2.1⟩, ⟨World.ownsRow.mono (OwnHv.pick r5 g17 hR3) (by omega), (r4.pick g17 hR3).mono (by omega), ⟨ax, cx, Px, owni_mono (owni_pick r8 g17 (by omega)) (by omega), r8', r8''⟩, owni_mono (owni_pick r9 g17 (by omega)) (by omega)⟩, prd_own (R := w.heap.size) r1 gX (fun k hk => by simp [Value.ownBlock] at hk; omega) hBw, r2, ponly_own r3 gX (fun k hk => by simp [Value.ownBlock] at hk; omega)⟩))
            clear aa gg g17 gX
            refine hK.out _ _ ?_ (fun hNew => ?_)
            · exact ⟨HX4.out.five, Lib.hid trivial⟩
            clear hK K hHeld
            have hHeld := hNew
            clear hNew
            try simp only [Act.put, List.setIfInBounds_toArray, List.set_cons_zero, List.set_cons_succ]
            refine takeH (i := 7) (v := ?_) rfl rfl (by kernel_rfl) (by kernel_rfl) (by kernel_rfl) (fun _ _ _ h => h) (by rfl) ?_ (by assumption) ?_
            rotate_left 1
            · intro w hSw
              (try dsimp only at hSw)
              go_simp
              try with_reducible rfl
            try simp only [List.setIfInBounds_toArray, List.set_cons_zero, List.set_cons_succ]
            refine wpAnyH_done (by kernel_rfl) ?_ _
            clear hHeld
            obtain ⟨g0, g1, g2, g3, g4⟩ := HZ4.out.five
            go_wp2_with fail
            exact bodyPost_ret (v := .tuple #[.slice ah H.length ch, .slice az Lz.length cz, .agg #[.int .i64 f, .int .i64 b, .slice ap' Pz.length cp', .int .i64 l, .slice d M.length e], .int .i64 tz]) (by simp [results, Tryd.results64, go_sem, g0, g1, g2, g3, g4]) rfl HEND.out
end Go.Proofs.YtnnmgbgkgnejlaaDoor
