/-
  A drawn policy and a drawn list of routes (DrawPolicyAll); are two lists of routes the same (lyRoutes).
-/
import Derived.Test.YtioppkalehnoaaaGreatDoorClPb
import Derived.Test.YtioppkalehnoaaaGreatDoorClDu
import Derived.Test.YtioppkalehnoaaaGreatDoorRtLw
namespace Go.Proofs.YtioppkalehnoaaaGreatDoor
open Go.RowKit
set_option linter.unusedSimpArgs false
set_option linter.unusedVariables false

set_option maxRecDepth 100000 in
set_option maxHeartbeats 2000000 in
theorem routes4_any (w : World) (B p : Nat) (hp : p < 100000) (hr : Rd w B p) :
    Calls Tryz.prog 46 #[.pointer (some ⟨B, 0, none⟩), .int .i64 4] w fun e w' => ∃ (L : List RV) (g cap : Nat), e = .returned (.slice (some ⟨g, 0, none⟩) L.length cap) ∧ L.length ≤ 4 ∧ RtsO w' w.heap.size g cap L ∧ w.grownBy w' (some B) := by
  have hBw := rd_lt hr
  have HR := Lib.hid (rd_alloc hr (.cells #[] 32))
  have HO := Lib.hid (ownw_empty w w.heap.size (Nat.le_refl _))
  have HG := Lib.hid (only_alloc (World.grownBy.refl w (some B)) (.cells #[] 32))
  clear hr
  go_enter Tryz.func46, Tryz.ntmps46
  go_wp2_with fail
  refine (pick_any 5 _ B p (by omega) (by omega) HR.out).mono ?_
  rintro en w1 ⟨y, y0, y1, rfl, hr1, hg1⟩
  have HI : Hid (RtsI w B (p + 1) [] w.heap.size 0 w1) := Lib.hid ⟨⟨World.ownsRow.kept HO.out hg1 (.inr (fun e => by simp [Value.ownBlock] at e; omega)), fun v hv => by cases hv⟩, ⟨_, hr1, Nat.le_refl _⟩, only_on HG.out hg1⟩
  clear hr1 hg1 HR HO HG
  obtain ⟨ny, rfl⟩ := Int.eq_ofNat_of_zero_le y0
  go_wp2_with fail
  go_loopw [5, 6] (fun l i wr => ∃ (k : Nat) (L : List RV) (g cap : Nat), i = .int .i64 (k : Int) ∧ l = .slice (some ⟨g, 0, none⟩) L.length cap ∧ k + L.length ≤ 4 ∧ Hid (RtsI w B (p + 1 + 60 * L.length) L g cap wr)) (fun _ i _ => (intOf i).toNat)
  case atStart => exact ⟨ny, [], w.heap.size, 0, rfl, rfl, by simp; omega, HI⟩
  case round =>
    clear HI
    obtain ⟨k, L, g, cap, rfl, rfl, hk, HI⟩ := hrel
    by_cases hk0 : k = 0
    · subst hk0
      have i0 : ¬ (0 : Int) < ((0 : Nat) : Int) := by omega
      go_wp2_with fail
      go_ret
      exact ⟨L, g, cap, rfl, by omega, HI.out.1, HI.out.2.2⟩
    · have i0 : (0 : Int) < (k : Int) := by omega
      have i1 : IntKind.i64.wrap ((k : Int) - 1) = ((k - 1 : Nat) : Int) := by rw [IntKind.wrap_i64]; omega
      obtain ⟨q', hr', hq'⟩ := HI.out.2.1
      have hws := HI.out.2.2.size
      go_wp2_with fail
      refine (route_any _ B q' (by omega) hr').mono ?_
      rintro en w2 ⟨f, b, l, P, M, pv, mv, q2, rfl, ⟨hlP, hlM⟩, ⟨o1, o2⟩, hr2, hq2, hg2⟩
      obtain ⟨a, c, rfl, _, _⟩ := OwnI.tab o1
      obtain ⟨d, e, rfl, _, _⟩ := OwnI.tab o2
      have hgs := hg2.size
      have HO2 := Lib.hid (HI.out.1.pick hg2 hBw)
      have HV : Hid ((⟨f, b, a, c, P, l, d, e, M⟩ : RV).own w2 w.heap.size ∧ P.length ≤ 6 ∧ M.length ≤ 11) := Lib.hid ⟨⟨owni_mono o1 hws, owni_mono o2 hws⟩, hlP, hlM⟩
      have HR2 := Lib.hid (And.intro hr2 (only_on HI.out.2.2 hg2))
      have HN := Lib.hid (new5 w2 ⟨f, b, a, c, P, l, d, e, M⟩)
      clear hr2 hg2 o1 o2 hr' HI
      go_wp2_with (at_builtin; refine wpList_appV rfl (.tmp 16) (.tmp 19) rfl w.heap.size g cap L _ rfl rfl ?e1 w2.heap.size 1 1 [⟨f, b, a, c, P, l, d, e, M⟩] rfl rfl ?e2 ?e3 ?e4 ?e5)
      case e1 => exact (HO2.out.alloc _).1
      case e2 => exact HN.out
      case e3 => (simp; omega)
      case e4 => (simp; omega)
      intro g5 cap5 w5 own5 grow5
      have HI5 : Hid (RtsI w B (p + 1 + 60 * (L.length + 1)) (L ++ [⟨f, b, a, c, P, l, d, e, M⟩]) g5 cap5 w5) := Lib.hid ⟨(HO2.out.alloc _).app ⟨⟨World.ownsRow.alloc HV.out.1.1 _, World.ownsRow.alloc HV.out.1.2 _⟩, HV.out.2⟩ own5 grow5, ⟨q2, prd_own (v := .slice (some ⟨g, 0, none⟩) L.length cap) (R := w.heap.size) (rd_alloc HR2.out.1 _) (by simpa [Value.ownBlock] using grow5) (fun k hk => by have := (OwnW.low HO2.out.1).1; simp [Value.ownBlock] at hk; omega) hBw, by omega⟩, ponly_own (v := .slice (some ⟨g, 0, none⟩) L.length cap) (only_alloc HR2.out.2 _) (by simpa [Value.ownBlock] using grow5) (fun k hk => by have := (OwnW.low HO2.out.1).1; simp [Value.ownBlock] at hk; omega)⟩
      have hLl : (L ++ [(⟨f, b, a, c, P, l, d, e, M⟩ : RV)]).length = L.length + 1 := by simp
      clear own5 grow5 HN HR2 HV HO2
      generalize L ++ [(⟨f, b, a, c, P, l, d, e, M⟩ : RV)] = L5 at *
      have HLl := Lib.hid hLl
      clear hLl
      go_wp2_with fail
      go_roundw
      case rel => exact ⟨k - 1, L5, g5, cap5, rfl, by rw [HLl.out], by have := HLl.out; omega, by have := HLl.out; rw [this]; exact HI5⟩
      case measure => simp [intOf]; omega

/-- a drawn policy and a drawn list of routes -/
def DnPA (w : World) (en : Ending) (w' : World) : Prop := ∃ (v : Value) (L : List CL) (LR : List RV) (g cap : Nat), en = .returned (.tuple #[v, .slice (some ⟨g, 0, none⟩) LR.length cap]) ∧ L.length ≤ 4 ∧ LR.length ≤ 4 ∧ OwnC w' w.heap.size v L ∧ RtsO w' w.heap.size g cap LR ∧ Below w.heap.size w w'
theorem rtso_mono {w : World} {R R' g cap : Nat} {L : List RV} (h : RtsO w R g cap L) (hR : R' ≤ R) : RtsO w R' g cap L := ⟨World.ownsRow.mono h.1 hR, fun v hv => ⟨(h.2 v hv).1.mono hR, (h.2 v hv).2⟩⟩
set_option maxRecDepth 100000 in
set_option maxHeartbeats 4000000 in
theorem dPolicyAll_any (a0 : Option Addr) (len0 cap0 : Nat) (zs0 : List Int) (w : World) (h : IsRow w a0 len0 cap0 zs0) :
    Calls Tryz.prog 24 #[.slice a0 len0 cap0] w (DnPA w) := by
  have H0 := Lib.hid h
  clear h
  go_enter Tryz.func24, Tryz.ntmps24
  go_wp2_with fail
  refine (open_any a0 len0 cap0 zs0 _ H0.out).mono ?_
  rintro en w1 ⟨rfl, hr, b1⟩
  have R1 := Lib.hid hr
  have B1 := Lib.hid b1
  have hB := rd_lt hr
  have hw1 := b1.size
  clear hr b1 H0
  generalize hBB : w.heap.size = B at *
  go_wp2_with fail
  refine (policy_any _ B 0 (by omega) R1.out).mono ?_
  rintro en w2 ⟨v, L, rfl, hl, oc, ⟨q2, hr2, hq2⟩, hg2⟩
  obtain ⟨av, cv, rfl, _, _⟩ := OwnC.tab oc
  have H2 := Lib.hid (And.intro oc (And.intro hr2 (below_only B1.out hg2 hw1 (by omega))))
  have hs2 := hg2.size
  clear oc hr2 hg2 B1 R1
  go_wp2_with fail
  refine (routes4_any _ B q2 (by omega) H2.out.2.1).mono ?_
  rintro en w3 ⟨LR, g, cap, rfl, hlR, hO, hg3⟩
  have hs3 := hg3.size
  have H3 := Lib.hid (And.intro (ownc_mono (ownc_pick H2.out.1 hg3 hB) hw1) (And.intro (rtso_mono hO (by omega : B ≤ w2.heap.size)) (below_only H2.out.2.2 hg3 (by omega) (by omega))))
  clear hO hg3 H2
  go_wp2_with fail
  refine bodyPost_ret (v := .tuple #[.slice av L.length cv, .slice (some ⟨g, 0, none⟩) LR.length cap]) (by simp [results, Tryz.results24, go_sem]) rfl ?_
  subst hBB
  exact ⟨_, L, LR, g, cap, rfl, hl, hlR, H3.out.1, H3.out.2.1, H3.out.2.2⟩

set_option maxRecDepth 100000 in
set_option maxHeartbeats 2000000 in
theorem lyRs_is (L M : List RV) (a a' : Option Addr) (cap cap' n m : Nat) (w : World) (hn : n = L.length) (hm : m = M.length) (hA : RsA w a L) (hB : RsA w a' M) (he : L.map RV.rt = M.map RV.rt) (hl : L.length ≤ 1100000) :
    Calls Tryz.prog 25 #[.slice a n cap, .slice a' m cap'] w fun e w' => e = .returned (.bool true) ∧ Below w.heap.size w w' := by
  subst hn hm
  have hlen : L.length = M.length := by have := congrArg List.length he; simpa using this
  have HA := Lib.hid hA
  have HB := Lib.hid hB
  have HQ := Lib.hid he
  have HL := Lib.hid hlen
  have e1 : ((L.length : Int) != (M.length : Int)) = false := by rw [hlen]; simp
  clear hA hB he hlen
  go_enter Tryz.func25, Tryz.ntmps25
  go_wp2_with fail
  go_loopw [5] (fun i wr => ∃ (k : Nat), i = .int .i64 (k : Int) ∧ k ≤ L.length ∧ Hid (Below w.heap.size w wr)) (fun i _ => L.length - (intOf i).toNat)
  case atStart => exact ⟨0, rfl, Nat.zero_le _, Lib.hid (Below.refl _ _)⟩
  case round =>
    obtain ⟨k, rfl, hk, HW⟩ := hrel
    by_cases hlt : k < L.length
    · obtain ⟨v, hv⟩ : ∃ v, L[k]? = some v := ⟨_, List.getElem?_eq_getElem hlt⟩
      obtain ⟨u, hu⟩ : ∃ u, M[k]? = some u := ⟨_, List.getElem?_eq_getElem (by have := HL.out; omega)⟩
      obtain ⟨b, off, rfl, hq, hm1⟩ := (HA.out.below HW.out).at hv
      obtain ⟨b', off', rfl, hr, hm2⟩ := (HB.out.below HW.out).at hu
      have HC := Lib.hid (And.intro hq hr)
      have HM1 : Hid (RtM _ v.a v.c v.P v.d v.e v.M) := Lib.hid hm1
      have HM2 : Hid (RtM _ u.a u.c u.P u.d u.e u.M) := Lib.hid hm2
      have HX : Hid (decide (((v.f, v.b, v.P, v.l, v.M) : Rt) = (u.f, u.b, u.P, u.l, u.M)) = true) := Lib.hid (decide_eq_true (by
        have h1 := rmap_at hv
        rw [HQ.out, rmap_at hu] at h1
        show v.rt = u.rt
        simpa using h1.symm))
      have i0 : (0 : Int) ≤ (k : Int) := by omega
      have i1 : (k : Int) < (L.length : Int) := by omega
      have i2 : (k : Int) < (M.length : Int) := by have := HL.out; omega
      clear hv hu hq hr hm1 hm2
      go_wp2_with fail
      refine wp_region_held_drew (S := fun W => ((W.cell? ⟨b, off + k * 5, none⟩ = some (.int .i64 v.f) ∧ W.cell? ⟨b, off + k * 5 + 1, none⟩ = some (.int .i64 v.b) ∧ W.cell? ⟨b, off + k * 5 + 2, none⟩ = some (.slice v.a v.P.length v.c) ∧ W.cell? ⟨b, off + k * 5 + 3, none⟩ = some (.int .i64 v.l) ∧ W.cell? ⟨b, off + k * 5 + 4, none⟩ = some (.slice v.d v.M.length v.e)) ∧ W.cell? ⟨b', off' + k * 5, none⟩ = some (.int .i64 u.f) ∧ W.cell? ⟨b', off' + k * 5 + 1, none⟩ = some (.int .i64 u.b) ∧ W.cell? ⟨b', off' + k * 5 + 2, none⟩ = some (.slice u.a u.P.length u.c) ∧ W.cell? ⟨b', off' + k * 5 + 3, none⟩ = some (.int .i64 u.l) ∧ W.cell? ⟨b', off' + k * 5 + 4, none⟩ = some (.slice u.d u.M.length u.e)) ∧ Hid (Below w.heap.size w W ∧ RtM W v.a v.c v.P v.d v.e v.M ∧ RtM W u.a u.c u.P u.d u.e u.M)) (by kernel_rfl) ?_ (fun hHeld => ?_)
      · exact ⟨HC.out, Lib.hid ⟨HW.out.drew, HM1.out, HM2.out⟩⟩
      refine takeH (i := 0) (v := ?_) rfl rfl (by kernel_rfl) (by kernel_rfl) (by kernel_rfl) (fun _ _ _ h => h) (by rfl) ?_ (by assumption) ?_
      rotate_left 1
      · intro w hSw
        (try dsimp only at hSw)
        go_simp
        try with_reducible rfl
      try simp only [List.setIfInBounds_toArray, List.set_cons_zero, List.set_cons_succ]
      refine takeH (i := 1) (v := ?_) rfl rfl (by kernel_rfl) (by kernel_rfl) (by kernel_rfl) (fun _ _ _ h => h) (by rfl) ?_ (by assumption) ?_
      rotate_left 1
      · intro w hSw
        (try dsimp only at hSw)
        go_simp
        try with_reducible rfl
      try simp only [List.setIfInBounds_toArray, List.set_cons_zero, List.set_cons_succ]
      refine takeH (i := 2) (v := ?_) rfl rfl (by kernel_rfl) (by kernel_rfl) (by kernel_rfl) (fun _ _ _ h => h) (by rfl) ?_ (by assumption) ?_
      rotate_left 1
      · intro w hSw
        (try dsimp only at hSw)
        go_simp
        try with_reducible rfl
      try simp only [List.setIfInBounds_toArray, List.set_cons_zero, List.set_cons_succ]
      refine takeH (i := 3) (v := ?_) rfl rfl (by kernel_rfl) (by kernel_rfl) (by kernel_rfl) (fun _ _ _ h => h) (by rfl) ?_ (by assumption) ?_
      rotate_left 1
      · intro w hSw
        (try dsimp only at hSw)
        go_simp
        try with_reducible rfl
      try simp only [List.setIfInBounds_toArray, List.set_cons_zero, List.set_cons_succ]
      refine takeH (i := 4) (v := ?_) rfl rfl (by kernel_rfl) (by kernel_rfl) (by kernel_rfl) (fun _ _ _ h => h) (by rfl) ?_ (by assumption) ?_
      rotate_left 1
      · intro w hSw
        (try dsimp only at hSw)
        go_simp
        try with_reducible rfl
      try simp only [List.setIfInBounds_toArray, List.set_cons_zero, List.set_cons_succ]
      refine takeH (i := 5) (v := ?_) rfl rfl (by kernel_rfl) (by kernel_rfl) (by kernel_rfl) (fun _ _ _ h => h) (by rfl) ?_ (by assumption) ?_
      rotate_left 1
      · intro w hSw
        (try dsimp only at hSw)
        go_simp
        try with_reducible rfl
      try simp only [List.setIfInBounds_toArray, List.set_cons_zero, List.set_cons_succ]
      refine takeH (i := 6) (v := ?_) rfl rfl (by kernel_rfl) (by kernel_rfl) (by kernel_rfl) (fun _ _ _ h => h) (by rfl) ?_ (by assumption) ?_
      rotate_left 1
      · intro w hSw
        (try dsimp only at hSw)
        go_simp
        try with_reducible rfl
      try simp only [List.setIfInBounds_toArray, List.set_cons_zero, List.set_cons_succ]
      refine takeH (i := 7) (v := ?_) rfl rfl (by kernel_rfl) (by kernel_rfl) (by kernel_rfl) (fun _ _ _ h => h) (by rfl) ?_ (by assumption) ?_
      rotate_left 1
      · intro w hSw
        (try dsimp only at hSw)
        go_simp
        try with_reducible rfl
      try simp only [List.setIfInBounds_toArray, List.set_cons_zero, List.set_cons_succ]
      refine wpAnyH_ready (rs := [8]) (by kernel_rfl) (by simp) ?_
      refine AllReadyH.cons rfl (fun K hK => ?_) (AllReadyH.nil)
      go_simp
      refine (lyrt_is v.f v.b v.a v.c v.P v.l v.d v.e v.M u.f u.b u.a u.c u.P u.l u.d u.e u.M HX.out _ hHeld.2.out.2.1 hHeld.2.out.2.2).mono ?_
      rintro en wc ⟨rfl, bc⟩
      go_wp2_with fail
      refine hK.out _ _ ?_ (fun hNew => ?_)
      · exact ⟨⟨⟨cell_later bc hHeld.1.1.1, cell_later bc hHeld.1.1.2.1, cell_later bc hHeld.1.1.2.2.1, cell_later bc hHeld.1.1.2.2.2.1, cell_later bc hHeld.1.1.2.2.2.2⟩, cell_later bc hHeld.1.2.1, cell_later bc hHeld.1.2.2.1, cell_later bc hHeld.1.2.2.2.1, cell_later bc hHeld.1.2.2.2.2.1, cell_later bc hHeld.1.2.2.2.2.2⟩, Lib.hid ⟨next hHeld.2.out.1 bc, hHeld.2.out.2.1.below bc, hHeld.2.out.2.2.below bc⟩⟩
      clear hK K hHeld
      have hHeld := hNew
      clear hNew
      try simp only [Act.put, List.setIfInBounds_toArray, List.set_cons_zero, List.set_cons_succ]
      refine takeH (i := 9) (v := ?_) rfl rfl (by kernel_rfl) (by kernel_rfl) (by kernel_rfl) (fun _ _ _ h => h) (by rfl) ?_ (by assumption) ?_
      rotate_left 1
      · intro w hSw
        (try dsimp only at hSw)
        go_simp
        try with_reducible rfl
      try simp only [List.setIfInBounds_toArray, List.set_cons_zero, List.set_cons_succ]
      refine wpAnyH_done (by kernel_rfl) ?_ _
      have HW2 := Lib.hid hHeld.2.out.1
      clear hHeld HC HW
      go_wp2_with fail
      go_roundw
      case rel => exact ⟨k + 1, by go_num, by omega, HW2⟩
      case measure => simp [intOf]; omega
    · obtain rfl : k = L.length := by omega
      go_wp2_with fail
      go_ret
      exact ⟨rfl, HW.out⟩

end Go.Proofs.YtioppkalehnoaaaGreatDoor
