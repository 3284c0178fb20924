/-
  Slices of routes that come in: how much they hold; two slices of routes compared.
-/
import Derived.Test.YtioppkalehnoaaaGreatDoorRtVr
import Derived.Test.YtioppkalehnoaaaGreatDoorRtHw
import Derived.Test.YtioppkalehnoaaaGreatDoorRtTo
namespace Go.Proofs.YtioppkalehnoaaaGreatDoor
open Go.RowKit
set_option linter.unusedSimpArgs false
set_option linter.unusedVariables false

/-- a slice of routes that came in: nothing is said yet of how long the parts are -/
def RsB (w : World) (a : Option Addr) (L : List RV) : Prop :=
  (L = [] ∨ ∃ b off, a = some ⟨b, off, none⟩ ∧ ∀ (i : Nat) v, L[i]? = some v → w.cell? ⟨b, off + i * 5, none⟩ = some (.int .i64 v.f) ∧ w.cell? ⟨b, off + i * 5 + 1, none⟩ = some (.int .i64 v.b) ∧ w.cell? ⟨b, off + i * 5 + 2, none⟩ = some (.slice v.a v.P.length v.c) ∧ w.cell? ⟨b, off + i * 5 + 3, none⟩ = some (.int .i64 v.l) ∧ w.cell? ⟨b, off + i * 5 + 4, none⟩ = some (.slice v.d v.M.length v.e)) ∧
  ∀ v ∈ L, ((IntA w v.a v.P ∧ IntA w v.d v.M) ∧ v.P.length ≤ v.c ∧ v.M.length ≤ v.e) ∧ v.P.length ≤ 9223372036854775807 ∧ v.M.length ≤ 9223372036854775807
theorem RsB.below {w w' : World} {a : Option Addr} {L : List RV} (h : RsB w a L) (k : Below w.heap.size w w') : RsB w' a L := by
  refine ⟨?_, fun v hv => ⟨⟨⟨(h.2 v hv).1.1.1.below k, (h.2 v hv).1.1.2.below k⟩, (h.2 v hv).1.2⟩, (h.2 v hv).2⟩⟩
  rcases h.1 with h | ⟨b, off, e, h⟩
  · exact .inl h
  · refine .inr ⟨b, off, e, fun i v hi => ?_⟩
    obtain ⟨h0, h1, h2, h3, h4⟩ := h i v hi
    exact ⟨cell_later k h0, cell_later k h1, cell_later k h2, cell_later k h3, cell_later k h4⟩
/-- small parts: it is a slice of routes -/
theorem RsB.rsa {w : World} {a : Option Addr} {L : List RV} (h : RsB w a L) (hs : ∀ v ∈ L, v.P.length ≤ 1048576 ∧ v.M.length ≤ 1048576) : RsA w a L :=
  ⟨h.1, fun v hv => ⟨(h.2 v hv).1.1, (h.2 v hv).1.2.1, (h.2 v hv).1.2.2, by have := (hs v hv).1; omega, by have := (hs v hv).2; omega⟩⟩

set_option maxRecDepth 100000 in
set_option maxHeartbeats 2000000 in
theorem szs_any (L : List RV) (a : Option Addr) (cap n : Nat) (w : World) (hn : n = L.length) (hA : RsB w a L) (hl : L.length ≤ 9223372036854775807) :
    Calls Tryz.prog 17 #[.slice a n cap, .int .i64 1048576] w fun e w' => ∃ z, e = .returned (.int .i64 z) ∧ (0 ≤ z → L.length ≤ 1048576 ∧ ∀ v ∈ L, v.P.length ≤ 1048576 ∧ v.M.length ≤ 1048576) ∧ Below w.heap.size w w' := by
  subst hn
  have HA := Lib.hid hA
  clear hA
  have s1 : IntKind.i64.wrap (1048576 - (L.length : Int)) = 1048576 - (L.length : Int) := by rw [IntKind.wrap_i64]; omega
  by_cases hbig : 1048576 < L.length
  · have d1 : (1048576 : Int) - (L.length : Int) < 0 := by omega
    go_enter Tryz.func17, Tryz.ntmps17
    go_wp2_with fail
    go_ret
    exact ⟨-1, rfl, fun h => by omega, Below.refl _ _⟩
  · have d1 : ¬ (1048576 : Int) - (L.length : Int) < 0 := by omega
    go_enter Tryz.func17, Tryz.ntmps17
    go_wp2_with fail
    go_loopw [1, 5] (fun q i wr => ∃ (k : Nat) (z : Int), i = .int .i64 (k : Int) ∧ q = .int .i64 z ∧ k ≤ L.length ∧ 0 ≤ z ∧ z ≤ 1048576 ∧ Hid (∀ (j : Nat) v, j < k → L[j]? = some v → v.P.length ≤ 1048576 ∧ v.M.length ≤ 1048576) ∧ Hid (Below w.heap.size w wr)) (fun _ i _ => L.length - (intOf i).toNat)
    case atStart => exact ⟨0, _, rfl, rfl, Nat.zero_le _, by omega, by omega, Lib.hid (fun j v hj => by omega), Lib.hid (Below.refl _ _)⟩
    case round =>
      obtain ⟨k, z, rfl, rfl, hk, hz0, hz1, HS, HW⟩ := hrel
      by_cases hlt : k < L.length
      · obtain ⟨v, hv⟩ : ∃ v, L[k]? = some v := ⟨_, List.getElem?_eq_getElem hlt⟩
        have HV := Lib.hid hv
        have hmem := List.mem_of_getElem? hv
        have hB := HA.out.below HW.out
        obtain ⟨b, off, rfl, q0, q1, q2, q3, q4⟩ : ∃ b off, a = some ⟨b, off, none⟩ ∧ wr.cell? ⟨b, off + k * 5, none⟩ = some (.int .i64 v.f) ∧ wr.cell? ⟨b, off + k * 5 + 1, none⟩ = some (.int .i64 v.b) ∧ wr.cell? ⟨b, off + k * 5 + 2, none⟩ = some (.slice v.a v.P.length v.c) ∧ wr.cell? ⟨b, off + k * 5 + 3, none⟩ = some (.int .i64 v.l) ∧ wr.cell? ⟨b, off + k * 5 + 4, none⟩ = some (.slice v.d v.M.length v.e) := by
          rcases hB.1 with rfl | ⟨b, off, e, h⟩
          · simp at hv
          · obtain ⟨h0, h1, h2, h3, h4⟩ := h k v hv
            exact ⟨b, off, e, h0, h1, h2, h3, h4⟩
        have hp1 := (hB.2 v hmem).2.1
        have hp2 := (hB.2 v hmem).2.2
        have i0 : (0 : Int) ≤ (k : Int) := by omega
        have i1 : (k : Int) < (L.length : Int) := by omega
        clear hv hmem hB
        by_cases hfit : (v.P.length : Int) + v.M.length ≤ z
        · have HZ := Lib.hid (szR_pos hfit)
          have d2 : ¬ z - (v.P.length : Int) - (v.M.length : Int) < 0 := by omega
          have HS2 : Hid (∀ (j : Nat) u, j < k + 1 → L[j]? = some u → u.P.length ≤ 1048576 ∧ u.M.length ≤ 1048576) := Lib.hid (fun j u hj hu => by
            by_cases e : j = k
            · subst e
              rw [HV.out] at hu
              cases hu
              omega
            · exact HS.out j u (by omega) hu)
          obtain ⟨y, hy⟩ : ∃ y, z - (v.P.length : Int) - (v.M.length : Int) = y := ⟨_, rfl⟩
          rw [hy] at HZ d2
          have hy0 : 0 ≤ y ∧ y ≤ 1048576 := by omega
          clear hy hfit
          go_wp2_with fail
          refine (szrt_is v.f v.b v.l v.a v.d _ v.c _ v.e HZ.out hz0 (by omega) hp1 hp2 _).mono ?_
          rintro en w3 ⟨rfl, b3⟩
          have HW3 := Lib.hid (next HW.out b3)
          clear b3 q0 q1 q2 q3 q4
          go_wp2_with fail
          go_roundw
          case rel => exact ⟨k + 1, y, by go_num, rfl, by omega, hy0.1, hy0.2, HS2, HW3⟩
          case measure => simp [intOf]; omega
        · have HZ := Lib.hid (szR_neg (left := z) (n := v.P.length) (m := v.M.length) (by omega))
          go_wp2_with fail
          refine (szrt_is v.f v.b v.l v.a v.d _ v.c _ v.e HZ.out hz0 (by omega) hp1 hp2 _).mono ?_
          rintro en w3 ⟨rfl, b3⟩
          have HW3 := Lib.hid (next HW.out b3)
          clear b3 q0 q1 q2 q3 q4
          go_wp2_with fail
          go_ret
          exact ⟨-1, rfl, fun h => by omega, HW3.out⟩
      · obtain rfl : k = L.length := by omega
        go_wp2_with fail
        go_ret
        exact ⟨z, rfl, fun _ => ⟨by omega, fun v hv => by
          obtain ⟨i, hi⟩ := List.mem_iff_getElem?.1 hv
          exact HS.out i v (List.getElem?_eq_some_iff.1 hi).1 hi⟩, HW.out⟩

set_option maxRecDepth 100000 in
set_option maxHeartbeats 2000000 in
theorem eqs_is (L M : List RV) (a a' : Option Addr) (cap cap' n m : Nat) (w : World) (hn : n = L.length) (hm : m = M.length) (hA : RsA w a L) (hB : RsA w a' M) (he : L.map RV.rt = M.map RV.rt) (hl : L.length ≤ 1100000) :
    Calls Tryz.prog 21 #[.slice a n cap, .slice a' m cap'] w fun e w' => e = .returned (.bool true) ∧ Below w.heap.size w w' := by
  subst hn hm
  have hlen : L.length = M.length := by have := congrArg List.length he; simpa using this
  have HA := Lib.hid hA
  have HB := Lib.hid hB
  have HQ := Lib.hid he
  have HL := Lib.hid hlen
  have e1 : ((L.length : Int) != (M.length : Int)) = false := by rw [hlen]; simp
  clear hA hB he hlen
  go_enter Tryz.func21, Tryz.ntmps21
  go_wp2_with fail
  go_loopw [5] (fun i wr => ∃ (k : Nat), i = .int .i64 (k : Int) ∧ k ≤ L.length ∧ Hid (Below w.heap.size w wr)) (fun i _ => L.length - (intOf i).toNat)
  case atStart => exact ⟨0, rfl, Nat.zero_le _, Lib.hid (Below.refl _ _)⟩
  case round =>
    obtain ⟨k, rfl, hk, HW⟩ := hrel
    by_cases hlt : k < L.length
    · obtain ⟨v, hv⟩ : ∃ v, L[k]? = some v := ⟨_, List.getElem?_eq_getElem hlt⟩
      obtain ⟨u, hu⟩ : ∃ u, M[k]? = some u := ⟨_, List.getElem?_eq_getElem (by have := HL.out; omega)⟩
      obtain ⟨b, off, rfl, hq, hm1⟩ := (HA.out.below HW.out).at hv
      obtain ⟨b', off', rfl, hr, hm2⟩ := (HB.out.below HW.out).at hu
      have HC := Lib.hid (And.intro hq hr)
      have HM1 : Hid (RtM _ v.a v.c v.P v.d v.e v.M) := Lib.hid hm1
      have HM2 : Hid (RtM _ u.a u.c u.P u.d u.e u.M) := Lib.hid hm2
      have HX : Hid (decide (((v.f, v.b, v.P, v.l, v.M) : Rt) = (u.f, u.b, u.P, u.l, u.M)) = true) := Lib.hid (decide_eq_true (by
        have h1 := map_at hv
        rw [HQ.out, map_at hu] at h1
        show v.rt = u.rt
        simpa using h1.symm))
      have i0 : (0 : Int) ≤ (k : Int) := by omega
      have i1 : (k : Int) < (L.length : Int) := by omega
      have i2 : (k : Int) < (M.length : Int) := by have := HL.out; omega
      clear hv hu hq hr hm1 hm2
      go_wp2_with fail
      refine wp_region_held_drew (S := fun W => ((W.cell? ⟨b, off + k * 5, none⟩ = some (.int .i64 v.f) ∧ W.cell? ⟨b, off + k * 5 + 1, none⟩ = some (.int .i64 v.b) ∧ W.cell? ⟨b, off + k * 5 + 2, none⟩ = some (.slice v.a v.P.length v.c) ∧ W.cell? ⟨b, off + k * 5 + 3, none⟩ = some (.int .i64 v.l) ∧ W.cell? ⟨b, off + k * 5 + 4, none⟩ = some (.slice v.d v.M.length v.e)) ∧ W.cell? ⟨b', off' + k * 5, none⟩ = some (.int .i64 u.f) ∧ W.cell? ⟨b', off' + k * 5 + 1, none⟩ = some (.int .i64 u.b) ∧ W.cell? ⟨b', off' + k * 5 + 2, none⟩ = some (.slice u.a u.P.length u.c) ∧ W.cell? ⟨b', off' + k * 5 + 3, none⟩ = some (.int .i64 u.l) ∧ W.cell? ⟨b', off' + k * 5 + 4, none⟩ = some (.slice u.d u.M.length u.e)) ∧ Hid (Below w.heap.size w W ∧ RtM W v.a v.c v.P v.d v.e v.M ∧ RtM W u.a u.c u.P u.d u.e u.M)) (by kernel_rfl) ?_ (fun hHeld => ?_)
      · exact ⟨HC.out, Lib.hid ⟨HW.out.drew, HM1.out, HM2.out⟩⟩
      refine takeH (i := 0) (v := ?_) rfl rfl (by kernel_rfl) (by kernel_rfl) (by kernel_rfl) (fun _ _ _ h => h) (by rfl) ?_ (by assumption) ?_
      rotate_left 1
      · intro w hSw
        (try dsimp only at hSw)
        go_simp
        try with_reducible rfl
      try simp only [List.setIfInBounds_toArray, List.set_cons_zero, List.set_cons_succ]
      refine takeH (i := 1) (v := ?_) rfl rfl (by kernel_rfl) (by kernel_rfl) (by kernel_rfl) (fun _ _ _ h => h) (by rfl) ?_ (by assumption) ?_
      rotate_left 1
      · intro w hSw
        (try dsimp only at hSw)
        go_simp
        try with_reducible rfl
      try simp only [List.setIfInBounds_toArray, List.set_cons_zero, List.set_cons_succ]
      refine takeH (i := 2) (v := ?_) rfl rfl (by kernel_rfl) (by kernel_rfl) (by kernel_rfl) (fun _ _ _ h => h) (by rfl) ?_ (by assumption) ?_
      rotate_left 1
      · intro w hSw
        (try dsimp only at hSw)
        go_simp
        try with_reducible rfl
      try simp only [List.setIfInBounds_toArray, List.set_cons_zero, List.set_cons_succ]
      refine takeH (i := 3) (v := ?_) rfl rfl (by kernel_rfl) (by kernel_rfl) (by kernel_rfl) (fun _ _ _ h => h) (by rfl) ?_ (by assumption) ?_
      rotate_left 1
      · intro w hSw
        (try dsimp only at hSw)
        go_simp
        try with_reducible rfl
      try simp only [List.setIfInBounds_toArray, List.set_cons_zero, List.set_cons_succ]
      refine takeH (i := 4) (v := ?_) rfl rfl (by kernel_rfl) (by kernel_rfl) (by kernel_rfl) (fun _ _ _ h => h) (by rfl) ?_ (by assumption) ?_
      rotate_left 1
      · intro w hSw
        (try dsimp only at hSw)
        go_simp
        try with_reducible rfl
      try simp only [List.setIfInBounds_toArray, List.set_cons_zero, List.set_cons_succ]
      refine takeH (i := 5) (v := ?_) rfl rfl (by kernel_rfl) (by kernel_rfl) (by kernel_rfl) (fun _ _ _ h => h) (by rfl) ?_ (by assumption) ?_
      rotate_left 1
      · intro w hSw
        (try dsimp only at hSw)
        go_simp
        try with_reducible rfl
      try simp only [List.setIfInBounds_toArray, List.set_cons_zero, List.set_cons_succ]
      refine takeH (i := 6) (v := ?_) rfl rfl (by kernel_rfl) (by kernel_rfl) (by kernel_rfl) (fun _ _ _ h => h) (by rfl) ?_ (by assumption) ?_
      rotate_left 1
      · intro w hSw
        (try dsimp only at hSw)
        go_simp
        try with_reducible rfl
      try simp only [List.setIfInBounds_toArray, List.set_cons_zero, List.set_cons_succ]
      refine takeH (i := 7) (v := ?_) rfl rfl (by kernel_rfl) (by kernel_rfl) (by kernel_rfl) (fun _ _ _ h => h) (by rfl) ?_ (by assumption) ?_
      rotate_left 1
      · intro w hSw
        (try dsimp only at hSw)
        go_simp
        try with_reducible rfl
      try simp only [List.setIfInBounds_toArray, List.set_cons_zero, List.set_cons_succ]
      refine wpAnyH_ready (rs := [8]) (by kernel_rfl) (by simp) ?_
      refine AllReadyH.cons rfl (fun K hK => ?_) (AllReadyH.nil)
      go_simp
      refine (eqrt_is v.f v.b v.a v.c v.P v.l v.d v.e v.M u.f u.b u.a u.c u.P u.l u.d u.e u.M HX.out _ hHeld.2.out.2.1 hHeld.2.out.2.2).mono ?_
      rintro en wc ⟨rfl, bc⟩
      go_wp2_with fail
      refine hK.out _ _ ?_ (fun hNew => ?_)
      · exact ⟨⟨⟨cell_later bc hHeld.1.1.1, cell_later bc hHeld.1.1.2.1, cell_later bc hHeld.1.1.2.2.1, cell_later bc hHeld.1.1.2.2.2.1, cell_later bc hHeld.1.1.2.2.2.2⟩, cell_later bc hHeld.1.2.1, cell_later bc hHeld.1.2.2.1, cell_later bc hHeld.1.2.2.2.1, cell_later bc hHeld.1.2.2.2.2.1, cell_later bc hHeld.1.2.2.2.2.2⟩, Lib.hid ⟨next hHeld.2.out.1 bc, hHeld.2.out.2.1.below bc, hHeld.2.out.2.2.below bc⟩⟩
      clear hK K hHeld
      have hHeld := hNew
      clear hNew
      try simp only [Act.put, List.setIfInBounds_toArray, List.set_cons_zero, List.set_cons_succ]
      refine takeH (i := 9) (v := ?_) rfl rfl (by kernel_rfl) (by kernel_rfl) (by kernel_rfl) (fun _ _ _ h => h) (by rfl) ?_ (by assumption) ?_
      rotate_left 1
      · intro w hSw
        (try dsimp only at hSw)
        go_simp
        try with_reducible rfl
      try simp only [List.setIfInBounds_toArray, List.set_cons_zero, List.set_cons_succ]
      refine wpAnyH_done (by kernel_rfl) ?_ _
      have HW2 := Lib.hid hHeld.2.out.1
      clear hHeld HC HW
      go_wp2_with fail
      go_roundw
      case rel => exact ⟨k + 1, by go_num, by omega, HW2⟩
      case measure => simp [intOf]; omega
    · obtain rfl : k = L.length := by omega
      go_wp2_with fail
      go_ret
      exact ⟨rfl, HW.out⟩
end Go.Proofs.YtioppkalehnoaaaGreatDoor
