/-
  The document's RouteBest.
-/
import Derived.Test.YtfjfcdifnfffbaaDoorRtHv
import Derived.Test.YtfjfcdifnfffbaaDoorRtLw
namespace Go.Proofs.YtfjfcdifnfffbaaDoor
open Go.RowKit
set_option linter.unusedSimpArgs false
set_option linter.unusedVariables false

theorem map_at {L : List RV} {k : Nat} {v : RV} (h : L[k]? = some v) : (L.map RV.rt)[k]? = some v.rt := by rw [List.getElem?_map, h]; rfl
/-- how far the model has come -/
def BestT (l : List Rt) (k : Nat) (z : Int) : Prop := k = 0 ∧ z = -1 ∨ ∃ j : Nat, z = (j : Int) ∧ BestU l k j

set_option maxRecDepth 100000 in
set_option maxHeartbeats 2000000 in
theorem l4best_any (L : List RV) (a : Option Addr) (cap n : Nat) (w : World) (hn : n = L.length) (hA : RsA w a L) (hl : L.length ≤ 1100000) :
    Calls Tryd.prog 74 #[.slice a n cap] w fun e w' => ∃ z, e = .returned (.int .i64 z) ∧ BestT (L.map RV.rt) L.length z ∧ Below w.heap.size w w' := by
  subst hn
  have HA := Lib.hid hA
  clear hA
  go_enter Tryd.func74, Tryd.ntmps74
  go_wp2_with fail
  go_loopw [3, 4] (fun q i wr => ∃ (k : Nat) (z : Int), i = .int .i64 (k : Int) ∧ q = .int .i64 z ∧ k ≤ L.length ∧ Hid (BestT (L.map RV.rt) k z) ∧ Hid (Below w.heap.size w wr)) (fun _ i _ => L.length - (intOf i).toNat)
  case atStart => exact ⟨0, -1, rfl, rfl, Nat.zero_le _, Lib.hid (.inl ⟨rfl, rfl⟩), Lib.hid (Below.refl _ _)⟩
  case round =>
    obtain ⟨k, z, rfl, rfl, hk, HT, HW⟩ := hrel
    by_cases hlt : k < L.length
    · obtain ⟨v, hv⟩ : ∃ v, L[k]? = some v := ⟨_, List.getElem?_eq_getElem hlt⟩
      have HV := Lib.hid hv
      have i0 : (0 : Int) ≤ (k : Int) := by omega
      have i1 : (k : Int) < (L.length : Int) := by omega
      rcases HT.out with ⟨rfl, rfl⟩ | ⟨j, rfl, hU⟩
      · have HU : Hid (BestT (L.map RV.rt) (0 + 1) ((0 : Nat) : Int)) := Lib.hid (.inr ⟨0, rfl, BestU.one (map_at HV.out)⟩)
        clear hv HT
        go_wp2_with fail
        refine wp_region_held_drew (S := fun W => Hid (Below w.heap.size w W)) (by kernel_rfl) ?_ (fun hHeld => ?_)
        · exact Lib.hid HW.out.drew
        refine takeH (i := 0) (v := ?_) rfl rfl (by kernel_rfl) (by kernel_rfl) (by kernel_rfl) (fun _ _ _ h => h) (by rfl) ?_ (by assumption) ?_
        rotate_left 1
        · intro w hSw
          (try dsimp only at hSw)
          go_simp
          try with_reducible rfl
        try simp only [List.setIfInBounds_toArray, List.set_cons_zero, List.set_cons_succ]
        refine takeH (i := 1) (v := ?_) rfl rfl (by kernel_rfl) (by kernel_rfl) (by kernel_rfl) (fun _ _ _ h => h) (by rfl) ?_ (by assumption) ?_
        rotate_left 1
        · intro w hSw
          (try dsimp only at hSw)
          go_simp
          try with_reducible rfl
        try simp only [List.setIfInBounds_toArray, List.set_cons_zero, List.set_cons_succ]
        refine takeH (i := 2) (v := ?_) rfl rfl (by kernel_rfl) (by kernel_rfl) (by kernel_rfl) (fun _ _ _ h => h) (by rfl) ?_ (by assumption) ?_
        rotate_left 1
        · intro w hSw
          (try dsimp only at hSw)
          go_simp
          try with_reducible rfl
        try simp only [List.setIfInBounds_toArray, List.set_cons_zero, List.set_cons_succ]
        refine skipH (i := 3) rfl rfl (by kernel_rfl) (by kernel_rfl) (by kernel_rfl) (fun _ _ _ h => h) (by rfl) (by assumption) ?_
        try simp only [List.setIfInBounds_toArray, List.set_cons_zero, List.set_cons_succ]
        refine skipH (i := 4) rfl rfl (by kernel_rfl) (by kernel_rfl) (by kernel_rfl) (fun _ _ _ h => h) (by rfl) (by assumption) ?_
        try simp only [List.setIfInBounds_toArray, List.set_cons_zero, List.set_cons_succ]
        refine skipH (i := 5) rfl rfl (by kernel_rfl) (by kernel_rfl) (by kernel_rfl) (fun _ _ _ h => h) (by rfl) (by assumption) ?_
        try simp only [List.setIfInBounds_toArray, List.set_cons_zero, List.set_cons_succ]
        refine skipH (i := 6) rfl rfl (by kernel_rfl) (by kernel_rfl) (by kernel_rfl) (fun _ _ _ h => h) (by rfl) (by assumption) ?_
        try simp only [List.setIfInBounds_toArray, List.set_cons_zero, List.set_cons_succ]
        refine skipH (i := 7) rfl rfl (by kernel_rfl) (by kernel_rfl) (by kernel_rfl) (fun _ _ _ h => h) (by rfl) (by assumption) ?_
        try simp only [List.setIfInBounds_toArray, List.set_cons_zero, List.set_cons_succ]
        refine skipH (i := 8) rfl rfl (by kernel_rfl) (by kernel_rfl) (by kernel_rfl) (fun _ _ _ h => h) (by rfl) (by assumption) ?_
        try simp only [List.setIfInBounds_toArray, List.set_cons_zero, List.set_cons_succ]
        refine skipH (i := 9) rfl rfl (by kernel_rfl) (by kernel_rfl) (by kernel_rfl) (fun _ _ _ h => h) (by rfl) (by assumption) ?_
        try simp only [List.setIfInBounds_toArray, List.set_cons_zero, List.set_cons_succ]
        refine skipH (i := 10) rfl rfl (by kernel_rfl) (by kernel_rfl) (by kernel_rfl) (fun _ _ _ h => h) (by rfl) (by assumption) ?_
        try simp only [List.setIfInBounds_toArray, List.set_cons_zero, List.set_cons_succ]
        refine skipH (i := 11) rfl rfl (by kernel_rfl) (by kernel_rfl) (by kernel_rfl) (fun _ _ _ h => h) (by rfl) (by assumption) ?_
        try simp only [List.setIfInBounds_toArray, List.set_cons_zero, List.set_cons_succ]
        refine skipH (i := 12) rfl rfl (by kernel_rfl) (by kernel_rfl) (by kernel_rfl) (fun _ _ _ h => h) (by rfl) (by assumption) ?_
        try simp only [List.setIfInBounds_toArray, List.set_cons_zero, List.set_cons_succ]
        refine takeH (i := 13) (v := ?_) rfl rfl (by kernel_rfl) (by kernel_rfl) (by kernel_rfl) (fun _ _ _ h => h) (by rfl) ?_ (by assumption) ?_
        rotate_left 1
        · intro w hSw
          (try dsimp only at hSw)
          go_simp
          try with_reducible rfl
        try simp only [List.setIfInBounds_toArray, List.set_cons_zero, List.set_cons_succ]
        refine wpAnyH_done (by kernel_rfl) ?_ _
        have HW2 := Lib.hid hHeld.out
        clear hHeld HW
        go_wp2_with fail
        go_roundw
        case rel => exact ⟨0 + 1, ((0 : Nat) : Int), by go_num, rfl, by omega, HU, HW2⟩
        case measure => simp [intOf]; omega
      · have hjk : j < k := hU.choose_spec.2.1
        obtain ⟨u, hu⟩ : ∃ u, L[j]? = some u := ⟨_, List.getElem?_eq_getElem (by omega)⟩
        obtain ⟨b, off, rfl, ⟨q0, q1, q2, q3, q4⟩, hm1⟩ := (HA.out.below HW.out).at hv
        obtain ⟨b', off', eb, ⟨r0, r1, r2, r3, r4⟩, hm2⟩ := (HA.out.below HW.out).at hu
        obtain ⟨rfl, rfl⟩ : b = b' ∧ off = off' := by simpa using eb
        have j0 : (0 : Int) ≤ (j : Int) := by omega
        have j1 : (j : Int) < (L.length : Int) := by omega
        have j2 : ¬ (j : Int) < 0 := by omega
        have HU := Lib.hid hU
        have HJ := Lib.hid hu
        have HM1 : Hid (RtM _ v.a v.c v.P v.d v.e v.M) := Lib.hid hm1
        have HM2 : Hid (RtM _ u.a u.c u.P u.d u.e u.M) := Lib.hid hm2
        obtain ⟨x, hx⟩ : ∃ x, rtCmp0 v.rt u.rt = x := ⟨_, rfl⟩
        have HX : Hid (rtCmp0 (v.f, v.b, v.P, v.l, v.M) (u.f, u.b, u.P, u.l, u.M) = x) := Lib.hid hx
        have HC := Lib.hid (And.intro (And.intro q0 (And.intro q1 (And.intro q2 (And.intro q3 q4)))) (And.intro r0 (And.intro r1 (And.intro r2 (And.intro r3 r4)))))
        have hvals := rtCmp0_vals v.rt u.rt
        rw [hx] at hvals
        clear hv hu hU HT eb hm1 hm2 q0 q1 q2 q3 q4 r0 r1 r2 r3 r4 hx
        by_cases hneg : x < 0
        · have HN : Hid (BestT (L.map RV.rt) (k + 1) (k : Int)) := Lib.hid (.inr ⟨k, rfl, HU.out.turn (map_at HJ.out) (map_at HV.out) (by have := HX.out; show rtCmp0 v.rt u.rt = -1; exact this.trans (by omega))⟩)
          go_wp2_with fail
          refine wp_region_held_drew (S := fun W => ((W.cell? ⟨b, off + k * 5, none⟩ = some (.int .i64 v.f) ∧ W.cell? ⟨b, off + k * 5 + 1, none⟩ = some (.int .i64 v.b) ∧ W.cell? ⟨b, off + k * 5 + 2, none⟩ = some (.slice v.a v.P.length v.c) ∧ W.cell? ⟨b, off + k * 5 + 3, none⟩ = some (.int .i64 v.l) ∧ W.cell? ⟨b, off + k * 5 + 4, none⟩ = some (.slice v.d v.M.length v.e)) ∧ W.cell? ⟨b, off + j * 5, none⟩ = some (.int .i64 u.f) ∧ W.cell? ⟨b, off + j * 5 + 1, none⟩ = some (.int .i64 u.b) ∧ W.cell? ⟨b, off + j * 5 + 2, none⟩ = some (.slice u.a u.P.length u.c) ∧ W.cell? ⟨b, off + j * 5 + 3, none⟩ = some (.int .i64 u.l) ∧ W.cell? ⟨b, off + j * 5 + 4, none⟩ = some (.slice u.d u.M.length u.e)) ∧ Hid (Below w.heap.size w W ∧ RtM W v.a v.c v.P v.d v.e v.M ∧ RtM W u.a u.c u.P u.d u.e u.M)) (by kernel_rfl) ?_ (fun hHeld => ?_)
          · exact ⟨HC.out, Lib.hid ⟨HW.out.drew, HM1.out, HM2.out⟩⟩
          refine takeH (i := 0) (v := ?_) rfl rfl (by kernel_rfl) (by kernel_rfl) (by kernel_rfl) (fun _ _ _ h => h) (by rfl) ?_ (by assumption) ?_
          rotate_left 1
          · intro w hSw
            (try dsimp only at hSw)
            go_simp
            try with_reducible rfl
          try simp only [List.setIfInBounds_toArray, List.set_cons_zero, List.set_cons_succ]
          refine takeH (i := 1) (v := ?_) rfl rfl (by kernel_rfl) (by kernel_rfl) (by kernel_rfl) (fun _ _ _ h => h) (by rfl) ?_ (by assumption) ?_
          rotate_left 1
          · intro w hSw
            (try dsimp only at hSw)
            go_simp
            try with_reducible rfl
          try simp only [List.setIfInBounds_toArray, List.set_cons_zero, List.set_cons_succ]
          refine takeH (i := 2) (v := ?_) rfl rfl (by kernel_rfl) (by kernel_rfl) (by kernel_rfl) (fun _ _ _ h => h) (by rfl) ?_ (by assumption) ?_
          rotate_left 1
          · intro w hSw
            (try dsimp only at hSw)
            go_simp
            try with_reducible rfl
          try simp only [List.setIfInBounds_toArray, List.set_cons_zero, List.set_cons_succ]
          refine takeH (i := 3) (v := ?_) rfl rfl (by kernel_rfl) (by kernel_rfl) (by kernel_rfl) (fun _ _ _ h => h) (by rfl) ?_ (by assumption) ?_
          rotate_left 1
          · intro w hSw
            (try dsimp only at hSw)
            go_simp
            try with_reducible rfl
          try simp only [List.setIfInBounds_toArray, List.set_cons_zero, List.set_cons_succ]
          refine takeH (i := 4) (v := ?_) rfl rfl (by kernel_rfl) (by kernel_rfl) (by kernel_rfl) (fun _ _ _ h => h) (by rfl) ?_ (by assumption) ?_
          rotate_left 1
          · intro w hSw
            (try dsimp only at hSw)
            go_simp
            try with_reducible rfl
          try simp only [List.setIfInBounds_toArray, List.set_cons_zero, List.set_cons_succ]
          refine takeH (i := 5) (v := ?_) rfl rfl (by kernel_rfl) (by kernel_rfl) (by kernel_rfl) (fun _ _ _ h => h) (by rfl) ?_ (by assumption) ?_
          rotate_left 1
          · intro w hSw
            (try dsimp only at hSw)
            go_simp
            try with_reducible rfl
          try simp only [List.setIfInBounds_toArray, List.set_cons_zero, List.set_cons_succ]
          refine takeH (i := 6) (v := ?_) rfl rfl (by kernel_rfl) (by kernel_rfl) (by kernel_rfl) (fun _ _ _ h => h) (by rfl) ?_ (by assumption) ?_
          rotate_left 1
          · intro w hSw
            (try dsimp only at hSw)
            go_simp
            try with_reducible rfl
          try simp only [List.setIfInBounds_toArray, List.set_cons_zero, List.set_cons_succ]
          refine takeH (i := 7) (v := ?_) rfl rfl (by kernel_rfl) (by kernel_rfl) (by kernel_rfl) (fun _ _ _ h => h) (by rfl) ?_ (by assumption) ?_
          rotate_left 1
          · intro w hSw
            (try dsimp only at hSw)
            go_simp
            try with_reducible rfl
          try simp only [List.setIfInBounds_toArray, List.set_cons_zero, List.set_cons_succ]
          refine takeH (i := 8) (v := ?_) rfl rfl (by kernel_rfl) (by kernel_rfl) (by kernel_rfl) (fun _ _ _ h => h) (by rfl) ?_ (by assumption) ?_
          rotate_left 1
          · intro w hSw
            (try dsimp only at hSw)
            go_simp
            try with_reducible rfl
          try simp only [List.setIfInBounds_toArray, List.set_cons_zero, List.set_cons_succ]
          refine takeH (i := 9) (v := ?_) rfl rfl (by kernel_rfl) (by kernel_rfl) (by kernel_rfl) (fun _ _ _ h => h) (by rfl) ?_ (by assumption) ?_
          rotate_left 1
          · intro w hSw
            (try dsimp only at hSw)
            go_simp
            try with_reducible rfl
          try simp only [List.setIfInBounds_toArray, List.set_cons_zero, List.set_cons_succ]
          refine takeH (i := 10) (v := ?_) rfl rfl (by kernel_rfl) (by kernel_rfl) (by kernel_rfl) (fun _ _ _ h => h) (by rfl) ?_ (by assumption) ?_
          rotate_left 1
          · intro w hSw
            (try dsimp only at hSw)
            go_simp
            try with_reducible rfl
          try simp only [List.setIfInBounds_toArray, List.set_cons_zero, List.set_cons_succ]
          refine wpAnyH_ready (rs := [11]) (by kernel_rfl) (by simp) ?_
          refine AllReadyH.cons rfl (fun K hK => ?_) (AllReadyH.nil)
          go_simp
          refine (l4cmp_is v.f v.b v.a v.c v.P v.l v.d v.e v.M u.f u.b u.a u.c u.P u.l u.d u.e u.M HX.out _ hHeld.2.out.2.1 hHeld.2.out.2.2).mono ?_
          rintro en wc ⟨rfl, bc⟩
          go_wp2_with fail
          refine hK.out _ _ ?_ (fun hNew => ?_)
          · exact ⟨⟨⟨cell_later bc hHeld.1.1.1, cell_later bc hHeld.1.1.2.1, cell_later bc hHeld.1.1.2.2.1, cell_later bc hHeld.1.1.2.2.2.1, cell_later bc hHeld.1.1.2.2.2.2⟩, cell_later bc hHeld.1.2.1, cell_later bc hHeld.1.2.2.1, cell_later bc hHeld.1.2.2.2.1, cell_later bc hHeld.1.2.2.2.2.1, cell_later bc hHeld.1.2.2.2.2.2⟩, Lib.hid ⟨next hHeld.2.out.1 bc, hHeld.2.out.2.1.below bc, hHeld.2.out.2.2.below bc⟩⟩
          clear hK K hHeld
          have hHeld := hNew
          clear hNew
          try simp only [Act.put, List.setIfInBounds_toArray, List.set_cons_zero, List.set_cons_succ]
          refine takeH (i := 12) (v := ?_) rfl rfl (by kernel_rfl) (by kernel_rfl) (by kernel_rfl) (fun _ _ _ h => h) (by rfl) ?_ (by assumption) ?_
          rotate_left 1
          · intro w hSw
            (try dsimp only at hSw)
            go_simp
            try with_reducible rfl
          try simp only [List.setIfInBounds_toArray, List.set_cons_zero, List.set_cons_succ]
          refine takeH (i := 13) (v := ?_) rfl rfl (by kernel_rfl) (by kernel_rfl) (by kernel_rfl) (fun _ _ _ h => h) (by rfl) ?_ (by assumption) ?_
          rotate_left 1
          · intro w hSw
            (try dsimp only at hSw)
            go_simp
            try with_reducible rfl
          try simp only [List.setIfInBounds_toArray, List.set_cons_zero, List.set_cons_succ]
          refine wpAnyH_done (by kernel_rfl) ?_ _
          have HW2 := Lib.hid hHeld.2.out.1
          clear hHeld HW HC
          go_wp2_with fail
          go_roundw
          case rel => exact ⟨k + 1, (k : Int), by go_num, rfl, by omega, HN, HW2⟩
          case measure => simp [intOf]; omega
        · have HN : Hid (BestT (L.map RV.rt) (k + 1) (j : Int)) := Lib.hid (.inr ⟨j, rfl, HU.out.stay (map_at HJ.out) (map_at HV.out) (by have := HX.out; show rtCmp0 v.rt u.rt ≠ -1; intro h; have h2 : rtCmp0 v.rt u.rt = x := this; omega)⟩)
          go_wp2_with fail
          refine wp_region_held_drew (S := fun W => ((W.cell? ⟨b, off + k * 5, none⟩ = some (.int .i64 v.f) ∧ W.cell? ⟨b, off + k * 5 + 1, none⟩ = some (.int .i64 v.b) ∧ W.cell? ⟨b, off + k * 5 + 2, none⟩ = some (.slice v.a v.P.length v.c) ∧ W.cell? ⟨b, off + k * 5 + 3, none⟩ = some (.int .i64 v.l) ∧ W.cell? ⟨b, off + k * 5 + 4, none⟩ = some (.slice v.d v.M.length v.e)) ∧ W.cell? ⟨b, off + j * 5, none⟩ = some (.int .i64 u.f) ∧ W.cell? ⟨b, off + j * 5 + 1, none⟩ = some (.int .i64 u.b) ∧ W.cell? ⟨b, off + j * 5 + 2, none⟩ = some (.slice u.a u.P.length u.c) ∧ W.cell? ⟨b, off + j * 5 + 3, none⟩ = some (.int .i64 u.l) ∧ W.cell? ⟨b, off + j * 5 + 4, none⟩ = some (.slice u.d u.M.length u.e)) ∧ Hid (Below w.heap.size w W ∧ RtM W v.a v.c v.P v.d v.e v.M ∧ RtM W u.a u.c u.P u.d u.e u.M)) (by kernel_rfl) ?_ (fun hHeld => ?_)
          · exact ⟨HC.out, Lib.hid ⟨HW.out.drew, HM1.out, HM2.out⟩⟩
          refine takeH (i := 0) (v := ?_) rfl rfl (by kernel_rfl) (by kernel_rfl) (by kernel_rfl) (fun _ _ _ h => h) (by rfl) ?_ (by assumption) ?_
          rotate_left 1
          · intro w hSw
            (try dsimp only at hSw)
            go_simp
            try with_reducible rfl
          try simp only [List.setIfInBounds_toArray, List.set_cons_zero, List.set_cons_succ]
          refine takeH (i := 1) (v := ?_) rfl rfl (by kernel_rfl) (by kernel_rfl) (by kernel_rfl) (fun _ _ _ h => h) (by rfl) ?_ (by assumption) ?_
          rotate_left 1
          · intro w hSw
            (try dsimp only at hSw)
            go_simp
            try with_reducible rfl
          try simp only [List.setIfInBounds_toArray, List.set_cons_zero, List.set_cons_succ]
          refine takeH (i := 2) (v := ?_) rfl rfl (by kernel_rfl) (by kernel_rfl) (by kernel_rfl) (fun _ _ _ h => h) (by rfl) ?_ (by assumption) ?_
          rotate_left 1
          · intro w hSw
            (try dsimp only at hSw)
            go_simp
            try with_reducible rfl
          try simp only [List.setIfInBounds_toArray, List.set_cons_zero, List.set_cons_succ]
          refine takeH (i := 3) (v := ?_) rfl rfl (by kernel_rfl) (by kernel_rfl) (by kernel_rfl) (fun _ _ _ h => h) (by rfl) ?_ (by assumption) ?_
          rotate_left 1
          · intro w hSw
            (try dsimp only at hSw)
            go_simp
            try with_reducible rfl
          try simp only [List.setIfInBounds_toArray, List.set_cons_zero, List.set_cons_succ]
          refine takeH (i := 4) (v := ?_) rfl rfl (by kernel_rfl) (by kernel_rfl) (by kernel_rfl) (fun _ _ _ h => h) (by rfl) ?_ (by assumption) ?_
          rotate_left 1
          · intro w hSw
            (try dsimp only at hSw)
            go_simp
            try with_reducible rfl
          try simp only [List.setIfInBounds_toArray, List.set_cons_zero, List.set_cons_succ]
          refine takeH (i := 5) (v := ?_) rfl rfl (by kernel_rfl) (by kernel_rfl) (by kernel_rfl) (fun _ _ _ h => h) (by rfl) ?_ (by assumption) ?_
          rotate_left 1
          · intro w hSw
            (try dsimp only at hSw)
            go_simp
            try with_reducible rfl
          try simp only [List.setIfInBounds_toArray, List.set_cons_zero, List.set_cons_succ]
          refine takeH (i := 6) (v := ?_) rfl rfl (by kernel_rfl) (by kernel_rfl) (by kernel_rfl) (fun _ _ _ h => h) (by rfl) ?_ (by assumption) ?_
          rotate_left 1
          · intro w hSw
            (try dsimp only at hSw)
            go_simp
            try with_reducible rfl
          try simp only [List.setIfInBounds_toArray, List.set_cons_zero, List.set_cons_succ]
          refine takeH (i := 7) (v := ?_) rfl rfl (by kernel_rfl) (by kernel_rfl) (by kernel_rfl) (fun _ _ _ h => h) (by rfl) ?_ (by assumption) ?_
          rotate_left 1
          · intro w hSw
            (try dsimp only at hSw)
            go_simp
            try with_reducible rfl
          try simp only [List.setIfInBounds_toArray, List.set_cons_zero, List.set_cons_succ]
          refine takeH (i := 8) (v := ?_) rfl rfl (by kernel_rfl) (by kernel_rfl) (by kernel_rfl) (fun _ _ _ h => h) (by rfl) ?_ (by assumption) ?_
          rotate_left 1
          · intro w hSw
            (try dsimp only at hSw)
            go_simp
            try with_reducible rfl
          try simp only [List.setIfInBounds_toArray, List.set_cons_zero, List.set_cons_succ]
          refine takeH (i := 9) (v := ?_) rfl rfl (by kernel_rfl) (by kernel_rfl) (by kernel_rfl) (fun _ _ _ h => h) (by rfl) ?_ (by assumption) ?_
          rotate_left 1
          · intro w hSw
            (try dsimp only at hSw)
            go_simp
            try with_reducible rfl
          try simp only [List.setIfInBounds_toArray, List.set_cons_zero, List.set_cons_succ]
          refine takeH (i := 10) (v := ?_) rfl rfl (by kernel_rfl) (by kernel_rfl) (by kernel_rfl) (fun _ _ _ h => h) (by rfl) ?_ (by assumption) ?_
          rotate_left 1
          · intro w hSw
            (try dsimp only at hSw)
            go_simp
            try with_reducible rfl
          try simp only [List.setIfInBounds_toArray, List.set_cons_zero, List.set_cons_succ]
          refine wpAnyH_ready (rs := [11]) (by kernel_rfl) (by simp) ?_
          refine AllReadyH.cons rfl (fun K hK => ?_) (AllReadyH.nil)
          go_simp
          refine (l4cmp_is v.f v.b v.a v.c v.P v.l v.d v.e v.M u.f u.b u.a u.c u.P u.l u.d u.e u.M HX.out _ hHeld.2.out.2.1 hHeld.2.out.2.2).mono ?_
          rintro en wc ⟨rfl, bc⟩
          go_wp2_with fail
          refine hK.out _ _ ?_ (fun hNew => ?_)
          · exact ⟨⟨⟨cell_later bc hHeld.1.1.1, cell_later bc hHeld.1.1.2.1, cell_later bc hHeld.1.1.2.2.1, cell_later bc hHeld.1.1.2.2.2.1, cell_later bc hHeld.1.1.2.2.2.2⟩, cell_later bc hHeld.1.2.1, cell_later bc hHeld.1.2.2.1, cell_later bc hHeld.1.2.2.2.1, cell_later bc hHeld.1.2.2.2.2.1, cell_later bc hHeld.1.2.2.2.2.2⟩, Lib.hid ⟨next hHeld.2.out.1 bc, hHeld.2.out.2.1.below bc, hHeld.2.out.2.2.below bc⟩⟩
          clear hK K hHeld
          have hHeld := hNew
          clear hNew
          try simp only [Act.put, List.setIfInBounds_toArray, List.set_cons_zero, List.set_cons_succ]
          refine takeH (i := 12) (v := ?_) rfl rfl (by kernel_rfl) (by kernel_rfl) (by kernel_rfl) (fun _ _ _ h => h) (by rfl) ?_ (by assumption) ?_
          rotate_left 1
          · intro w hSw
            (try dsimp only at hSw)
            go_simp
            try with_reducible rfl
          try simp only [List.setIfInBounds_toArray, List.set_cons_zero, List.set_cons_succ]
          refine takeH (i := 13) (v := ?_) rfl rfl (by kernel_rfl) (by kernel_rfl) (by kernel_rfl) (fun _ _ _ h => h) (by rfl) ?_ (by assumption) ?_
          rotate_left 1
          · intro w hSw
            (try dsimp only at hSw)
            go_simp
            try with_reducible rfl
          try simp only [List.setIfInBounds_toArray, List.set_cons_zero, List.set_cons_succ]
          refine wpAnyH_done (by kernel_rfl) ?_ _
          have HW2 := Lib.hid hHeld.2.out.1
          clear hHeld HW HC
          go_wp2_with fail
          go_roundw
          case rel => exact ⟨k + 1, (j : Int), by go_num, rfl, by omega, HN, HW2⟩
          case measure => simp [intOf]; omega
    · obtain rfl : k = L.length := by omega
      go_wp2_with fail
      go_ret
      exact ⟨z, rfl, HT.out, HW.out⟩

set_option maxRecDepth 100000 in
set_option maxHeartbeats 2000000 in
theorem sbest_is (L : List RV) (a : Option Addr) (cap n : Nat) (w : World) {z : Int} (hz : BestIs (L.map RV.rt) z) (hn : n = L.length) (hA : RsA w a L) (hl : L.length ≤ 1100000) :
    Calls Tryd.prog 36 #[.slice a n cap] w fun e w' => e = .returned (.int .i64 z) ∧ Below w.heap.size w w' := by
  subst hn
  have HA := Lib.hid hA
  have HZ := Lib.hid hz
  clear hA hz
  go_enter Tryd.func36, Tryd.ntmps36
  go_wp2_with fail
  go_loopw [3] (fun i wr => ∃ (k : Nat), i = .int .i64 (k : Int) ∧ k ≤ L.length ∧ Hid (∀ y, y < k → RtGood (rvAt L y).rt) ∧ Hid (Below w.heap.size w wr)) (fun i _ => L.length - (intOf i).toNat)
  case atStart => exact ⟨0, rfl, Nat.zero_le _, Lib.hid (fun y hy => by omega), Lib.hid (Below.refl _ _)⟩
  case round =>
    obtain ⟨k, rfl, hk, HG, HW⟩ := hrel
    by_cases hlt : k < L.length
    · obtain ⟨v, hv⟩ : ∃ v, L[k]? = some v := ⟨_, List.getElem?_eq_getElem hlt⟩
      obtain ⟨b, off, rfl, ⟨q0, q1, q2, q3, q4⟩, hm⟩ := (HA.out.below HW.out).at hv
      have HV := Lib.hid hv
      have HM : Hid (RtM _ v.a v.c v.P v.d v.e v.M) := Lib.hid hm
      have i0 : (0 : Int) ≤ (k : Int) := by omega
      have i1 : (k : Int) < (L.length : Int) := by omega
      clear hv hm
      cases hx : rtOk (v.f, v.b, v.P, v.l, v.M) with
      | false =>
        have HR := Lib.hid (best_no HZ.out (List.mem_map.2 ⟨v, List.mem_of_getElem? HV.out, rfl⟩) hx)
        have HO := Lib.hid hx
        clear hx
        go_wp2_with fail
        refine (srok_is v.f v.b v.a v.c v.P v.l v.d v.e v.M HO.out _ HM.out).mono ?_
        rintro en w3 ⟨rfl, b3⟩
        have HW3 := Lib.hid (next HW.out b3)
        clear b3 q0 q1 q2 q3 q4
        go_wp2_with fail
        go_ret
        exact ⟨ret_int HR.out, HW3.out⟩
      | true =>
        have HO := Lib.hid hx
        clear hx
        go_wp2_with fail
        refine (srok_is v.f v.b v.a v.c v.P v.l v.d v.e v.M HO.out _ HM.out).mono ?_
        rintro en w3 ⟨rfl, b3⟩
        have HW3 := Lib.hid (next HW.out b3)
        have HG3 : Hid (∀ y, y < k + 1 → RtGood (rvAt L y).rt) := Lib.hid (fun y hy => by
          by_cases e : y = k
          · subst e; rw [rvAt_is HV.out]; exact (rtOk_iff _).1 HO.out
          · exact HG.out y (by omega))
        clear b3 q0 q1 q2 q3 q4 HG
        go_wp2_with fail
        go_roundw
        case rel => exact ⟨k + 1, by go_num, by omega, HG3, HW3⟩
        case measure => simp [intOf]; omega
    · obtain rfl : k = L.length := by omega
      go_wp2_with fail
      refine (l4best_any L a cap _ _ rfl (HA.out.below HW.out) hl).mono ?_
      rintro en w3 ⟨y, rfl, hT, b3⟩
      have HR : Hid (y = z) := Lib.hid (by
        rcases hT with ⟨e, rfl⟩ | ⟨j, rfl, hU⟩
        · have : L = [] := List.eq_nil_of_length_eq_zero e
          subst this
          exact BestIs.same (.inr ⟨.inl rfl, rfl⟩) HZ.out
        · have hne : L.map RV.rt ≠ [] := fun e => by
            have h1 : L = [] := List.map_eq_nil_iff.1 e
            subst h1
            obtain ⟨r, h, _⟩ := hU
            simp at h
          exact BestIs.same (.inl ⟨hne, all_good HG.out, j, rfl, BestU.all (by rw [List.length_map]; exact hU)⟩) HZ.out)
      have HW3 := Lib.hid (next HW.out b3)
      clear hT b3
      go_wp2_with fail
      go_ret
      exact ⟨ret_int HR.out, HW3.out⟩
end Go.Proofs.YtfjfcdifnfffbaaDoor
