/-
  The law that who holds a range holds all in it: the walk.
-/
import Derived.Test.YtnnmgbgkgnejlaaSlDh
import Derived.Test.YtnnmgbgkgnejlaaSlHd
import Derived.Test.YtnnmgbgkgnejlaaLawK
namespace Go.Proofs.Ytnnmgbgkgnejlaa
open Go.RowKit
set_option linter.unusedSimpArgs false
set_option linter.unusedVariables false

theorem holds_none {L : List HV} {h f b : Int} (ho : okB f b = false) : holdsB L h f b = false := by
  rw [holdsB_any, List.any_eq_false]
  intro v _ hv
  simp only [hasR, Bool.and_eq_true] at hv
  have := ((inB_iff f b v.f v.b).1 hv.2).1
  rw [ho] at this; cases this
theorem holds_in {L : List HV} {h f b g c : Int} (hh : holdsB L h f b = true) (hi : inB g c f b = true) : holdsB L h g c = true := by
  rw [holdsB_any, List.any_eq_true] at hh ⊢
  obtain ⟨v, hv, hp⟩ := hh
  simp only [hasR, Bool.and_eq_true] at hp
  exact ⟨v, hv, by simp only [hasR, Bool.and_eq_true]; exact ⟨hp.1, in_trans hi hp.2⟩⟩
theorem half_of {f b F C : Int} {u : Bool} (h : halfV f b u = .tuple #[.agg #[.int .i64 F, .int .i64 C], .bool true]) : inB F C f b = true := by
  by_cases hn : halfB f b = true
  · rw [halfV_yes u hn] at h
    simp only [Value.tuple.injEq, Array.mk.injEq, List.cons.injEq, Value.agg.injEq, Value.int.injEq, true_and, and_true] at h
    obtain ⟨rfl, rfl⟩ := h
    exact half_in u hn
  · rw [halfV_no u (by simpa using hn)] at h
    simp at h
theorem take_any {α : Type} {p : α → Bool} {L : List α} {I : Nat} {x : α} (hx : L[I]? = some x) : (L.take (I + 1)).any p = ((L.take I).any p || p x) := by
  rw [List.take_add_one, hx]; simp
set_option maxRecDepth 100000 in
set_option maxHeartbeats 4000000 in
theorem lawHold (a0 : Option Addr) (len0 cap0 : Nat) (zs0 : List Int) (w : World) (h0 : IsRow w a0 len0 cap0 zs0) :
    Calls Try.prog 3 #[.slice a0 len0 cap0] w fun e w' => e = .returned (.bool true) ∧ Below w.heap.size w w' := by
  have H0 := Lib.hid h0
  clear h0
  by_cases hl0 : (1048576 : Int) < (len0 : Int)
  · go_enter Try.func3, Try.ntmps3
    go_wp2_with fail
    go_ret
    exact ⟨rfl, Below.refl _ _⟩
  go_enter Try.func3, Try.ntmps3
  go_wp2_with fail
  refine (dHoldHas_any a0 len0 cap0 zs0 _ H0.out).mono ?_
  rintro en w1 ⟨L, la, lc, h, f, b, rfl, hL4, hA, b1⟩
  have HA := Lib.hid hA
  have HB := Lib.hid b1
  clear hA b1
  go_wp2_with (refine wpList_stY rfl 25 _ _ rfl w1.heap.size #[.int .i64 f, .int .i64 b] ?x1 ?y1 ?o1 ?i1 _ (AtY.n2 w1 _ _ _) rfl ?g1)
  try case x1 => simp [Act.eval]
  try case y1 => simp [Act.eval]
  try case o1 => simp [Value.oneCell']
  try case i1 => exact infoRg
  intro w2 a2 g2
  have b2 : Below w1.heap.size w1 w2 := ((Below.refl w1.heap.size w1).alloc (Nat.le_refl _) _).grown g2 (by simp) (fun k hk => by cases hk; exact Nat.le_refl _)
  have HS := Lib.hid (show HvA w2 la L ∧ AtY w2 w1.heap.size [.int .i64 f, .int .i64 b] ∧ Below w.heap.size w w2 from ⟨HA.out.below b2, a2, next HB.out b2⟩)
  clear a2 g2 b2 HA HB
  generalize w1.heap.size = X at *
  obtain ⟨z, hz⟩ : ∃ z, holdsB L h f b = z := ⟨_, rfl⟩
  have HZ := Lib.hid hz
  obtain ⟨o, ho⟩ : ∃ o, okB f b = o := ⟨_, rfl⟩
  have HO := Lib.hid ho
  have HOZ := Lib.hid (show (okB f b && holdsB L h f b) = z by
    rw [hz, ho]
    cases o with
    | true => simp
    | false => rw [← hz, holds_none ho]; rfl)
  have HNZ := Lib.hid (show o = false → z = false from fun e => by rw [← hz]; exact holds_none (by rw [ho, e]))
  clear hz ho
  obtain ⟨q0, q1⟩ := HS.out.2.1.two
  go_wp2_with fail
  refine (iholdhas_is L h f b HZ.out la lc _ _ rfl HS.out.1 (by omega)).mono ?_
  rintro en w3 ⟨rfl, b3⟩
  have HS3 := Lib.hid (show HvA w3 la L ∧ AtY w3 X [.int .i64 f, .int .i64 b] ∧ Below w.heap.size w w3 from ⟨HS.out.1.below b3, HS.out.2.1.below b3, next HS.out.2.2 b3⟩)
  clear b3 HS q0 q1
  obtain ⟨q0, q1⟩ := HS3.out.2.1.two
  go_wp2_with fail
  refine (sholdhas_is L h f b HOZ.out la lc _ _ rfl HS3.out.1 (by omega)).mono ?_
  rintro en w4 ⟨rfl, b4⟩
  have HS4 := Lib.hid (show HvA w4 la L ∧ AtY w4 X [.int .i64 f, .int .i64 b] ∧ Below w.heap.size w w4 from ⟨HS3.out.1.below b4, HS3.out.2.1.below b4, next HS3.out.2.2 b4⟩)
  clear b4 HS3 q0 q1
  obtain ⟨q0, q1⟩ := HS4.out.2.1.two
  have e1 : (z != z) = false := by simp
  have e2 : (z == z) = true := by simp
  go_wp2_with fail
  refine (sok_is HO.out _).mono ?_
  rintro en w5 ⟨rfl, b5⟩
  have HS5 := Lib.hid (show HvA w5 la L ∧ AtY w5 X [.int .i64 f, .int .i64 b] ∧ Below w.heap.size w w5 from ⟨HS4.out.1.below b5, HS4.out.2.1.below b5, next HS4.out.2.2 b5⟩)
  clear b5 HS4 q0 q1
  obtain ⟨q0, q1⟩ := HS5.out.2.1.two
  cases o with
  | false =>
    go_wp2_with fail
    refine (sholdhas_is L h f b HOZ.out la lc _ _ rfl HS5.out.1 (by omega)).mono ?_
    rintro en w6 ⟨rfl, b6⟩
    have HB6 := Lib.hid (next HS5.out.2.2 b6)
    clear b6
    go_wp2_with fail
    go_ret
    exact ⟨ret_bool (by simp), HB6.out⟩
  | true =>
    go_wp2_with fail
    go_loopw [7, 8] (fun c i wr => ∃ (I : Nat) (acc : Bool), I ≤ L.length ∧ c = .bool acc ∧ i = .int .i64 I ∧ Hid ((L.take I).any (hasR h f b) = acc) ∧ Hid (Below w5.heap.size w5 wr)) (fun _ i _ => L.length - (intOf i).toNat)
    case atStart => exact ⟨0, false, Nat.zero_le _, rfl, rfl, Lib.hid rfl, Lib.hid (Below.refl _ _)⟩
    case round =>
      clear q0 q1
      obtain ⟨I, acc, hI, rfl, rfl, HC, HW⟩ := hrel
      have HS6 := Lib.hid (show HvA wr la L ∧ AtY wr X [.int .i64 f, .int .i64 b] ∧ Below w.heap.size w wr from ⟨HS5.out.1.below HW.out, HS5.out.2.1.below HW.out, next HS5.out.2.2 HW.out⟩)
      obtain ⟨q0, q1⟩ := HS6.out.2.1.two
      by_cases hlt : I < L.length
      · obtain ⟨g, hg⟩ : ∃ g, L[I]? = some g := ⟨_, List.getElem?_eq_getElem hlt⟩
        obtain ⟨gb, go, rfl, hgc⟩ := HS6.out.1.at hg
        have HST := Lib.hid (show (L.take (I + 1)).any (hasR h f b) = (acc || (decide (g.h = h) && inB f b g.f g.b)) by rw [take_any hg, HC.out]; rfl)
        obtain ⟨gh, gf, gB⟩ := g
        obtain ⟨c0, c1, c2⟩ := hgc
        dsimp only at c0 c1 c2 HST
        have HQC := Lib.hid (And.intro (And.intro q0 q1) (And.intro c0 (And.intro c1 c2)))
        have i0 : (0 : Int) ≤ (I : Int) := by omega
        have i1 : (I : Int) < (L.length : Int) := by omega
        clear hg
        cases acc with
        | true =>
          have HN := Lib.hid (show (L.take (I + 1)).any (hasR h f b) = true by rw [HST.out]; rfl)
          go_upto_region 11 with fail
          clear q0 q1 c0 c1 c2
          refine wp_region_held_drew (S := fun Wx => True ∧ Hid (Below wr.heap.size wr Wx)) (by kernel_rfl) ?_ (fun hHeld => ?_)
          · exact ⟨trivial, Lib.hid (Below.refl _ wr).drew⟩
          refine takeH (i := 0) (v := ?_) rfl rfl (by kernel_rfl) (by kernel_rfl) (by kernel_rfl) (fun _ _ _ h => h) (by rfl) ?_ (by assumption) ?_
          rotate_left 1
          · intro w hSw
            (try dsimp only at hSw)
            go_simp
            try with_reducible rfl
          try simp only [List.setIfInBounds_toArray, List.set_cons_zero, List.set_cons_succ]
          refine takeH (i := 1) (v := ?_) rfl rfl (by kernel_rfl) (by kernel_rfl) (by kernel_rfl) (fun _ _ _ h => h) (by rfl) ?_ (by assumption) ?_
          rotate_left 1
          · intro w hSw
            (try dsimp only at hSw)
            go_simp
            try with_reducible rfl
          try simp only [List.setIfInBounds_toArray, List.set_cons_zero, List.set_cons_succ]
          refine skipH (i := 2) rfl rfl (by kernel_rfl) (by kernel_rfl) (by kernel_rfl) (fun _ _ _ h => h) (by rfl) (by assumption) ?_
          try simp only [List.setIfInBounds_toArray, List.set_cons_zero, List.set_cons_succ]
          refine skipH (i := 3) rfl rfl (by kernel_rfl) (by kernel_rfl) (by kernel_rfl) (fun _ _ _ h => h) (by rfl) (by assumption) ?_
          try simp only [List.setIfInBounds_toArray, List.set_cons_zero, List.set_cons_succ]
          refine skipH (i := 4) rfl rfl (by kernel_rfl) (by kernel_rfl) (by kernel_rfl) (fun _ _ _ h => h) (by rfl) (by assumption) ?_
          try simp only [List.setIfInBounds_toArray, List.set_cons_zero, List.set_cons_succ]
          refine skipH (i := 5) rfl rfl (by kernel_rfl) (by kernel_rfl) (by kernel_rfl) (fun _ _ _ h => h) (by rfl) (by assumption) ?_
          try simp only [List.setIfInBounds_toArray, List.set_cons_zero, List.set_cons_succ]
          refine skipH (i := 6) rfl rfl (by kernel_rfl) (by kernel_rfl) (by kernel_rfl) (fun _ _ _ h => h) (by rfl) (by assumption) ?_
          try simp only [List.setIfInBounds_toArray, List.set_cons_zero, List.set_cons_succ]
          refine skipH (i := 7) rfl rfl (by kernel_rfl) (by kernel_rfl) (by kernel_rfl) (fun _ _ _ h => h) (by rfl) (by assumption) ?_
          try simp only [List.setIfInBounds_toArray, List.set_cons_zero, List.set_cons_succ]
          refine skipH (i := 8) rfl rfl (by kernel_rfl) (by kernel_rfl) (by kernel_rfl) (fun _ _ _ h => h) (by rfl) (by assumption) ?_
          try simp only [List.setIfInBounds_toArray, List.set_cons_zero, List.set_cons_succ]
          refine skipH (i := 9) rfl rfl (by kernel_rfl) (by kernel_rfl) (by kernel_rfl) (fun _ _ _ h => h) (by rfl) (by assumption) ?_
          try simp only [List.setIfInBounds_toArray, List.set_cons_zero, List.set_cons_succ]
          refine skipH (i := 10) rfl rfl (by kernel_rfl) (by kernel_rfl) (by kernel_rfl) (fun _ _ _ h => h) (by rfl) (by assumption) ?_
          try simp only [List.setIfInBounds_toArray, List.set_cons_zero, List.set_cons_succ]
          refine skipH (i := 11) rfl rfl (by kernel_rfl) (by kernel_rfl) (by kernel_rfl) (fun _ _ _ h => h) (by rfl) (by assumption) ?_
          try simp only [List.setIfInBounds_toArray, List.set_cons_zero, List.set_cons_succ]
          refine skipH (i := 12) rfl rfl (by kernel_rfl) (by kernel_rfl) (by kernel_rfl) (fun _ _ _ h => h) (by rfl) (by assumption) ?_
          try simp only [List.setIfInBounds_toArray, List.set_cons_zero, List.set_cons_succ]
          refine skipH (i := 13) rfl rfl (by kernel_rfl) (by kernel_rfl) (by kernel_rfl) (fun _ _ _ h => h) (by rfl) (by assumption) ?_
          try simp only [List.setIfInBounds_toArray, List.set_cons_zero, List.set_cons_succ]
          refine skipH (i := 14) rfl rfl (by kernel_rfl) (by kernel_rfl) (by kernel_rfl) (fun _ _ _ h => h) (by rfl) (by assumption) ?_
          try simp only [List.setIfInBounds_toArray, List.set_cons_zero, List.set_cons_succ]
          refine skipH (i := 15) rfl rfl (by kernel_rfl) (by kernel_rfl) (by kernel_rfl) (fun _ _ _ h => h) (by rfl) (by assumption) ?_
          try simp only [List.setIfInBounds_toArray, List.set_cons_zero, List.set_cons_succ]
          refine skipH (i := 16) rfl rfl (by kernel_rfl) (by kernel_rfl) (by kernel_rfl) (fun _ _ _ h => h) (by rfl) (by assumption) ?_
          try simp only [List.setIfInBounds_toArray, List.set_cons_zero, List.set_cons_succ]
          refine skipH (i := 17) rfl rfl (by kernel_rfl) (by kernel_rfl) (by kernel_rfl) (fun _ _ _ h => h) (by rfl) (by assumption) ?_
          try simp only [List.setIfInBounds_toArray, List.set_cons_zero, List.set_cons_succ]
          refine takeH (i := 18) (v := ?_) rfl rfl (by kernel_rfl) (by kernel_rfl) (by kernel_rfl) (fun _ _ _ h => h) (by rfl) ?_ (by assumption) ?_
          rotate_left 1
          · intro w hSw
            (try dsimp only at hSw)
            go_simp
            try with_reducible rfl
          try simp only [List.setIfInBounds_toArray, List.set_cons_zero, List.set_cons_succ]
          refine takeH (i := 19) (v := ?_) rfl rfl (by kernel_rfl) (by kernel_rfl) (by kernel_rfl) (fun _ _ _ h => h) (by rfl) ?_ (by assumption) ?_
          rotate_left 1
          · intro w hSw
            (try dsimp only at hSw)
            go_simp
            try with_reducible rfl
          try simp only [List.setIfInBounds_toArray, List.set_cons_zero, List.set_cons_succ]
          refine wpAnyH_done (by kernel_rfl) ?_ _
          have HB7 := Lib.hid (next HW.out hHeld.2.out)
          clear hHeld
          go_wp2_with fail
          go_roundw
          case rel => exact ⟨I + 1, true, by omega, rfl, by go_num, HN, HB7⟩
          case measure => (simp [intOf]; omega)
        | false =>
          by_cases hh : gh = h
          · have hh' : (gh == h) = true := by simp [hh]
            obtain ⟨y, hy⟩ : ∃ y, inB f b gf gB = y := ⟨_, rfl⟩
            have HY := Lib.hid hy
            have HN := Lib.hid (show (L.take (I + 1)).any (hasR h f b) = y by rw [HST.out, hy, decide_eq_true hh]; simp)
            clear hh hy
            go_upto_region 11 with fail
            clear q0 q1 c0 c1 c2
            refine wp_region_held_drew (S := fun Wx => ((Wx.cell? ⟨X, 0, none⟩ = some (.int .i64 f) ∧ Wx.cell? ⟨X, 1, none⟩ = some (.int .i64 b)) ∧ Wx.cell? ⟨gb, go + I * 3, none⟩ = some (.int .i64 gh) ∧ Wx.cell? ⟨gb, go + I * 3 + 1, none⟩ = some (.int .i64 gf) ∧ Wx.cell? ⟨gb, go + I * 3 + 2, none⟩ = some (.int .i64 gB)) ∧ Hid (Below wr.heap.size wr Wx)) (by kernel_rfl) ?_ (fun hHeld => ?_)
            · exact ⟨HQC.out, Lib.hid (Below.refl _ wr).drew⟩
            refine takeH (i := 0) (v := ?_) rfl rfl (by kernel_rfl) (by kernel_rfl) (by kernel_rfl) (fun _ _ _ h => h) (by rfl) ?_ (by assumption) ?_
            rotate_left 1
            · intro w hSw
              (try dsimp only at hSw)
              go_simp
              try with_reducible rfl
            try simp only [List.setIfInBounds_toArray, List.set_cons_zero, List.set_cons_succ]
            refine takeH (i := 1) (v := ?_) rfl rfl (by kernel_rfl) (by kernel_rfl) (by kernel_rfl) (fun _ _ _ h => h) (by rfl) ?_ (by assumption) ?_
            rotate_left 1
            · intro w hSw
              (try dsimp only at hSw)
              go_simp
              try with_reducible rfl
            try simp only [List.setIfInBounds_toArray, List.set_cons_zero, List.set_cons_succ]
            refine takeH (i := 2) (v := ?_) rfl rfl (by kernel_rfl) (by kernel_rfl) (by kernel_rfl) (fun _ _ _ h => h) (by rfl) ?_ (by assumption) ?_
            rotate_left 1
            · intro w hSw
              (try dsimp only at hSw)
              go_simp
              try with_reducible rfl
            try simp only [List.setIfInBounds_toArray, List.set_cons_zero, List.set_cons_succ]
            refine takeH (i := 3) (v := ?_) rfl rfl (by kernel_rfl) (by kernel_rfl) (by kernel_rfl) (fun _ _ _ h => h) (by rfl) ?_ (by assumption) ?_
            rotate_left 1
            · intro w hSw
              (try dsimp only at hSw)
              go_simp
              try with_reducible rfl
            try simp only [List.setIfInBounds_toArray, List.set_cons_zero, List.set_cons_succ]
            refine takeH (i := 4) (v := ?_) rfl rfl (by kernel_rfl) (by kernel_rfl) (by kernel_rfl) (fun _ _ _ h => h) (by rfl) ?_ (by assumption) ?_
            rotate_left 1
            · intro w hSw
              (try dsimp only at hSw)
              go_simp
              try with_reducible rfl
            try simp only [List.setIfInBounds_toArray, List.set_cons_zero, List.set_cons_succ]
            refine takeH (i := 5) (v := ?_) rfl rfl (by kernel_rfl) (by kernel_rfl) (by kernel_rfl) (fun _ _ _ h => h) (by rfl) ?_ (by assumption) ?_
            rotate_left 1
            · intro w hSw
              (try dsimp only at hSw)
              go_simp
              try with_reducible rfl
            try simp only [List.setIfInBounds_toArray, List.set_cons_zero, List.set_cons_succ]
            refine takeH (i := 6) (v := ?_) rfl rfl (by kernel_rfl) (by kernel_rfl) (by kernel_rfl) (fun _ _ _ h => h) (by rfl) ?_ (by assumption) ?_
            rotate_left 1
            · intro w hSw
              (try dsimp only at hSw)
              go_simp
              try with_reducible rfl
            try simp only [List.setIfInBounds_toArray, List.set_cons_zero, List.set_cons_succ]
            refine takeH (i := 7) (v := ?_) rfl rfl (by kernel_rfl) (by kernel_rfl) (by kernel_rfl) (fun _ _ _ h => h) (by rfl) ?_ (by assumption) ?_
            rotate_left 1
            · intro w hSw
              (try dsimp only at hSw)
              go_simp
              try with_reducible rfl
            try simp only [List.setIfInBounds_toArray, List.set_cons_zero, List.set_cons_succ]
            refine takeH (i := 8) (v := ?_) rfl rfl (by kernel_rfl) (by kernel_rfl) (by kernel_rfl) (fun _ _ _ h => h) (by rfl) ?_ (by assumption) ?_
            rotate_left 1
            · intro w hSw
              (try dsimp only at hSw)
              go_simp
              try with_reducible rfl
            try simp only [List.setIfInBounds_toArray, List.set_cons_zero, List.set_cons_succ]
            refine takeH (i := 9) (v := ?_) rfl rfl (by kernel_rfl) (by kernel_rfl) (by kernel_rfl) (fun _ _ _ h => h) (by rfl) ?_ (by assumption) ?_
            rotate_left 1
            · intro w hSw
              (try dsimp only at hSw)
              go_simp
              try with_reducible rfl
            try simp only [List.setIfInBounds_toArray, List.set_cons_zero, List.set_cons_succ]
            refine takeH (i := 10) (v := ?_) rfl rfl (by kernel_rfl) (by kernel_rfl) (by kernel_rfl) (fun _ _ _ h => h) (by rfl) ?_ (by assumption) ?_
            rotate_left 1
            · intro w hSw
              (try dsimp only at hSw)
              go_simp
              try with_reducible rfl
            try simp only [List.setIfInBounds_toArray, List.set_cons_zero, List.set_cons_succ]
            refine takeH (i := 11) (v := ?_) rfl rfl (by kernel_rfl) (by kernel_rfl) (by kernel_rfl) (fun _ _ _ h => h) (by rfl) ?_ (by assumption) ?_
            rotate_left 1
            · intro w hSw
              (try dsimp only at hSw)
              go_simp
              try with_reducible rfl
            try simp only [List.setIfInBounds_toArray, List.set_cons_zero, List.set_cons_succ]
            refine takeH (i := 12) (v := ?_) rfl rfl (by kernel_rfl) (by kernel_rfl) (by kernel_rfl) (fun _ _ _ h => h) (by rfl) ?_ (by assumption) ?_
            rotate_left 1
            · intro w hSw
              (try dsimp only at hSw)
              go_simp
              try with_reducible rfl
            try simp only [List.setIfInBounds_toArray, List.set_cons_zero, List.set_cons_succ]
            refine takeH (i := 13) (v := ?_) rfl rfl (by kernel_rfl) (by kernel_rfl) (by kernel_rfl) (fun _ _ _ h => h) (by rfl) ?_ (by assumption) ?_
            rotate_left 1
            · intro w hSw
              (try dsimp only at hSw)
              go_simp
              try with_reducible rfl
            try simp only [List.setIfInBounds_toArray, List.set_cons_zero, List.set_cons_succ]
            refine takeH (i := 14) (v := ?_) rfl rfl (by kernel_rfl) (by kernel_rfl) (by kernel_rfl) (fun _ _ _ h => h) (by rfl) ?_ (by assumption) ?_
            rotate_left 1
            · intro w hSw
              (try dsimp only at hSw)
              go_simp
              try with_reducible rfl
            try simp only [List.setIfInBounds_toArray, List.set_cons_zero, List.set_cons_succ]
            refine takeH (i := 15) (v := ?_) rfl rfl (by kernel_rfl) (by kernel_rfl) (by kernel_rfl) (fun _ _ _ h => h) (by rfl) ?_ (by assumption) ?_
            rotate_left 1
            · intro w hSw
              (try dsimp only at hSw)
              go_simp
              try with_reducible rfl
            try simp only [List.setIfInBounds_toArray, List.set_cons_zero, List.set_cons_succ]
            refine wpAnyH_ready (rs := [16]) (by kernel_rfl) (by simp) ?_
            refine AllReadyH.cons rfl (fun K hK => ?_) (AllReadyH.nil)
            go_simp
            refine (inX_is HY.out _).mono ?_
            rintro en w7 ⟨rfl, b7⟩
            go_wp2_with fail
            refine hK.out _ _ ?_ (fun hNew => ?_)
            · exact ⟨⟨⟨cell_later b7 hHeld.1.1.1, cell_later b7 hHeld.1.1.2⟩, cell_later b7 hHeld.1.2.1, cell_later b7 hHeld.1.2.2.1, cell_later b7 hHeld.1.2.2.2⟩, Lib.hid (next hHeld.2.out b7)⟩
            clear hK K hHeld
            have hHeld := hNew
            clear hNew
            try simp only [Act.put, List.setIfInBounds_toArray, List.set_cons_zero, List.set_cons_succ]
            refine takeH (i := 17) (v := ?_) rfl rfl (by kernel_rfl) (by kernel_rfl) (by kernel_rfl) (fun _ _ _ h => h) (by rfl) ?_ (by assumption) ?_
            rotate_left 1
            · intro w hSw
              (try dsimp only at hSw)
              go_simp
              try with_reducible rfl
            try simp only [List.setIfInBounds_toArray, List.set_cons_zero, List.set_cons_succ]
            refine takeH (i := 18) (v := ?_) rfl rfl (by kernel_rfl) (by kernel_rfl) (by kernel_rfl) (fun _ _ _ h => h) (by rfl) ?_ (by assumption) ?_
            rotate_left 1
            · intro w hSw
              (try dsimp only at hSw)
              go_simp
              try with_reducible rfl
            try simp only [List.setIfInBounds_toArray, List.set_cons_zero, List.set_cons_succ]
            refine takeH (i := 19) (v := ?_) rfl rfl (by kernel_rfl) (by kernel_rfl) (by kernel_rfl) (fun _ _ _ h => h) (by rfl) ?_ (by assumption) ?_
            rotate_left 1
            · intro w hSw
              (try dsimp only at hSw)
              go_simp
              try with_reducible rfl
            try simp only [List.setIfInBounds_toArray, List.set_cons_zero, List.set_cons_succ]
            refine wpAnyH_done (by kernel_rfl) ?_ _
            have HB7 := Lib.hid (next HW.out hHeld.2.out)
            clear hHeld
            go_wp2_with fail
            go_roundw
            case rel => exact ⟨I + 1, y, by omega, rfl, by go_num, HN, HB7⟩
            case measure => (simp [intOf]; omega)
          · have hh' : (gh == h) = false := by simp [hh]
            have HN := Lib.hid (show (L.take (I + 1)).any (hasR h f b) = false by rw [HST.out, decide_eq_false hh]; simp)
            clear hh
            go_upto_region 11 with fail
            clear q0 q1 c0 c1 c2
            refine wp_region_held_drew (S := fun Wx => ((Wx.cell? ⟨X, 0, none⟩ = some (.int .i64 f) ∧ Wx.cell? ⟨X, 1, none⟩ = some (.int .i64 b)) ∧ Wx.cell? ⟨gb, go + I * 3, none⟩ = some (.int .i64 gh) ∧ Wx.cell? ⟨gb, go + I * 3 + 1, none⟩ = some (.int .i64 gf) ∧ Wx.cell? ⟨gb, go + I * 3 + 2, none⟩ = some (.int .i64 gB)) ∧ Hid (Below wr.heap.size wr Wx)) (by kernel_rfl) ?_ (fun hHeld => ?_)
            · exact ⟨HQC.out, Lib.hid (Below.refl _ wr).drew⟩
            refine takeH (i := 0) (v := ?_) rfl rfl (by kernel_rfl) (by kernel_rfl) (by kernel_rfl) (fun _ _ _ h => h) (by rfl) ?_ (by assumption) ?_
            rotate_left 1
            · intro w hSw
              (try dsimp only at hSw)
              go_simp
              try with_reducible rfl
            try simp only [List.setIfInBounds_toArray, List.set_cons_zero, List.set_cons_succ]
            refine takeH (i := 1) (v := ?_) rfl rfl (by kernel_rfl) (by kernel_rfl) (by kernel_rfl) (fun _ _ _ h => h) (by rfl) ?_ (by assumption) ?_
            rotate_left 1
            · intro w hSw
              (try dsimp only at hSw)
              go_simp
              try with_reducible rfl
            try simp only [List.setIfInBounds_toArray, List.set_cons_zero, List.set_cons_succ]
            refine takeH (i := 2) (v := ?_) rfl rfl (by kernel_rfl) (by kernel_rfl) (by kernel_rfl) (fun _ _ _ h => h) (by rfl) ?_ (by assumption) ?_
            rotate_left 1
            · intro w hSw
              (try dsimp only at hSw)
              go_simp
              try with_reducible rfl
            try simp only [List.setIfInBounds_toArray, List.set_cons_zero, List.set_cons_succ]
            refine takeH (i := 3) (v := ?_) rfl rfl (by kernel_rfl) (by kernel_rfl) (by kernel_rfl) (fun _ _ _ h => h) (by rfl) ?_ (by assumption) ?_
            rotate_left 1
            · intro w hSw
              (try dsimp only at hSw)
              go_simp
              try with_reducible rfl
            try simp only [List.setIfInBounds_toArray, List.set_cons_zero, List.set_cons_succ]
            refine takeH (i := 4) (v := ?_) rfl rfl (by kernel_rfl) (by kernel_rfl) (by kernel_rfl) (fun _ _ _ h => h) (by rfl) ?_ (by assumption) ?_
            rotate_left 1
            · intro w hSw
              (try dsimp only at hSw)
              go_simp
              try with_reducible rfl
            try simp only [List.setIfInBounds_toArray, List.set_cons_zero, List.set_cons_succ]
            refine takeH (i := 5) (v := ?_) rfl rfl (by kernel_rfl) (by kernel_rfl) (by kernel_rfl) (fun _ _ _ h => h) (by rfl) ?_ (by assumption) ?_
            rotate_left 1
            · intro w hSw
              (try dsimp only at hSw)
              go_simp
              try with_reducible rfl
            try simp only [List.setIfInBounds_toArray, List.set_cons_zero, List.set_cons_succ]
            refine takeH (i := 6) (v := ?_) rfl rfl (by kernel_rfl) (by kernel_rfl) (by kernel_rfl) (fun _ _ _ h => h) (by rfl) ?_ (by assumption) ?_
            rotate_left 1
            · intro w hSw
              (try dsimp only at hSw)
              go_simp
              try with_reducible rfl
            try simp only [List.setIfInBounds_toArray, List.set_cons_zero, List.set_cons_succ]
            refine takeH (i := 7) (v := ?_) rfl rfl (by kernel_rfl) (by kernel_rfl) (by kernel_rfl) (fun _ _ _ h => h) (by rfl) ?_ (by assumption) ?_
            rotate_left 1
            · intro w hSw
              (try dsimp only at hSw)
              go_simp
              try with_reducible rfl
            try simp only [List.setIfInBounds_toArray, List.set_cons_zero, List.set_cons_succ]
            refine takeH (i := 8) (v := ?_) rfl rfl (by kernel_rfl) (by kernel_rfl) (by kernel_rfl) (fun _ _ _ h => h) (by rfl) ?_ (by assumption) ?_
            rotate_left 1
            · intro w hSw
              (try dsimp only at hSw)
              go_simp
              try with_reducible rfl
            try simp only [List.setIfInBounds_toArray, List.set_cons_zero, List.set_cons_succ]
            refine takeH (i := 9) (v := ?_) rfl rfl (by kernel_rfl) (by kernel_rfl) (by kernel_rfl) (fun _ _ _ h => h) (by rfl) ?_ (by assumption) ?_
            rotate_left 1
            · intro w hSw
              (try dsimp only at hSw)
              go_simp
              try with_reducible rfl
            try simp only [List.setIfInBounds_toArray, List.set_cons_zero, List.set_cons_succ]
            refine skipH (i := 10) rfl rfl (by kernel_rfl) (by kernel_rfl) (by kernel_rfl) (fun _ _ _ h => h) (by rfl) (by assumption) ?_
            try simp only [List.setIfInBounds_toArray, List.set_cons_zero, List.set_cons_succ]
            refine skipH (i := 11) rfl rfl (by kernel_rfl) (by kernel_rfl) (by kernel_rfl) (fun _ _ _ h => h) (by rfl) (by assumption) ?_
            try simp only [List.setIfInBounds_toArray, List.set_cons_zero, List.set_cons_succ]
            refine skipH (i := 12) rfl rfl (by kernel_rfl) (by kernel_rfl) (by kernel_rfl) (fun _ _ _ h => h) (by rfl) (by assumption) ?_
            try simp only [List.setIfInBounds_toArray, List.set_cons_zero, List.set_cons_succ]
            refine skipH (i := 13) rfl rfl (by kernel_rfl) (by kernel_rfl) (by kernel_rfl) (fun _ _ _ h => h) (by rfl) (by assumption) ?_
            try simp only [List.setIfInBounds_toArray, List.set_cons_zero, List.set_cons_succ]
            refine skipH (i := 14) rfl rfl (by kernel_rfl) (by kernel_rfl) (by kernel_rfl) (fun _ _ _ h => h) (by rfl) (by assumption) ?_
            try simp only [List.setIfInBounds_toArray, List.set_cons_zero, List.set_cons_succ]
            refine skipH (i := 15) rfl rfl (by kernel_rfl) (by kernel_rfl) (by kernel_rfl) (fun _ _ _ h => h) (by rfl) (by assumption) ?_
            try simp only [List.setIfInBounds_toArray, List.set_cons_zero, List.set_cons_succ]
            refine skipH (i := 16) rfl rfl (by kernel_rfl) (by kernel_rfl) (by kernel_rfl) (fun _ _ _ h => h) (by rfl) (by assumption) ?_
            try simp only [List.setIfInBounds_toArray, List.set_cons_zero, List.set_cons_succ]
            refine takeH (i := 17) (v := ?_) rfl rfl (by kernel_rfl) (by kernel_rfl) (by kernel_rfl) (fun _ _ _ h => h) (by rfl) ?_ (by assumption) ?_
            rotate_left 1
            · intro w hSw
              (try dsimp only at hSw)
              go_simp
              try with_reducible rfl
            try simp only [List.setIfInBounds_toArray, List.set_cons_zero, List.set_cons_succ]
            refine takeH (i := 18) (v := ?_) rfl rfl (by kernel_rfl) (by kernel_rfl) (by kernel_rfl) (fun _ _ _ h => h) (by rfl) ?_ (by assumption) ?_
            rotate_left 1
            · intro w hSw
              (try dsimp only at hSw)
              go_simp
              try with_reducible rfl
            try simp only [List.setIfInBounds_toArray, List.set_cons_zero, List.set_cons_succ]
            refine takeH (i := 19) (v := ?_) rfl rfl (by kernel_rfl) (by kernel_rfl) (by kernel_rfl) (fun _ _ _ h => h) (by rfl) ?_ (by assumption) ?_
            rotate_left 1
            · intro w hSw
              (try dsimp only at hSw)
              go_simp
              try with_reducible rfl
            try simp only [List.setIfInBounds_toArray, List.set_cons_zero, List.set_cons_succ]
            refine wpAnyH_done (by kernel_rfl) ?_ _
            have HB7 := Lib.hid (next HW.out hHeld.2.out)
            clear hHeld
            go_wp2_with fail
            go_roundw
            case rel => exact ⟨I + 1, false, by omega, rfl, by go_num, HN, HB7⟩
            case measure => (simp [intOf]; omega)
      · obtain rfl : I = L.length := by omega
        obtain rfl : z = acc := by rw [← HC.out, List.take_length, ← HZ.out]; rfl
        obtain ⟨F, C, u, hu⟩ := half_some f b true
        go_wp2_with fail
        refine (rhalf_is hu _).mono ?_
        rintro en w7 ⟨rfl, b7⟩
        have HS7 := Lib.hid (show HvA w7 la L ∧ Below w.heap.size w w7 from ⟨HS6.out.1.below b7, next HS6.out.2.2 b7⟩)
        clear b7 q0 q1
        go_wp2_with (refine wpList_stY rfl 25 _ _ rfl w7.heap.size #[.int .i64 F, .int .i64 C] ?x2 ?y2 ?o2 ?i2 _ (AtY.n2 w7 _ _ _) rfl ?g2)
        try case x2 => simp [Act.eval]
        try case y2 => simp [Act.eval]
        try case o2 => simp [Value.oneCell']
        try case i2 => exact infoRg
        intro w8 a8 g8
        have b8 : Below w7.heap.size w7 w8 := ((Below.refl w7.heap.size w7).alloc (Nat.le_refl _) _).grown g8 (by simp) (fun k hk => by cases hk; exact Nat.le_refl _)
        have HS8 := Lib.hid (show HvA w8 la L ∧ Below w.heap.size w w8 from ⟨HS7.out.1.below b8, next HS7.out.2 b8⟩)
        obtain ⟨r0, r1⟩ := AtY.two (show AtY w8 w7.heap.size [.int .i64 F, .int .i64 C] from a8)
        clear a8 g8 b8 HS7
        cases z with
        | false =>
          go_wp2_with fail
          go_ret
          exact ⟨rfl, HS8.out.2⟩
        | true =>
          cases u with
          | false =>
            go_wp2_with fail
            go_ret
            exact ⟨rfl, HS8.out.2⟩
          | true =>
            have HF := Lib.hid (holds_in HZ.out (half_of hu))
            clear hu
            go_wp2_with fail
            refine (iholdhas_is L h F C HF.out la lc _ _ rfl HS8.out.1 (by omega)).mono ?_
            rintro en w9 ⟨rfl, b9⟩
            have HB9 := Lib.hid (next HS8.out.2 b9)
            clear b9
            go_wp2_with fail
            go_ret
            exact ⟨rfl, HB9.out⟩
end Go.Proofs.Ytnnmgbgkgnejlaa
