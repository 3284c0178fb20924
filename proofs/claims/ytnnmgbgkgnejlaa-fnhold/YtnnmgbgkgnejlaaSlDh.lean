/-
  Drawn: who holds which ranges, a house and a range.
-/
import Derived.Test.YtnnmgbgkgnejlaaSlDr
import Derived.Test.YtnnmgbgkgnejlaaSlAt
import Derived.Test.YtnnmgbgkgnejlaaLawJ
import Derived.Deep.CutBlock
namespace Go.Proofs.Ytnnmgbgkgnejlaa
open Go.RowKit
set_option linter.unusedSimpArgs false
set_option linter.unusedVariables false

theorem AtY.n2 (w : World) (a b : Value) (t : TypeId) : AtY (w.alloc (.cells #[a, b] t)) w.heap.size [a, b] := fun j v hj => by
  match j, hj with
  | 0, h | 1, h => simp at h; subst h; exact ⟨by simp, by simp⟩
  | n + 2, h => simp at h
theorem AtY.n3 (w : World) (a b c : Value) (t : TypeId) : AtY (w.alloc (.cells #[a, b, c] t)) w.heap.size [a, b, c] := fun j v hj => by
  match j, hj with
  | 0, h | 1, h | 2, h => simp at h; subst h; exact ⟨by simp, by simp⟩
  | n + 3, h => simp at h
theorem AtY.two {w : World} {R : Nat} {a b : Value} (h : AtY w R [a, b]) : w.cell? ⟨R, 0, none⟩ = some a ∧ w.cell? ⟨R, 1, none⟩ = some b := ⟨(h 0 a rfl).1, (h 1 b rfl).1⟩
theorem AtY.three {w : World} {R : Nat} {a b c : Value} (h : AtY w R [a, b, c]) : w.cell? ⟨R, 0, none⟩ = some a ∧ w.cell? ⟨R, 1, none⟩ = some b ∧ w.cell? ⟨R, 2, none⟩ = some c := ⟨(h 0 a rfl).1, (h 1 b rfl).1, (h 2 c rfl).1⟩
theorem infoRg : (Try.prog.info? 25).map (·.size) = some 2 := by kernel_rfl
theorem infoHd : (Try.prog.info? 31).map (·.size) = some 3 := by kernel_rfl
/-- while it is drawn: the reader, the holdings, the result's place -/
structure Dh (w : World) (B q N : Nat) (la : Option Addr) (lc : Nat) (L : List HV) (W : World) : Prop where
  bel : Below w.heap.size w W
  rd : ∃ q', Rd W B q' ∧ q' ≤ q
  own : ∃ r, B < r ∧ OwnHv W r (.slice la L.length lc) L
  num : ∀ k, (Value.slice la L.length lc).ownBlock = some k → k < N
  res : AtY W w.heap.size [.int .i64 0, .int .i64 0]
  lo : w.heap.size < B
  hi : B < N
  sz : N ≤ W.heap.size
section
variable {w W W' : World} {B q N : Nat} {la : Option Addr} {lc : Nat} {L : List HV}
theorem Dh.below (h : Dh w B q N la lc L W) (k : Below W.heap.size W W') : Dh w B q N la lc L W' := by
  obtain ⟨q', hr, hq⟩ := h.rd
  obtain ⟨r, hb, ho⟩ := h.own
  exact ⟨next h.bel k, ⟨q', rd_below hr k, hq⟩, ⟨r, hb, ownhv_later ho k⟩, h.num, h.res.below k, h.lo, h.hi, Nat.le_trans h.sz k.size⟩
theorem Dh.only {q2 q3 : Nat} (h : Dh w B q N la lc L W) (g : W.grownBy W' (some B)) (hr : Rd W' B q2) (hq : q2 ≤ q3) : Dh w B q3 N la lc L W' := by
  obtain ⟨r, hb, ho⟩ := h.own
  have h1 := h.lo
  exact ⟨h.bel.grown g h.bel.size (fun k e => by cases e; omega), ⟨q2, hr, hq⟩, ⟨r, hb, ho.pick g hb⟩, h.num, h.res.only g (by simp; omega), h.lo, h.hi, Nat.le_trans h.sz g.size⟩
theorem Dh.put {Y : Nat} (h : Dh w B q N la lc L W) (g : W.grownBy W' (some Y)) (hY : N ≤ Y) : Dh w B q N la lc L W' := by
  obtain ⟨q', hr, hq⟩ := h.rd
  obtain ⟨r, hb, ho⟩ := h.own
  have h1 := h.lo
  have h2 := h.hi
  have h3 := h.num
  exact ⟨h.bel.grown g h.bel.size (fun k e => by cases e; omega), ⟨q', prd_own (v := .slice (some ⟨Y, 0, none⟩) 0 0) (R := N) hr g (fun k e => by cases e; exact hY) h2, hq⟩, ⟨r, hb, World.ownsRow.kept ho g (by
    cases e : (Value.slice la L.length lc).ownBlock with
    | none => exact .inl rfl
    | some k => exact .inr (fun h9 => by have := h3 k e; cases h9; omega))⟩, h.num, h.res.only g (by simp; omega), h.lo, h.hi, Nat.le_trans h.sz g.size⟩
theorem Dh.fin (h : Dh w B q N la lc L W) (g : W.grownBy W' (some w.heap.size)) : HvA W' la L ∧ Below w.heap.size w W' := by
  obtain ⟨r, hb, ho⟩ := h.own
  have h1 := h.lo
  exact ⟨OwnHv.hva (ho.pick g (by omega)), h.bel.grown g h.bel.size (fun k e => by cases e; exact Nat.le_refl _)⟩
theorem Dh.wk {q2 : Nat} (h : Dh w B q N la lc L W) (hq : q ≤ q2) : Dh w B q2 N la lc L W := by
  obtain ⟨q', hr, h1⟩ := h.rd
  exact ⟨h.bel, ⟨q', hr, by omega⟩, h.own, h.num, h.res, h.lo, h.hi, h.sz⟩
theorem Dh.hva (h : Dh w B q N la lc L W) : HvA W la L := by
  obtain ⟨r, _, ho⟩ := h.own
  exact OwnHv.hva ho
end
theorem hrow_later {w w' : World} {a : Option Addr} {len cap : Nat} {zs : List Int} (h : IsRow w a len cap zs) (k : Below w.heap.size w w') : IsRow w' a len cap zs := by
  rcases h with h | ⟨x, h1, h2, h3, h4, h5, h6⟩
  · exact .inl h
  · exact .inr ⟨x, h1, h2, h3, h4, fun i hi => cell_later k (h5 i hi), h6⟩
/-- drawn holdings, a house and a range -/
def DnHH (w : World) (en : Ending) (w' : World) : Prop := ∃ (L : List HV) (la : Option Addr) (lc : Nat) (h f b : Int), en = .returned (.tuple #[.slice la L.length lc, .int .i64 h, .agg #[.int .i64 f, .int .i64 b]]) ∧ L.length ≤ 4 ∧ HvA w' la L ∧ Below w.heap.size w w'
set_option maxRecDepth 100000 in
set_option maxHeartbeats 4000000 in
theorem dHoldHas_any (a0 : Option Addr) (len0 cap0 : Nat) (zs0 : List Int) (w : World) (h : IsRow w a0 len0 cap0 zs0) :
    Calls Try.prog 5 #[.slice a0 len0 cap0] w (DnHH w) := by
  have H0 := Lib.hid h
  obtain ⟨w1, hW⟩ : ∃ W, w.alloc (.cells #[.int .i64 0, .int .i64 0] 25) = W := ⟨_, rfl⟩
  have HB1 := Lib.hid (show Below w.heap.size w w1 by rw [← hW]; exact (Below.refl _ _).alloc (Nat.le_refl _) _)
  have HZ1 := Lib.hid (show AtY w1 w.heap.size [.int .i64 0, .int .i64 0] by rw [← hW]; exact AtY.n2 w _ _ _)
  have HS1 := Lib.hid (show w1.heap.size = w.heap.size + 1 by rw [← hW]; simp)
  clear h
  go_enter Try.func5, Try.ntmps5
  go_wp2_with fail
  refine (open_any a0 len0 cap0 zs0 _ (hrow_later H0.out HB1.out)).mono ?_
  rintro en w2 ⟨rfl, hr, b⟩
  have HB2 := Lib.hid (next HB1.out b)
  have HZ2 := Lib.hid (HZ1.out.below b)
  have HR := Lib.hid hr
  have hlow : w.heap.size < w1.heap.size := by have := HS1.out; omega
  clear hr b hW
  go_wp2_with fail
  refine (holds_any _ w1.heap.size 0 (by omega) HR.out).mono ?_
  rintro en w3 ⟨L, v, q3, rfl, hL4, own, hr3, hq3, hg3⟩
  obtain ⟨la, lc, rfl, _⟩ := OwnHv.tab own
  have hB2 := rd_lt HR.out
  have HD := Lib.hid (show Dh w w1.heap.size 161 w3.heap.size la lc L w3 from ⟨HB2.out.grown hg3 HB2.out.size (fun k e => by cases e; omega), ⟨q3, hr3, by omega⟩, ⟨w2.heap.size, hB2, own⟩, fun k e => (World.ownsRow.lt own k e).2, HZ2.out.only hg3 (by simp; omega), hlow, by have := hg3.size; omega, Nat.le_refl _⟩)
  clear own hr3 hq3 hg3 HB1 HB2 HZ1 HZ2 HS1 HR H0 hlow hB2
  generalize w1.heap.size = B at *
  have hN := HD.out.hi
  generalize hNN : w3.heap.size = N at *
  clear hNN
  by_cases hL0 : L.length = 0
  · have e0 : ¬ (0 : Int) < (L.length : Int) := by omega
    clear hL0
    go_wp2_with fail
    obtain ⟨qa, hra, hqa⟩ := HD.out.rd
    refine (pick_any 7 _ B qa (by omega) (by omega) hra).mono ?_
    rintro en wa ⟨xa, xa0, xa1, rfl, hrb, hgb⟩
    have HDa := Lib.hid (HD.out.only (q3 := 163) hgb hrb (by omega))
    clear hra hrb hgb HD
    obtain ⟨qb, hrb, hqb⟩ := HDa.out.rd
    go_wp2_with fail
    refine (range_any _ B qb (by omega) hrb).mono ?_
    rintro en wb ⟨f, b, q9, _, rfl, hrc, hqc, hgc⟩
    have HDb := Lib.hid (HDa.out.only (q3 := 300) hgc hrc (by omega))
    clear hrb hrc hqc hgc HDa
    go_wp2_with (refine wpList_stY rfl 25 _ _ rfl w.heap.size #[.int .i64 f, .int .i64 b] ?x9HD ?y9HD ?o9HD ?i9HD _ HDb.out.res rfl ?g9HD)
    try case x9HD => simp [Act.eval]
    try case y9HD => simp [Act.eval]
    try case o9HD => simp [Value.oneCell']
    try case i9HD => exact infoRg
    intro wc ac gc
    have HE := Lib.hid (show DnHH w (.returned (.tuple #[.slice la L.length lc, .int .i64 xa, .agg #[.int .i64 f, .int .i64 b]])) wc from ⟨L, la, lc, xa, f, b, rfl, hL4, (HDb.out.fin gc).1, (HDb.out.fin gc).2⟩)
    obtain ⟨z0, z1⟩ := AtY.two ac
    clear ac gc
    go_wp2_with fail
    exact bodyPost_ret (v := .tuple #[.slice la L.length lc, .int .i64 xa, .agg #[.int .i64 f, .int .i64 b]]) (by simp [results, Try.results5, go_sem, z0, z1]) rfl HE.out
  · have e0 : (0 : Int) < (L.length : Int) := by omega
    obtain ⟨q4, hr4, hq4⟩ := HD.out.rd
    clear hL0
    go_wp2_with fail
    refine (pick_any 3 _ B q4 (by omega) (by omega) hr4).mono ?_
    rintro en w4 ⟨x4, x40, x41, rfl, hr5, hg5⟩
    have HD4 := Lib.hid (HD.out.only (q3 := 162) hg5 hr5 (by omega))
    clear hr4 hr5 hg5 HD
    by_cases hx : x4 = 0
    · subst hx
      go_wp2_with fail
      obtain ⟨qa, hra, hqa⟩ := HD4.out.rd
      refine (pick_any 7 _ B qa (by omega) (by omega) hra).mono ?_
      rintro en wa ⟨xa, xa0, xa1, rfl, hrb, hgb⟩
      have HDa := Lib.hid (HD4.out.only (q3 := 163) hgb hrb (by omega))
      clear hra hrb hgb HD4
      obtain ⟨qb, hrb, hqb⟩ := HDa.out.rd
      go_wp2_with fail
      refine (range_any _ B qb (by omega) hrb).mono ?_
      rintro en wb ⟨f, b, q9, _, rfl, hrc, hqc, hgc⟩
      have HDb := Lib.hid (HDa.out.only (q3 := 300) hgc hrc (by omega))
      clear hrb hrc hqc hgc HDa
      go_wp2_with (refine wpList_stY rfl 25 _ _ rfl w.heap.size #[.int .i64 f, .int .i64 b] ?x9HD4 ?y9HD4 ?o9HD4 ?i9HD4 _ HDb.out.res rfl ?g9HD4)
      try case x9HD4 => simp [Act.eval]
      try case y9HD4 => simp [Act.eval]
      try case o9HD4 => simp [Value.oneCell']
      try case i9HD4 => exact infoRg
      intro wc ac gc
      have HE := Lib.hid (show DnHH w (.returned (.tuple #[.slice la L.length lc, .int .i64 xa, .agg #[.int .i64 f, .int .i64 b]])) wc from ⟨L, la, lc, xa, f, b, rfl, hL4, (HDb.out.fin gc).1, (HDb.out.fin gc).2⟩)
      obtain ⟨z0, z1⟩ := AtY.two ac
      clear ac gc
      go_wp2_with fail
      exact bodyPost_ret (v := .tuple #[.slice la L.length lc, .int .i64 xa, .agg #[.int .i64 f, .int .i64 b]]) (by simp [results, Try.results5, go_sem, z0, z1]) rfl HE.out
    · have hx0 : (0 : Int) < x4 := by omega
      obtain ⟨q5, hr5, hq5⟩ := HD4.out.rd
      clear hx
      go_wp2_with fail
      refine (pick_any (L.length : Int) _ B q5 (by omega) (by omega) hr5).mono ?_
      rintro en w5 ⟨x5, x50, x51, rfl, hr6, hg6⟩
      have HD5 := Lib.hid (HD4.out.only (q3 := 163) hg6 hr6 (by omega))
      obtain ⟨k, rfl⟩ := Int.eq_ofNat_of_zero_le x50
      obtain ⟨g, hg⟩ : ∃ g, L[k]? = some g := ⟨_, List.getElem?_eq_getElem (by omega)⟩
      obtain ⟨gb, go, rfl, hgc⟩ := HD5.out.hva.at hg
      obtain ⟨gh, gf, gB⟩ := g
      obtain ⟨c0, c1, c2⟩ := hgc
      dsimp only at c0 c1 c2
      clear hr5 hr6 hg6 HD4 hg
      have hNX := HD5.out.sz
      go_wp2_with (refine wpList_stY rfl 31 _ _ rfl w5.heap.size #[.int .i64 gh, .int .i64 gf, .int .i64 gB] ?x5 ?y5 ?o5 ?i5 _ (AtY.n3 w5 _ _ _ _) rfl ?g5)
      try case x5 => simp [Act.eval]
      try case y5 => simp [Act.eval]
      try case o5 => simp [Value.oneCell']
      try case i5 => exact infoHd
      intro w6 a6 g6
      have b6 : Below w5.heap.size w5 w6 := ((Below.refl w5.heap.size w5).alloc (Nat.le_refl _) _).grown g6 (by simp) (fun k hk => by cases hk; exact Nat.le_refl _)
      have HD6 := Lib.hid (HD5.out.below b6)
      have hX6 := a6.lt (by simp)
      have HX6 := Lib.hid a6
      clear a6 g6 b6 HD5 c0 c1 c2
      generalize w5.heap.size = X at *
      have HXX := Lib.hid (show AtY w6 X [.int .i64 gh, .int .i64 gf, .int .i64 gB] from HX6.out)
      clear HX6
      obtain ⟨d0, d1, d2⟩ := HXX.out.three
      go_upto_region 5 with fail
      have HQC := Lib.hid (And.intro d1 d2)
      clear d0 d1 d2
      go_cut [8, 9] from 29 (fun y z wx => ∃ (Y : Nat) (F C : Int) (u : Bool), y = .pointer (some ⟨Y, 0, none⟩) ∧ z = .bool u ∧ Hid (AtY wx Y [.int .i64 F, .int .i64 C] ∧ AtY wx X [.int .i64 gh, .int .i64 gf, .int .i64 gB] ∧ N ≤ Y ∧ Dh w B 164 N (some ⟨gb, go, none⟩) lc L wx))
      case first =>
        refine wp_region_held_drew (S := fun Wx => (Wx.cell? ⟨X, 1, none⟩ = some (.int .i64 gf) ∧ Wx.cell? ⟨X, 2, none⟩ = some (.int .i64 gB)) ∧ Hid (AtY Wx X [.int .i64 gh, .int .i64 gf, .int .i64 gB] ∧ Dh w B 164 N (some ⟨gb, go, none⟩) lc L Wx)) (by kernel_rfl) ?_ (fun hHeld => ?_)
        · exact ⟨HQC.out, Lib.hid ⟨HXX.out.drew, (HD6.out.below ((Below.refl _ w6).drew)).wk (by omega)⟩⟩
        refine takeH (i := 0) (v := ?_) rfl rfl (by kernel_rfl) (by kernel_rfl) (by kernel_rfl) (fun _ _ _ h => h) (by rfl) ?_ (by assumption) ?_
        rotate_left 1
        · intro w hSw
          (try dsimp only at hSw)
          go_simp
          try with_reducible rfl
        try simp only [List.setIfInBounds_toArray, List.set_cons_zero, List.set_cons_succ]
        refine takeH (i := 1) (v := ?_) rfl rfl (by kernel_rfl) (by kernel_rfl) (by kernel_rfl) (fun _ _ _ h => h) (by rfl) ?_ (by assumption) ?_
        rotate_left 1
        · intro w hSw
          (try dsimp only at hSw)
          go_simp
          try with_reducible rfl
        try simp only [List.setIfInBounds_toArray, List.set_cons_zero, List.set_cons_succ]
        refine takeH (i := 2) (v := ?_) rfl rfl (by kernel_rfl) (by kernel_rfl) (by kernel_rfl) (fun _ _ _ h => h) (by rfl) ?_ (by assumption) ?_
        rotate_left 1
        · intro w hSw
          (try dsimp only at hSw)
          go_simp
          try with_reducible rfl
        try simp only [List.setIfInBounds_toArray, List.set_cons_zero, List.set_cons_succ]
        refine wpAnyH_ready (rs := [3, 9]) (by kernel_rfl) (by simp) ?_
        refine AllReadyH.cons rfl (fun K hK => ?_) (AllReadyH.cons rfl (fun K hK => ?_) (AllReadyH.nil))
        · go_simp
          obtain ⟨q7, hr7, hq7⟩ := Dh.rd (HD6.out.below ((Below.refl _ w6).drew))
          refine (pick_any 2 _ B q7 (by omega) (by omega) hr7).mono ?_
          rintro en wz1 ⟨x7, x70, x71, rfl, hr8, hg8⟩
          have HT : Hid (AtY wz1 X [.int .i64 gh, .int .i64 gf, .int .i64 gB] ∧ Dh w B 164 N (some ⟨gb, go, none⟩) lc L wz1) := Lib.hid ⟨hHeld.2.out.1.only hg8 (by simp; omega), Dh.only (HD6.out.below ((Below.refl _ w6).drew)) hg8 hr8 (by omega)⟩
          clear hr7 hr8 hg8
          obtain ⟨F, C, u, hu⟩ := half_some gf gB (x7 == 0)
          go_wp2_with fail
          refine hK.out _ _ ?_ (fun hNew => ?_)
          · exact ⟨⟨HT.out.1.three.2.1, HT.out.1.three.2.2⟩, HT⟩
          clear hK K hHeld
          have hHeld := hNew
          clear hNew
          try simp only [Act.put, List.setIfInBounds_toArray, List.set_cons_zero, List.set_cons_succ]
          refine takeH (i := 4) (v := ?_) rfl rfl (by kernel_rfl) (by kernel_rfl) (by kernel_rfl) (fun _ _ _ h => h) (by rfl) ?_ (by assumption) ?_
          rotate_left 1
          · intro w hSw
            (try dsimp only at hSw)
            go_simp
            try with_reducible rfl
          try simp only [List.setIfInBounds_toArray, List.set_cons_zero, List.set_cons_succ]
          refine wpAnyH_ready (rs := [5, 9]) (by kernel_rfl) (by simp) ?_
          refine AllReadyH.cons rfl (fun K hK => ?_) (AllReadyH.cons rfl (fun K hK => ?_) (AllReadyH.nil))
          · go_simp
            refine (shalf_is hu _).mono ?_
            rintro en wz2 ⟨rfl, b8⟩
            have HT : Hid (AtY wz2 X [.int .i64 gh, .int .i64 gf, .int .i64 gB] ∧ Dh w B 164 N (some ⟨gb, go, none⟩) lc L wz2) := Lib.hid ⟨hHeld.2.out.1.below b8, hHeld.2.out.2.below b8⟩
            clear b8
            go_wp2_with fail
            refine hK.out _ _ ?_ (fun hNew => ?_)
            · exact ⟨⟨HT.out.1.three.2.1, HT.out.1.three.2.2⟩, HT⟩
            clear hK K hHeld
            have hHeld := hNew
            clear hNew
            try simp only [Act.put, List.setIfInBounds_toArray, List.set_cons_zero, List.set_cons_succ]
            refine takeH (i := 6) (v := ?_) rfl rfl (by kernel_rfl) (by kernel_rfl) (by kernel_rfl) (fun _ _ _ h => h) (by rfl) ?_ (by assumption) ?_
            rotate_left 1
            · intro w hSw
              (try dsimp only at hSw)
              go_simp
              try with_reducible rfl
            try simp only [List.setIfInBounds_toArray, List.set_cons_zero, List.set_cons_succ]
            refine takeH (i := 7) (v := ?_) rfl rfl (by kernel_rfl) (by kernel_rfl) (by kernel_rfl) (fun _ _ _ h => h) (by rfl) ?_ (by assumption) ?_
            rotate_left 1
            · intro w hSw
              (try dsimp only at hSw)
              go_simp
              try with_reducible rfl
            try simp only [List.setIfInBounds_toArray, List.set_cons_zero, List.set_cons_succ]
            refine takeH (i := 8) (v := ?_) rfl rfl (by kernel_rfl) (by kernel_rfl) (by kernel_rfl) (fun _ _ _ h => h) (by rfl) ?_ (by assumption) ?_
            rotate_left 1
            · intro w hSw
              (try dsimp only at hSw)
              go_simp
              try with_reducible rfl
            try simp only [List.setIfInBounds_toArray, List.set_cons_zero, List.set_cons_succ]
            refine wpAnyH_ready (rs := [9]) (by kernel_rfl) (by simp) ?_
            refine AllReadyH.cons rfl (fun K hK => ?_) (AllReadyH.nil)
            go_simp
            have be9 : Below wz2.heap.size wz2 (wz2.alloc (.cells #[.int .i64 0, .int .i64 0] 25)) := (Below.refl _ _).alloc (Nat.le_refl _) _
            have rY3 := Lib.hid (show AtY (wz2.alloc (.cells #[.int .i64 0, .int .i64 0] 25)) wz2.heap.size [.int .i64 0, .int .i64 0] from AtY.n2 wz2 _ _ _)
            have HT : Hid (AtY (wz2.alloc (.cells #[.int .i64 0, .int .i64 0] 25)) X [.int .i64 gh, .int .i64 gf, .int .i64 gB] ∧ Dh w B 164 N (some ⟨gb, go, none⟩) lc L (wz2.alloc (.cells #[.int .i64 0, .int .i64 0] 25))) := Lib.hid ⟨hHeld.2.out.1.below be9, hHeld.2.out.2.below be9⟩
            have hYN : N ≤ wz2.heap.size := hHeld.2.out.2.sz
            have hYX : X < wz2.heap.size := hHeld.2.out.1.lt (by simp)
            have hYB : B < wz2.heap.size := (by have h1 := hHeld.2.out.2.hi; omega)
            skip
            clear be9
            generalize wz2.alloc (.cells #[.int .i64 0, .int .i64 0] 25) = wz3 at *
            generalize wz2.heap.size = Y at *
            refine hK.out _ _ ?_ (fun hNew => ?_)
            · exact ⟨⟨HT.out.1.three.2.1, HT.out.1.three.2.2⟩, HT⟩
            clear hK K hHeld
            have hHeld := hNew
            clear hNew
            try simp only [Act.put, List.setIfInBounds_toArray, List.set_cons_zero, List.set_cons_succ]
            refine wpAnyH_ready (rs := [10]) (by kernel_rfl) (by simp) ?_
            refine AllReadyH.cons rfl (fun K hK => ?_) (AllReadyH.nil)
            refine wp_stY 25 (.tmp 8) (.tmp 36) rfl Y #[.int .i64 F, .int .i64 C] (by simp [Act.eval]) (by simp [Act.eval]) (by simp [Value.oneCell']) infoRg _ rY3.out rfl ?_
            intro wz4 aa gg
            have HT : Hid (AtY wz4 X [.int .i64 gh, .int .i64 gf, .int .i64 gB] ∧ Dh w B 164 N (some ⟨gb, go, none⟩) lc L wz4) := Lib.hid ⟨hHeld.2.out.1.only gg (by simp; omega), hHeld.2.out.2.put gg hYN⟩
            have rF := Lib.hid (show AtY wz4 Y [.int .i64 F, .int .i64 C] from aa)
            clear aa gg
            refine hK.out _ _ ?_ (fun hNew => ?_)
            · exact ⟨⟨HT.out.1.three.2.1, HT.out.1.three.2.2⟩, HT⟩
            clear hK K hHeld
            have hHeld := hNew
            clear hNew
            try simp only [Act.put, List.setIfInBounds_toArray, List.set_cons_zero, List.set_cons_succ]
            refine takeH (i := 11) (v := ?_) rfl rfl (by kernel_rfl) (by kernel_rfl) (by kernel_rfl) (fun _ _ _ h => h) (by rfl) ?_ (by assumption) ?_
            rotate_left 1
            · intro w hSw
              (try dsimp only at hSw)
              go_simp
              try with_reducible rfl
            try simp only [List.setIfInBounds_toArray, List.set_cons_zero, List.set_cons_succ]
            refine wpAnyH_done (by kernel_rfl) ?_ _
            have HT := Lib.hid hHeld.2.out
            clear hHeld
            go_wp2_with fail
            go_meet
            exact ⟨Y, F, C, u, rfl, rfl, Lib.hid ⟨rF.out, HT.out.1, hYN, HT.out.2⟩⟩
          · go_simp
            have be9 : Below wz1.heap.size wz1 (wz1.alloc (.cells #[.int .i64 0, .int .i64 0] 25)) := (Below.refl _ _).alloc (Nat.le_refl _) _
            have rY2 := Lib.hid (show AtY (wz1.alloc (.cells #[.int .i64 0, .int .i64 0] 25)) wz1.heap.size [.int .i64 0, .int .i64 0] from AtY.n2 wz1 _ _ _)
            have HT : Hid (AtY (wz1.alloc (.cells #[.int .i64 0, .int .i64 0] 25)) X [.int .i64 gh, .int .i64 gf, .int .i64 gB] ∧ Dh w B 164 N (some ⟨gb, go, none⟩) lc L (wz1.alloc (.cells #[.int .i64 0, .int .i64 0] 25))) := Lib.hid ⟨hHeld.2.out.1.below be9, hHeld.2.out.2.below be9⟩
            have hYN : N ≤ wz1.heap.size := hHeld.2.out.2.sz
            have hYX : X < wz1.heap.size := hHeld.2.out.1.lt (by simp)
            have hYB : B < wz1.heap.size := (by have h1 := hHeld.2.out.2.hi; omega)
            skip
            clear be9
            generalize wz1.alloc (.cells #[.int .i64 0, .int .i64 0] 25) = wz2 at *
            generalize wz1.heap.size = Y at *
            refine hK.out _ _ ?_ (fun hNew => ?_)
            · exact ⟨⟨HT.out.1.three.2.1, HT.out.1.three.2.2⟩, HT⟩
            clear hK K hHeld
            have hHeld := hNew
            clear hNew
            try simp only [Act.put, List.setIfInBounds_toArray, List.set_cons_zero, List.set_cons_succ]
            refine wpAnyH_ready (rs := [5]) (by kernel_rfl) (by simp) ?_
            refine AllReadyH.cons rfl (fun K hK => ?_) (AllReadyH.nil)
            go_simp
            refine (shalf_is hu _).mono ?_
            rintro en wz3 ⟨rfl, b8⟩
            have HT : Hid (AtY wz3 X [.int .i64 gh, .int .i64 gf, .int .i64 gB] ∧ Dh w B 164 N (some ⟨gb, go, none⟩) lc L wz3) := Lib.hid ⟨hHeld.2.out.1.below b8, hHeld.2.out.2.below b8⟩
            have rY3 := Lib.hid (rY2.out.below b8)
            clear b8
            go_wp2_with fail
            refine hK.out _ _ ?_ (fun hNew => ?_)
            · exact ⟨⟨HT.out.1.three.2.1, HT.out.1.three.2.2⟩, HT⟩
            clear hK K hHeld
            have hHeld := hNew
            clear hNew
            try simp only [Act.put, List.setIfInBounds_toArray, List.set_cons_zero, List.set_cons_succ]
            refine takeH (i := 6) (v := ?_) rfl rfl (by kernel_rfl) (by kernel_rfl) (by kernel_rfl) (fun _ _ _ h => h) (by rfl) ?_ (by assumption) ?_
            rotate_left 1
            · intro w hSw
              (try dsimp only at hSw)
              go_simp
              try with_reducible rfl
            try simp only [List.setIfInBounds_toArray, List.set_cons_zero, List.set_cons_succ]
            refine takeH (i := 7) (v := ?_) rfl rfl (by kernel_rfl) (by kernel_rfl) (by kernel_rfl) (fun _ _ _ h => h) (by rfl) ?_ (by assumption) ?_
            rotate_left 1
            · intro w hSw
              (try dsimp only at hSw)
              go_simp
              try with_reducible rfl
            try simp only [List.setIfInBounds_toArray, List.set_cons_zero, List.set_cons_succ]
            refine takeH (i := 8) (v := ?_) rfl rfl (by kernel_rfl) (by kernel_rfl) (by kernel_rfl) (fun _ _ _ h => h) (by rfl) ?_ (by assumption) ?_
            rotate_left 1
            · intro w hSw
              (try dsimp only at hSw)
              go_simp
              try with_reducible rfl
            try simp only [List.setIfInBounds_toArray, List.set_cons_zero, List.set_cons_succ]
            refine wpAnyH_ready (rs := [10]) (by kernel_rfl) (by simp) ?_
            refine AllReadyH.cons rfl (fun K hK => ?_) (AllReadyH.nil)
            refine wp_stY 25 (.tmp 8) (.tmp 36) rfl Y #[.int .i64 F, .int .i64 C] (by simp [Act.eval]) (by simp [Act.eval]) (by simp [Value.oneCell']) infoRg _ rY3.out rfl ?_
            intro wz4 aa gg
            have HT : Hid (AtY wz4 X [.int .i64 gh, .int .i64 gf, .int .i64 gB] ∧ Dh w B 164 N (some ⟨gb, go, none⟩) lc L wz4) := Lib.hid ⟨hHeld.2.out.1.only gg (by simp; omega), hHeld.2.out.2.put gg hYN⟩
            have rF := Lib.hid (show AtY wz4 Y [.int .i64 F, .int .i64 C] from aa)
            clear aa gg
            refine hK.out _ _ ?_ (fun hNew => ?_)
            · exact ⟨⟨HT.out.1.three.2.1, HT.out.1.three.2.2⟩, HT⟩
            clear hK K hHeld
            have hHeld := hNew
            clear hNew
            try simp only [Act.put, List.setIfInBounds_toArray, List.set_cons_zero, List.set_cons_succ]
            refine takeH (i := 11) (v := ?_) rfl rfl (by kernel_rfl) (by kernel_rfl) (by kernel_rfl) (fun _ _ _ h => h) (by rfl) ?_ (by assumption) ?_
            rotate_left 1
            · intro w hSw
              (try dsimp only at hSw)
              go_simp
              try with_reducible rfl
            try simp only [List.setIfInBounds_toArray, List.set_cons_zero, List.set_cons_succ]
            refine wpAnyH_done (by kernel_rfl) ?_ _
            have HT := Lib.hid hHeld.2.out
            clear hHeld
            go_wp2_with fail
            go_meet
            exact ⟨Y, F, C, u, rfl, rfl, Lib.hid ⟨rF.out, HT.out.1, hYN, HT.out.2⟩⟩
        · go_simp
          have be9 : Below w6.drew.heap.size w6.drew ((w6.alloc (.cells #[.int .i64 0, .int .i64 0] 25)).drew) := (show Below w6.drew.heap.size w6.drew (w6.drew.alloc (.cells #[.int .i64 0, .int .i64 0] 25)) from (Below.refl _ _).alloc (Nat.le_refl _) _)
          have rY1 := Lib.hid (show AtY ((w6.alloc (.cells #[.int .i64 0, .int .i64 0] 25)).drew) w6.heap.size [.int .i64 0, .int .i64 0] from AtY.n2 w6.drew _ _ _)
          have HT : Hid (AtY ((w6.alloc (.cells #[.int .i64 0, .int .i64 0] 25)).drew) X [.int .i64 gh, .int .i64 gf, .int .i64 gB] ∧ Dh w B 164 N (some ⟨gb, go, none⟩) lc L ((w6.alloc (.cells #[.int .i64 0, .int .i64 0] 25)).drew)) := Lib.hid ⟨hHeld.2.out.1.below be9, hHeld.2.out.2.below be9⟩
          have hYN : N ≤ w6.heap.size := hHeld.2.out.2.sz
          have hYX : X < w6.heap.size := hHeld.2.out.1.lt (by simp)
          have hYB : B < w6.heap.size := (by have h1 := hHeld.2.out.2.hi; omega)
          have DP := Lib.hid (Dh.below (HD6.out.below ((Below.refl _ w6).drew)) be9)
          clear be9
          generalize (w6.alloc (.cells #[.int .i64 0, .int .i64 0] 25)).drew = wz1 at *
          generalize w6.heap.size = Y at *
          refine hK.out _ _ ?_ (fun hNew => ?_)
          · exact ⟨⟨HT.out.1.three.2.1, HT.out.1.three.2.2⟩, HT⟩
          clear hK K hHeld
          have hHeld := hNew
          clear hNew
          try simp only [Act.put, List.setIfInBounds_toArray, List.set_cons_zero, List.set_cons_succ]
          refine wpAnyH_ready (rs := [3]) (by kernel_rfl) (by simp) ?_
          refine AllReadyH.cons rfl (fun K hK => ?_) (AllReadyH.nil)
          go_simp
          obtain ⟨q7, hr7, hq7⟩ := Dh.rd (DP.out)
          refine (pick_any 2 _ B q7 (by omega) (by omega) hr7).mono ?_
          rintro en wz2 ⟨x7, x70, x71, rfl, hr8, hg8⟩
          have HT : Hid (AtY wz2 X [.int .i64 gh, .int .i64 gf, .int .i64 gB] ∧ Dh w B 164 N (some ⟨gb, go, none⟩) lc L wz2) := Lib.hid ⟨hHeld.2.out.1.only hg8 (by simp; omega), Dh.only (DP.out) hg8 hr8 (by omega)⟩
          have rY2 := Lib.hid (rY1.out.only hg8 (by simp; omega))
          clear hr7 hr8 hg8
          obtain ⟨F, C, u, hu⟩ := half_some gf gB (x7 == 0)
          go_wp2_with fail
          refine hK.out _ _ ?_ (fun hNew => ?_)
          · exact ⟨⟨HT.out.1.three.2.1, HT.out.1.three.2.2⟩, HT⟩
          clear hK K hHeld
          have hHeld := hNew
          clear hNew
          try simp only [Act.put, List.setIfInBounds_toArray, List.set_cons_zero, List.set_cons_succ]
          refine takeH (i := 4) (v := ?_) rfl rfl (by kernel_rfl) (by kernel_rfl) (by kernel_rfl) (fun _ _ _ h => h) (by rfl) ?_ (by assumption) ?_
          rotate_left 1
          · intro w hSw
            (try dsimp only at hSw)
            go_simp
            try with_reducible rfl
          try simp only [List.setIfInBounds_toArray, List.set_cons_zero, List.set_cons_succ]
          refine wpAnyH_ready (rs := [5]) (by kernel_rfl) (by simp) ?_
          refine AllReadyH.cons rfl (fun K hK => ?_) (AllReadyH.nil)
          go_simp
          refine (shalf_is hu _).mono ?_
          rintro en wz3 ⟨rfl, b8⟩
          have HT : Hid (AtY wz3 X [.int .i64 gh, .int .i64 gf, .int .i64 gB] ∧ Dh w B 164 N (some ⟨gb, go, none⟩) lc L wz3) := Lib.hid ⟨hHeld.2.out.1.below b8, hHeld.2.out.2.below b8⟩
          have rY3 := Lib.hid (rY2.out.below b8)
          clear b8
          go_wp2_with fail
          refine hK.out _ _ ?_ (fun hNew => ?_)
          · exact ⟨⟨HT.out.1.three.2.1, HT.out.1.three.2.2⟩, HT⟩
          clear hK K hHeld
          have hHeld := hNew
          clear hNew
          try simp only [Act.put, List.setIfInBounds_toArray, List.set_cons_zero, List.set_cons_succ]
          refine takeH (i := 6) (v := ?_) rfl rfl (by kernel_rfl) (by kernel_rfl) (by kernel_rfl) (fun _ _ _ h => h) (by rfl) ?_ (by assumption) ?_
          rotate_left 1
          · intro w hSw
            (try dsimp only at hSw)
            go_simp
            try with_reducible rfl
          try simp only [List.setIfInBounds_toArray, List.set_cons_zero, List.set_cons_succ]
          refine takeH (i := 7) (v := ?_) rfl rfl (by kernel_rfl) (by kernel_rfl) (by kernel_rfl) (fun _ _ _ h => h) (by rfl) ?_ (by assumption) ?_
          rotate_left 1
          · intro w hSw
            (try dsimp only at hSw)
            go_simp
            try with_reducible rfl
          try simp only [List.setIfInBounds_toArray, List.set_cons_zero, List.set_cons_succ]
          refine takeH (i := 8) (v := ?_) rfl rfl (by kernel_rfl) (by kernel_rfl) (by kernel_rfl) (fun _ _ _ h => h) (by rfl) ?_ (by assumption) ?_
          rotate_left 1
          · intro w hSw
            (try dsimp only at hSw)
            go_simp
            try with_reducible rfl
          try simp only [List.setIfInBounds_toArray, List.set_cons_zero, List.set_cons_succ]
          refine wpAnyH_ready (rs := [10]) (by kernel_rfl) (by simp) ?_
          refine AllReadyH.cons rfl (fun K hK => ?_) (AllReadyH.nil)
          refine wp_stY 25 (.tmp 8) (.tmp 36) rfl Y #[.int .i64 F, .int .i64 C] (by simp [Act.eval]) (by simp [Act.eval]) (by simp [Value.oneCell']) infoRg _ rY3.out rfl ?_
          intro wz4 aa gg
          have HT : Hid (AtY wz4 X [.int .i64 gh, .int .i64 gf, .int .i64 gB] ∧ Dh w B 164 N (some ⟨gb, go, none⟩) lc L wz4) := Lib.hid ⟨hHeld.2.out.1.only gg (by simp; omega), hHeld.2.out.2.put gg hYN⟩
          have rF := Lib.hid (show AtY wz4 Y [.int .i64 F, .int .i64 C] from aa)
          clear aa gg
          refine hK.out _ _ ?_ (fun hNew => ?_)
          · exact ⟨⟨HT.out.1.three.2.1, HT.out.1.three.2.2⟩, HT⟩
          clear hK K hHeld
          have hHeld := hNew
          clear hNew
          try simp only [Act.put, List.setIfInBounds_toArray, List.set_cons_zero, List.set_cons_succ]
          refine takeH (i := 11) (v := ?_) rfl rfl (by kernel_rfl) (by kernel_rfl) (by kernel_rfl) (fun _ _ _ h => h) (by rfl) ?_ (by assumption) ?_
          rotate_left 1
          · intro w hSw
            (try dsimp only at hSw)
            go_simp
            try with_reducible rfl
          try simp only [List.setIfInBounds_toArray, List.set_cons_zero, List.set_cons_succ]
          refine wpAnyH_done (by kernel_rfl) ?_ _
          have HT := Lib.hid hHeld.2.out
          clear hHeld
          go_wp2_with fail
          go_meet
          exact ⟨Y, F, C, u, rfl, rfl, Lib.hid ⟨rF.out, HT.out.1, hYN, HT.out.2⟩⟩
      case rest =>
        obtain ⟨Y, F, C, u, rfl, rfl, HF⟩ := hcut
        obtain ⟨w7, hw7⟩ : ∃ W, W = wc := ⟨_, rfl⟩
        subst hw7
        obtain ⟨d0, d1, d2⟩ := HF.out.2.1.three
        obtain ⟨f0, f1⟩ := HF.out.1.two
        have HDr := Lib.hid HF.out.2.2.2
        have HX7 := Lib.hid HF.out.2.1
        have HY7 := Lib.hid HF.out.1
        have hY := HF.out.2.2.1
        clear HXX HD6 HQC HF
        cases u with
        | false =>
          go_upto_region 8 with fail
          obtain ⟨w8, hw8⟩ : ∃ W, W = w7 := ⟨_, rfl⟩
          subst hw8
          refine wp_region_held_drew (S := fun Wx => (Wx.cell? ⟨X, 0, none⟩ = some (.int .i64 gh) ∧ Wx.cell? ⟨X, 1, none⟩ = some (.int .i64 gf) ∧ Wx.cell? ⟨X, 2, none⟩ = some (.int .i64 gB)) ∧ Hid True) (by kernel_rfl) ?_ (fun hHeld => ?_)
          · exact ⟨⟨d0, d1, d2⟩, Lib.hid trivial⟩
          refine takeH (i := 0) (v := ?_) rfl rfl (by kernel_rfl) (by kernel_rfl) (by kernel_rfl) (fun _ _ _ h => h) (by rfl) ?_ (by assumption) ?_
          rotate_left 1
          · intro w hSw
            (try dsimp only at hSw)
            go_simp
            try with_reducible rfl
          try simp only [List.setIfInBounds_toArray, List.set_cons_zero, List.set_cons_succ]
          refine takeH (i := 1) (v := ?_) rfl rfl (by kernel_rfl) (by kernel_rfl) (by kernel_rfl) (fun _ _ _ h => h) (by rfl) ?_ (by assumption) ?_
          rotate_left 1
          · intro w hSw
            (try dsimp only at hSw)
            go_simp
            try with_reducible rfl
          try simp only [List.setIfInBounds_toArray, List.set_cons_zero, List.set_cons_succ]
          refine takeH (i := 2) (v := ?_) rfl rfl (by kernel_rfl) (by kernel_rfl) (by kernel_rfl) (fun _ _ _ h => h) (by rfl) ?_ (by assumption) ?_
          rotate_left 1
          · intro w hSw
            (try dsimp only at hSw)
            go_simp
            try with_reducible rfl
          try simp only [List.setIfInBounds_toArray, List.set_cons_zero, List.set_cons_succ]
          refine takeH (i := 3) (v := ?_) rfl rfl (by kernel_rfl) (by kernel_rfl) (by kernel_rfl) (fun _ _ _ h => h) (by rfl) ?_ (by assumption) ?_
          rotate_left 1
          · intro w hSw
            (try dsimp only at hSw)
            go_simp
            try with_reducible rfl
          try simp only [List.setIfInBounds_toArray, List.set_cons_zero, List.set_cons_succ]
          refine takeH (i := 4) (v := ?_) rfl rfl (by kernel_rfl) (by kernel_rfl) (by kernel_rfl) (fun _ _ _ h => h) (by rfl) ?_ (by assumption) ?_
          rotate_left 1
          · intro w hSw
            (try dsimp only at hSw)
            go_simp
            try with_reducible rfl
          try simp only [List.setIfInBounds_toArray, List.set_cons_zero, List.set_cons_succ]
          refine takeH (i := 5) (v := ?_) rfl rfl (by kernel_rfl) (by kernel_rfl) (by kernel_rfl) (fun _ _ _ h => h) (by rfl) ?_ (by assumption) ?_
          rotate_left 1
          · intro w hSw
            (try dsimp only at hSw)
            go_simp
            try with_reducible rfl
          try simp only [List.setIfInBounds_toArray, List.set_cons_zero, List.set_cons_succ]
          refine takeH (i := 6) (v := ?_) rfl rfl (by kernel_rfl) (by kernel_rfl) (by kernel_rfl) (fun _ _ _ h => h) (by rfl) ?_ (by assumption) ?_
          rotate_left 1
          · intro w hSw
            (try dsimp only at hSw)
            go_simp
            try with_reducible rfl
          try simp only [List.setIfInBounds_toArray, List.set_cons_zero, List.set_cons_succ]
          refine wpAnyH_ready (rs := [7]) (by kernel_rfl) (by simp) ?_
          refine AllReadyH.cons rfl (fun K hK => ?_) (AllReadyH.nil)
          refine wp_stY 25 (.tmp 4) (.tmp 52) rfl w.heap.size #[.int .i64 gf, .int .i64 gB] (by simp [Act.eval]) (by simp [Act.eval]) (by simp [Value.oneCell']) infoRg _ (HDr.out.res.drew) rfl ?_
          intro wz aa gg
          have hlo := HDr.out.lo
          have hhi := HDr.out.hi
          have hXz := (HX7.out.drew).only gg (by simp; omega)
          have hYz := (HY7.out.drew).only gg (by simp; omega)
          have HE := Lib.hid (show DnHH w (.returned (.tuple #[.slice (some ⟨gb, go, none⟩) L.length lc, .int .i64 gh, .agg #[.int .i64 gf, .int .i64 gB]])) wz from ⟨L, _, lc, gh, gf, gB, rfl, hL4, ((HDr.out.below (Below.refl _ w8).drew).fin gg).1, ((HDr.out.below (Below.refl _ w8).drew).fin gg).2⟩)
          have rR := Lib.hid (show AtY wz w.heap.size [.int .i64 gf, .int .i64 gB] from aa)
          clear aa gg
          refine hK.out _ _ ?_ (fun hNew => ?_)
          · exact ⟨⟨hXz.three.1, hXz.three.2.1, hXz.three.2.2⟩, Lib.hid trivial⟩
          clear hK K hHeld
          have hHeld := hNew
          clear hNew
          try simp only [Act.put, List.setIfInBounds_toArray, List.set_cons_zero, List.set_cons_succ]
          refine wpAnyH_done (by kernel_rfl) ?_ _
          clear hHeld hXz hYz
          obtain ⟨z0, z1⟩ := rR.out.two
          go_wp2_with fail
          exact bodyPost_ret (v := .tuple #[.slice (some ⟨gb, go, none⟩) L.length lc, .int .i64 gh, .agg #[.int .i64 gf, .int .i64 gB]]) (by simp [results, Try.results5, go_sem, z0, z1]) rfl HE.out
        | true =>
          obtain ⟨q8, hr8, hq8⟩ := HDr.out.rd
          go_wp2_with fail
          refine (pick_any 2 _ B q8 (by omega) (by omega) hr8).mono ?_
          rintro en w8 ⟨x8, x80, x81, rfl, hr9, hg9⟩
          have HX8 := Lib.hid (HX7.out.only hg9 (by simp; omega))
          have HY8 := Lib.hid (HY7.out.only hg9 (by simp; omega))
          have HD8 := Lib.hid (HDr.out.only (q3 := 165) hg9 hr9 (by omega))
          clear hr8 hr9 hg9 d0 d1 d2 f0 f1 HX7 HY7 HDr
          obtain ⟨d0, d1, d2⟩ := HX8.out.three
          obtain ⟨f0, f1⟩ := HY8.out.two
          by_cases hx8 : x8 = 0
          · have hz8 : (x8 == 0) = true := by simp [hx8]
            clear hx8
            go_upto_region 7 with fail
            refine wp_region_held_drew (S := fun Wx => (Wx.cell? ⟨X, 0, none⟩ = some (.int .i64 gh) ∧ Wx.cell? ⟨Y, 0, none⟩ = some (.int .i64 F) ∧ Wx.cell? ⟨Y, 1, none⟩ = some (.int .i64 C)) ∧ Hid True) (by kernel_rfl) ?_ (fun hHeld => ?_)
            · exact ⟨⟨d0, f0, f1⟩, Lib.hid trivial⟩
            refine takeH (i := 0) (v := ?_) rfl rfl (by kernel_rfl) (by kernel_rfl) (by kernel_rfl) (fun _ _ _ h => h) (by rfl) ?_ (by assumption) ?_
            rotate_left 1
            · intro w hSw
              (try dsimp only at hSw)
              go_simp
              try with_reducible rfl
            try simp only [List.setIfInBounds_toArray, List.set_cons_zero, List.set_cons_succ]
            refine takeH (i := 1) (v := ?_) rfl rfl (by kernel_rfl) (by kernel_rfl) (by kernel_rfl) (fun _ _ _ h => h) (by rfl) ?_ (by assumption) ?_
            rotate_left 1
            · intro w hSw
              (try dsimp only at hSw)
              go_simp
              try with_reducible rfl
            try simp only [List.setIfInBounds_toArray, List.set_cons_zero, List.set_cons_succ]
            refine takeH (i := 2) (v := ?_) rfl rfl (by kernel_rfl) (by kernel_rfl) (by kernel_rfl) (fun _ _ _ h => h) (by rfl) ?_ (by assumption) ?_
            rotate_left 1
            · intro w hSw
              (try dsimp only at hSw)
              go_simp
              try with_reducible rfl
            try simp only [List.setIfInBounds_toArray, List.set_cons_zero, List.set_cons_succ]
            refine takeH (i := 3) (v := ?_) rfl rfl (by kernel_rfl) (by kernel_rfl) (by kernel_rfl) (fun _ _ _ h => h) (by rfl) ?_ (by assumption) ?_
            rotate_left 1
            · intro w hSw
              (try dsimp only at hSw)
              go_simp
              try with_reducible rfl
            try simp only [List.setIfInBounds_toArray, List.set_cons_zero, List.set_cons_succ]
            refine takeH (i := 4) (v := ?_) rfl rfl (by kernel_rfl) (by kernel_rfl) (by kernel_rfl) (fun _ _ _ h => h) (by rfl) ?_ (by assumption) ?_
            rotate_left 1
            · intro w hSw
              (try dsimp only at hSw)
              go_simp
              try with_reducible rfl
            try simp only [List.setIfInBounds_toArray, List.set_cons_zero, List.set_cons_succ]
            refine takeH (i := 5) (v := ?_) rfl rfl (by kernel_rfl) (by kernel_rfl) (by kernel_rfl) (fun _ _ _ h => h) (by rfl) ?_ (by assumption) ?_
            rotate_left 1
            · intro w hSw
              (try dsimp only at hSw)
              go_simp
              try with_reducible rfl
            try simp only [List.setIfInBounds_toArray, List.set_cons_zero, List.set_cons_succ]
            refine wpAnyH_ready (rs := [6]) (by kernel_rfl) (by simp) ?_
            refine AllReadyH.cons rfl (fun K hK => ?_) (AllReadyH.nil)
            refine wp_stY 25 (.tmp 4) (.tmp 47) rfl w.heap.size #[.int .i64 F, .int .i64 C] (by simp [Act.eval]) (by simp [Act.eval]) (by simp [Value.oneCell']) infoRg _ (HD8.out.res.drew) rfl ?_
            intro wz aa gg
            have hlo := HD8.out.lo
            have hhi := HD8.out.hi
            have hXz := (HX8.out.drew).only gg (by simp; omega)
            have hYz := (HY8.out.drew).only gg (by simp; omega)
            have HE := Lib.hid (show DnHH w (.returned (.tuple #[.slice (some ⟨gb, go, none⟩) L.length lc, .int .i64 gh, .agg #[.int .i64 F, .int .i64 C]])) wz from ⟨L, _, lc, gh, F, C, rfl, hL4, ((HD8.out.below (Below.refl _ w8).drew).fin gg).1, ((HD8.out.below (Below.refl _ w8).drew).fin gg).2⟩)
            have rR := Lib.hid (show AtY wz w.heap.size [.int .i64 F, .int .i64 C] from aa)
            clear aa gg
            refine hK.out _ _ ?_ (fun hNew => ?_)
            · exact ⟨⟨hXz.three.1, hYz.two.1, hYz.two.2⟩, Lib.hid trivial⟩
            clear hK K hHeld
            have hHeld := hNew
            clear hNew
            try simp only [Act.put, List.setIfInBounds_toArray, List.set_cons_zero, List.set_cons_succ]
            refine wpAnyH_done (by kernel_rfl) ?_ _
            clear hHeld hXz hYz
            obtain ⟨z0, z1⟩ := rR.out.two
            go_wp2_with fail
            exact bodyPost_ret (v := .tuple #[.slice (some ⟨gb, go, none⟩) L.length lc, .int .i64 gh, .agg #[.int .i64 F, .int .i64 C]]) (by simp [results, Try.results5, go_sem, z0, z1]) rfl HE.out
          · have hz8 : (x8 == 0) = false := by simp [hx8]
            clear hx8
            go_upto_region 8 with fail
            refine wp_region_held_drew (S := fun Wx => (Wx.cell? ⟨X, 0, none⟩ = some (.int .i64 gh) ∧ Wx.cell? ⟨X, 1, none⟩ = some (.int .i64 gf) ∧ Wx.cell? ⟨X, 2, none⟩ = some (.int .i64 gB)) ∧ Hid True) (by kernel_rfl) ?_ (fun hHeld => ?_)
            · exact ⟨⟨d0, d1, d2⟩, Lib.hid trivial⟩
            refine takeH (i := 0) (v := ?_) rfl rfl (by kernel_rfl) (by kernel_rfl) (by kernel_rfl) (fun _ _ _ h => h) (by rfl) ?_ (by assumption) ?_
            rotate_left 1
            · intro w hSw
              (try dsimp only at hSw)
              go_simp
              try with_reducible rfl
            try simp only [List.setIfInBounds_toArray, List.set_cons_zero, List.set_cons_succ]
            refine takeH (i := 1) (v := ?_) rfl rfl (by kernel_rfl) (by kernel_rfl) (by kernel_rfl) (fun _ _ _ h => h) (by rfl) ?_ (by assumption) ?_
            rotate_left 1
            · intro w hSw
              (try dsimp only at hSw)
              go_simp
              try with_reducible rfl
            try simp only [List.setIfInBounds_toArray, List.set_cons_zero, List.set_cons_succ]
            refine takeH (i := 2) (v := ?_) rfl rfl (by kernel_rfl) (by kernel_rfl) (by kernel_rfl) (fun _ _ _ h => h) (by rfl) ?_ (by assumption) ?_
            rotate_left 1
            · intro w hSw
              (try dsimp only at hSw)
              go_simp
              try with_reducible rfl
            try simp only [List.setIfInBounds_toArray, List.set_cons_zero, List.set_cons_succ]
            refine takeH (i := 3) (v := ?_) rfl rfl (by kernel_rfl) (by kernel_rfl) (by kernel_rfl) (fun _ _ _ h => h) (by rfl) ?_ (by assumption) ?_
            rotate_left 1
            · intro w hSw
              (try dsimp only at hSw)
              go_simp
              try with_reducible rfl
            try simp only [List.setIfInBounds_toArray, List.set_cons_zero, List.set_cons_succ]
            refine takeH (i := 4) (v := ?_) rfl rfl (by kernel_rfl) (by kernel_rfl) (by kernel_rfl) (fun _ _ _ h => h) (by rfl) ?_ (by assumption) ?_
            rotate_left 1
            · intro w hSw
              (try dsimp only at hSw)
              go_simp
              try with_reducible rfl
            try simp only [List.setIfInBounds_toArray, List.set_cons_zero, List.set_cons_succ]
            refine takeH (i := 5) (v := ?_) rfl rfl (by kernel_rfl) (by kernel_rfl) (by kernel_rfl) (fun _ _ _ h => h) (by rfl) ?_ (by assumption) ?_
            rotate_left 1
            · intro w hSw
              (try dsimp only at hSw)
              go_simp
              try with_reducible rfl
            try simp only [List.setIfInBounds_toArray, List.set_cons_zero, List.set_cons_succ]
            refine takeH (i := 6) (v := ?_) rfl rfl (by kernel_rfl) (by kernel_rfl) (by kernel_rfl) (fun _ _ _ h => h) (by rfl) ?_ (by assumption) ?_
            rotate_left 1
            · intro w hSw
              (try dsimp only at hSw)
              go_simp
              try with_reducible rfl
            try simp only [List.setIfInBounds_toArray, List.set_cons_zero, List.set_cons_succ]
            refine wpAnyH_ready (rs := [7]) (by kernel_rfl) (by simp) ?_
            refine AllReadyH.cons rfl (fun K hK => ?_) (AllReadyH.nil)
            refine wp_stY 25 (.tmp 4) (.tmp 52) rfl w.heap.size #[.int .i64 gf, .int .i64 gB] (by simp [Act.eval]) (by simp [Act.eval]) (by simp [Value.oneCell']) infoRg _ (HD8.out.res.drew) rfl ?_
            intro wz aa gg
            have hlo := HD8.out.lo
            have hhi := HD8.out.hi
            have hXz := (HX8.out.drew).only gg (by simp; omega)
            have hYz := (HY8.out.drew).only gg (by simp; omega)
            have HE := Lib.hid (show DnHH w (.returned (.tuple #[.slice (some ⟨gb, go, none⟩) L.length lc, .int .i64 gh, .agg #[.int .i64 gf, .int .i64 gB]])) wz from ⟨L, _, lc, gh, gf, gB, rfl, hL4, ((HD8.out.below (Below.refl _ w8).drew).fin gg).1, ((HD8.out.below (Below.refl _ w8).drew).fin gg).2⟩)
            have rR := Lib.hid (show AtY wz w.heap.size [.int .i64 gf, .int .i64 gB] from aa)
            clear aa gg
            refine hK.out _ _ ?_ (fun hNew => ?_)
            · exact ⟨⟨hXz.three.1, hXz.three.2.1, hXz.three.2.2⟩, Lib.hid trivial⟩
            clear hK K hHeld
            have hHeld := hNew
            clear hNew
            try simp only [Act.put, List.setIfInBounds_toArray, List.set_cons_zero, List.set_cons_succ]
            refine wpAnyH_done (by kernel_rfl) ?_ _
            clear hHeld hXz hYz
            obtain ⟨z0, z1⟩ := rR.out.two
            go_wp2_with fail
            exact bodyPost_ret (v := .tuple #[.slice (some ⟨gb, go, none⟩) L.length lc, .int .i64 gh, .agg #[.int .i64 gf, .int .i64 gB]]) (by simp [results, Try.results5, go_sem, z0, z1]) rfl HE.out
end Go.Proofs.Ytnnmgbgkgnejlaa
