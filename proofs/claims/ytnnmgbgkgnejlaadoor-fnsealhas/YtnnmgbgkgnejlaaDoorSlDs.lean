/-
  Drawn: seals, and one.
-/
import Derived.Test.YtnnmgbgkgnejlaaDoorSlDv
import Derived.Test.YtnnmgbgkgnejlaaDoorSlDn
import Derived.Deep.CutBlock
namespace Go.Proofs.YtnnmgbgkgnejlaaDoor
open Go.RowKit
set_option linter.unusedSimpArgs false
set_option linter.unusedVariables false

theorem kept_y {W W' : World} {R z n Y N : Nat} {e : TypeId} {v : Value} {xs : List Value} (ho : W.ownsRow R e z v n xs) (g : W.grownBy W' (some Y)) (hk : ∀ k, v.ownBlock = some k → k < N) (hY : N ≤ Y) : W'.ownsRow R e z v n xs :=
  World.ownsRow.kept ho g (by
    cases e : v.ownBlock with
    | none => exact .inl rfl
    | some k => exact .inr (fun h9 => by have := hk k e; cases h9; omega))
abbrev Z5s : List Value := [.int .i64 0, .int .i64 0, .int .i64 0, .int .i64 0, .slice none 0 0]
/-- while they are drawn: the reader, the seals, the route's path, the result's place -/
structure Ds (w : World) (B q N : Nat) (al : Option Addr) (cl : Nat) (L : List SV) (ap : Option Addr) (Pp : List Int) (W : World) : Prop where
  bel : Below w.heap.size w W
  rd : ∃ q', Rd W B q' ∧ q' ≤ q
  own : ∃ r, B < r ∧ SlO W r (.slice al L.length cl) L ∧ ∃ (a : Option Addr) (c : Nat) (P : List Int), OwnI W r (.slice a P.length c) P ∧ (∀ W, IntA W a P → IntA W ap Pp) ∧ ∀ k, (Value.slice a P.length c).ownBlock = some k → k < N
  num : ∀ k, (Value.slice al L.length cl).ownBlock = some k → k < N
  nums : ∀ x ∈ L, ∀ k, x.s.ownBlock = some k → k < N
  res : AtY W w.heap.size Z5s
  lo : w.heap.size < B
  hi : B < N
  sz : N ≤ W.heap.size
section
variable {w W W' : World} {B q N : Nat} {al : Option Addr} {cl : Nat} {L : List SV} {ap : Option Addr} {Pp : List Int}
theorem Ds.below (h : Ds w B q N al cl L ap Pp W) (k : Below W.heap.size W W') : Ds w B q N al cl L ap Pp W' := by
  obtain ⟨q', hr, hq⟩ := h.rd
  obtain ⟨r, hb, ho, a, c, P, hp, h1, h2⟩ := h.own
  exact ⟨next h.bel k, ⟨q', rd_below hr k, hq⟩, ⟨r, hb, ho.later k, a, c, P, owni_later hp k, h1, h2⟩, h.num, h.nums, h.res.below k, h.lo, h.hi, Nat.le_trans h.sz k.size⟩
theorem Ds.only {q2 q3 : Nat} (h : Ds w B q N al cl L ap Pp W) (g : W.grownBy W' (some B)) (hr : Rd W' B q2) (hq : q2 ≤ q3) : Ds w B q3 N al cl L ap Pp W' := by
  obtain ⟨r, hb, ho, a, c, P, hp, h1, h2⟩ := h.own
  have h3 := h.lo
  exact ⟨h.bel.grown g h.bel.size (fun k e => by cases e; omega), ⟨q2, hr, hq⟩, ⟨r, hb, ho.pick g hb, a, c, P, owni_pick hp g hb, h1, h2⟩, h.num, h.nums, h.res.only g (by simp; omega), h.lo, h.hi, Nat.le_trans h.sz g.size⟩
theorem Ds.put {Y : Nat} (h : Ds w B q N al cl L ap Pp W) (g : W.grownBy W' (some Y)) (hY : N ≤ Y) : Ds w B q N al cl L ap Pp W' := by
  obtain ⟨q', hr, hq⟩ := h.rd
  obtain ⟨r, hb, ho, a, c, P, hp, h1, h2⟩ := h.own
  have h3 := h.lo
  have h4 := h.hi
  exact ⟨h.bel.grown g h.bel.size (fun k e => by cases e; omega), ⟨q', prd_own (v := .slice (some ⟨Y, 0, none⟩) 0 0) (R := N) hr g (fun k e => by cases e; exact hY) h4, hq⟩, ⟨r, hb, ⟨kept_y ho.1 g h.num hY, fun x hx => kept_y (ho.2 x hx) g (h.nums x hx) hY⟩, a, c, P, kept_y hp g h2 hY, h1, h2⟩, h.num, h.nums, h.res.only g (by simp; omega), h.lo, h.hi, Nat.le_trans h.sz g.size⟩
theorem Ds.sla (h : Ds w B q N al cl L ap Pp W) (hl : ∀ x ∈ L, Sx x) : SlA W al L := by
  obtain ⟨r, hb, ho, _⟩ := h.own
  exact ho.sla (fun x hx => by have := (hl x hx).1; omega)
theorem Ds.fin (h : Ds w B q N al cl L ap Pp W) (hl : ∀ x ∈ L, Sx x) (g : W.grownBy W' (some w.heap.size)) : SlA W' al L ∧ IntA W' ap Pp ∧ Below w.heap.size w W' := by
  obtain ⟨r, hb, ho, a, c, P, hp, h1, _⟩ := h.own
  have h3 := h.lo
  exact ⟨(ho.pick g (by omega)).sla (fun x hx => by have := (hl x hx).1; omega), h1 _ (OwnI.intA (owni_pick hp g (by omega))).2.2, h.bel.grown g h.bel.size (fun k e => by cases e; exact Nat.le_refl _)⟩
end
/-- drawn seals, and one -/
def DnSH (w : World) (en : Ending) (w' : World) : Prop := ∃ (L : List SV) (al : Option Addr) (cl : Nat) (s : SV), en = .returned (.tuple #[.slice al L.length cl, slV s]) ∧ L.length ≤ 12 ∧ (∀ x ∈ L, SpW x.p) ∧ SpW s.p ∧ SlA w' al L ∧ s.m w' ∧ Below w.heap.size w w'
set_option maxRecDepth 100000 in
set_option maxHeartbeats 4000000 in
theorem dSealHas_any (a0 : Option Addr) (len0 cap0 : Nat) (zs0 : List Int) (w : World) (h : IsRow w a0 len0 cap0 zs0) :
    Calls Tryd.prog 22 #[.slice a0 len0 cap0] w (DnSH w) := by
  have H0 := Lib.hid h
  obtain ⟨w1, hW⟩ : ∃ W, w.alloc (.cells #[.int .i64 0, .int .i64 0, .int .i64 0, .int .i64 0, .slice none 0 0] 34) = W := ⟨_, rfl⟩
  have HB1 := Lib.hid (show Below w.heap.size w w1 by rw [← hW]; exact (Below.refl _ _).alloc (Nat.le_refl _) _)
  have HZ1 := Lib.hid (show AtY w1 w.heap.size Z5s by rw [← hW]; exact AtY.new5 w _ _ _ _ _ _)
  have HS1 := Lib.hid (show w1.heap.size = w.heap.size + 1 by rw [← hW]; simp)
  clear h
  go_enter Tryd.func22, Tryd.ntmps22
  go_wp2_with fail
  refine (open_any a0 len0 cap0 zs0 _ (isrow_later H0.out HB1.out)).mono ?_
  rintro en w2 ⟨rfl, hr, b2⟩
  have HB2 := Lib.hid (next HB1.out b2)
  have HZ2 := Lib.hid (HZ1.out.below b2)
  have HR := Lib.hid hr
  have hlow : w.heap.size < w1.heap.size := by have := HS1.out; omega
  clear hr b2 hW
  go_wp2_with fail
  refine (sealed_iv _ w1.heap.size 0 (by omega) HR.out).mono ?_
  rintro en w3 ⟨f, b, l, t, P, M, a, c, d, e, al, cl, L, ah, ch, H, q3, rfl, ⟨hH, hL, hlP, hlM, t0, t6, hSx, hf, hb⟩, ⟨o1, o2, ⟨pa, pc, PP, p1, p2, p3, p4⟩, o4⟩, hr3, hq3, hg3⟩
  have hB2 := rd_lt HR.out
  have HD := Lib.hid (show Ds w w1.heap.size 272 w3.heap.size al cl L a P w3 from ⟨HB2.out.grown hg3 HB2.out.size (fun k e => by cases e; omega), ⟨q3, hr3, by omega⟩, ⟨w2.heap.size, hB2, o2, pa, pc, PP, p1, p2, fun k e => (World.ownsRow.lt p1 k e).2⟩, fun k e => (World.ownsRow.lt o2.1 k e).2, fun x hx k e => (World.ownsRow.lt (o2.2 x hx) k e).2, HZ2.out.only hg3 (by simp; omega), hlow, by have := hg3.size; omega, Nat.le_refl _⟩)
  have HSX := Lib.hid hSx
  have HIV := Lib.hid (And.intro hf (And.intro hb (And.intro p4 p3)))
  clear o1 o2 o4 p1 p2 p3 p4 hr3 hq3 hg3 HB1 HB2 HZ1 HZ2 HS1 HR H0 hlow hB2 hSx hf hb
  generalize w1.heap.size = B at *
  have hN := HD.out.hi
  have hlo := HD.out.lo
  go_wp2_with (refine wpList_stY rfl 27 _ _ rfl w3.heap.size #[.int .i64 f, .int .i64 b, .slice a P.length c, .int .i64 l, .slice d M.length e] ?x1 ?y1 ?o1 ?i1 _ (AtY.new5 w3 _ _ _ _ _ _) rfl ?g1)
  try case x1 => simp [Act.eval]
  try case y1 => simp [Act.eval]
  try case o1 => simp [Value.oneCell']
  try case i1 => exact infoR5s
  intro w4 a4 g4
  have b4 : Below w3.heap.size w3 w4 := ((Below.refl w3.heap.size w3).alloc (Nat.le_refl _) _).grown g4 (by simp) (fun k hk => by cases hk; exact Nat.le_refl _)
  have HD4 := Lib.hid (HD.out.below b4)
  have HX4 := Lib.hid (show AtY w4 w3.heap.size [.int .i64 f, .int .i64 b, .slice a P.length c, .int .i64 l, .slice d M.length e] from a4)
  clear a4 g4 b4 HD
  generalize hXX : w3.heap.size = X at *
  clear hXX
  obtain ⟨d0, d1, d2, d3, d4⟩ := HX4.out.five
  by_cases hL0 : L.length = 0
  · have e0 : ¬ (0 : Int) < (L.length : Int) := by omega
    clear hL0
    go_upto_region 8 with fail
    refine wp_region_held_drew (S := fun Wx => (Wx.cell? ⟨X, 0, none⟩ = some (.int .i64 f) ∧ Wx.cell? ⟨X, 1, none⟩ = some (.int .i64 b) ∧ Wx.cell? ⟨X, 2, none⟩ = some (.slice a P.length c) ∧ Wx.cell? ⟨X, 3, none⟩ = some (.int .i64 l) ∧ Wx.cell? ⟨X, 4, none⟩ = some (.slice d M.length e)) ∧ Hid True) (by kernel_rfl) ?_ (fun hHeld => ?_)
    · exact ⟨⟨d0, d1, d2, d3, d4⟩, Lib.hid trivial⟩
    refine takeH (i := 0) (v := ?_) rfl rfl (by kernel_rfl) (by kernel_rfl) (by kernel_rfl) (fun _ _ _ h => h) (by rfl) ?_ (by assumption) ?_
    rotate_left 1
    · intro w hSw
      (try dsimp only at hSw)
      go_simp
      try with_reducible rfl
    try simp only [List.setIfInBounds_toArray, List.set_cons_zero, List.set_cons_succ]
    refine takeH (i := 1) (v := ?_) rfl rfl (by kernel_rfl) (by kernel_rfl) (by kernel_rfl) (fun _ _ _ h => h) (by rfl) ?_ (by assumption) ?_
    rotate_left 1
    · intro w hSw
      (try dsimp only at hSw)
      go_simp
      try with_reducible rfl
    try simp only [List.setIfInBounds_toArray, List.set_cons_zero, List.set_cons_succ]
    refine takeH (i := 2) (v := ?_) rfl rfl (by kernel_rfl) (by kernel_rfl) (by kernel_rfl) (fun _ _ _ h => h) (by rfl) ?_ (by assumption) ?_
    rotate_left 1
    · intro w hSw
      (try dsimp only at hSw)
      go_simp
      try with_reducible rfl
    try simp only [List.setIfInBounds_toArray, List.set_cons_zero, List.set_cons_succ]
    refine takeH (i := 3) (v := ?_) rfl rfl (by kernel_rfl) (by kernel_rfl) (by kernel_rfl) (fun _ _ _ h => h) (by rfl) ?_ (by assumption) ?_
    rotate_left 1
    · intro w hSw
      (try dsimp only at hSw)
      go_simp
      try with_reducible rfl
    try simp only [List.setIfInBounds_toArray, List.set_cons_zero, List.set_cons_succ]
    refine takeH (i := 4) (v := ?_) rfl rfl (by kernel_rfl) (by kernel_rfl) (by kernel_rfl) (fun _ _ _ h => h) (by rfl) ?_ (by assumption) ?_
    rotate_left 1
    · intro w hSw
      (try dsimp only at hSw)
      go_simp
      try with_reducible rfl
    try simp only [List.setIfInBounds_toArray, List.set_cons_zero, List.set_cons_succ]
    refine takeH (i := 5) (v := ?_) rfl rfl (by kernel_rfl) (by kernel_rfl) (by kernel_rfl) (fun _ _ _ h => h) (by rfl) ?_ (by assumption) ?_
    rotate_left 1
    · intro w hSw
      (try dsimp only at hSw)
      go_simp
      try with_reducible rfl
    try simp only [List.setIfInBounds_toArray, List.set_cons_zero, List.set_cons_succ]
    refine takeH (i := 6) (v := ?_) rfl rfl (by kernel_rfl) (by kernel_rfl) (by kernel_rfl) (fun _ _ _ h => h) (by rfl) ?_ (by assumption) ?_
    rotate_left 1
    · intro w hSw
      (try dsimp only at hSw)
      go_simp
      try with_reducible rfl
    try simp only [List.setIfInBounds_toArray, List.set_cons_zero, List.set_cons_succ]
    refine takeH (i := 7) (v := ?_) rfl rfl (by kernel_rfl) (by kernel_rfl) (by kernel_rfl) (fun _ _ _ h => h) (by rfl) ?_ (by assumption) ?_
    rotate_left 1
    · intro w hSw
      (try dsimp only at hSw)
      go_simp
      try with_reducible rfl
    try simp only [List.setIfInBounds_toArray, List.set_cons_zero, List.set_cons_succ]
    refine wpAnyH_ready (rs := [8]) (by kernel_rfl) (by simp) ?_
    refine AllReadyH.cons rfl (fun K hK => ?_) (AllReadyH.nil)
    refine wp_stY 34 (.tmp 3) (.tmp 49) rfl w.heap.size #[.int .i64 1, .int .i64 t, .int .i64 f, .int .i64 b, .slice a P.length c] (by simp [Act.eval]) (by simp [Act.eval]) (by simp [Value.oneCell']) infoSl5 _ (HD4.out.res.drew) rfl ?_
    intro wz aa gg
    have hNX := HD4.out.hi
    have hXz := AtY.five ((HX4.out.drew).only gg (by simp; omega))
    have HF := Lib.hid ((HD4.out.below (Below.refl _ w4).drew).fin HSX.out gg)
    have HE := Lib.hid (show DnSH w (.returned (.tuple #[.slice al L.length cl, .agg #[.int .i64 1, .int .i64 t, .int .i64 f, .int .i64 b, .slice a P.length c]])) wz from ⟨L, _, cl, ⟨1, t, f, b, a, c, P⟩, rfl, hL, fun x hx => (HSX.out x hx).2, ⟨by unfold Iv; simp [SV.p], by unfold Iv; simp only [SV.p]; omega, HIV.out.1, HIV.out.2.1, HIV.out.2.2.1⟩, HF.out.1, ⟨HF.out.2.1, HIV.out.2.2.2, by simp only; omega⟩, HF.out.2.2⟩)
    have rR := Lib.hid (show AtY wz w.heap.size [.int .i64 1, .int .i64 t, .int .i64 f, .int .i64 b, .slice a P.length c] from aa)
    clear aa gg HF
    refine hK.out _ _ ?_ (fun hNew => ?_)
    · exact ⟨⟨hXz.1, hXz.2.1, hXz.2.2.1, hXz.2.2.2.1, hXz.2.2.2.2⟩, Lib.hid trivial⟩
    clear hK K hHeld
    have hHeld := hNew
    clear hNew
    try simp only [Act.put, List.setIfInBounds_toArray, List.set_cons_zero, List.set_cons_succ]
    refine wpAnyH_done (by kernel_rfl) ?_ _
    clear hHeld hXz
    obtain ⟨z0, z1, z2, z3, z4⟩ := rR.out.five
    go_wp2_with fail
    exact bodyPost_ret (v := .tuple #[.slice al L.length cl, .agg #[.int .i64 1, .int .i64 t, .int .i64 f, .int .i64 b, .slice a P.length c]]) (by simp [results, Tryd.results22, go_sem, z0, z1, z2, z3, z4]) rfl HE.out
  · have e0 : (0 : Int) < (L.length : Int) := by omega
    obtain ⟨q4, hr4, hq4⟩ := HD4.out.rd
    clear hL0
    go_wp2_with fail
    refine (pick_any 3 _ B q4 (by omega) (by omega) hr4).mono ?_
    rintro en w5 ⟨x5, x50, x51, rfl, hr5, hg5⟩
    have HD5 := Lib.hid (HD4.out.only (q3 := 273) hg5 hr5 (by omega))
    have HX5 := Lib.hid (HX4.out.only hg5 (by simp; omega))
    clear hr4 hr5 hg5 HD4 HX4 d0 d1 d2 d3 d4
    obtain ⟨d0, d1, d2, d3, d4⟩ := HX5.out.five
    by_cases hx : x5 = 0
    · subst hx
      go_upto_region 8 with fail
      refine wp_region_held_drew (S := fun Wx => (Wx.cell? ⟨X, 0, none⟩ = some (.int .i64 f) ∧ Wx.cell? ⟨X, 1, none⟩ = some (.int .i64 b) ∧ Wx.cell? ⟨X, 2, none⟩ = some (.slice a P.length c) ∧ Wx.cell? ⟨X, 3, none⟩ = some (.int .i64 l) ∧ Wx.cell? ⟨X, 4, none⟩ = some (.slice d M.length e)) ∧ Hid True) (by kernel_rfl) ?_ (fun hHeld => ?_)
      · exact ⟨⟨d0, d1, d2, d3, d4⟩, Lib.hid trivial⟩
      refine takeH (i := 0) (v := ?_) rfl rfl (by kernel_rfl) (by kernel_rfl) (by kernel_rfl) (fun _ _ _ h => h) (by rfl) ?_ (by assumption) ?_
      rotate_left 1
      · intro w hSw
        (try dsimp only at hSw)
        go_simp
        try with_reducible rfl
      try simp only [List.setIfInBounds_toArray, List.set_cons_zero, List.set_cons_succ]
      refine takeH (i := 1) (v := ?_) rfl rfl (by kernel_rfl) (by kernel_rfl) (by kernel_rfl) (fun _ _ _ h => h) (by rfl) ?_ (by assumption) ?_
      rotate_left 1
      · intro w hSw
        (try dsimp only at hSw)
        go_simp
        try with_reducible rfl
      try simp only [List.setIfInBounds_toArray, List.set_cons_zero, List.set_cons_succ]
      refine takeH (i := 2) (v := ?_) rfl rfl (by kernel_rfl) (by kernel_rfl) (by kernel_rfl) (fun _ _ _ h => h) (by rfl) ?_ (by assumption) ?_
      rotate_left 1
      · intro w hSw
        (try dsimp only at hSw)
        go_simp
        try with_reducible rfl
      try simp only [List.setIfInBounds_toArray, List.set_cons_zero, List.set_cons_succ]
      refine takeH (i := 3) (v := ?_) rfl rfl (by kernel_rfl) (by kernel_rfl) (by kernel_rfl) (fun _ _ _ h => h) (by rfl) ?_ (by assumption) ?_
      rotate_left 1
      · intro w hSw
        (try dsimp only at hSw)
        go_simp
        try with_reducible rfl
      try simp only [List.setIfInBounds_toArray, List.set_cons_zero, List.set_cons_succ]
      refine takeH (i := 4) (v := ?_) rfl rfl (by kernel_rfl) (by kernel_rfl) (by kernel_rfl) (fun _ _ _ h => h) (by rfl) ?_ (by assumption) ?_
      rotate_left 1
      · intro w hSw
        (try dsimp only at hSw)
        go_simp
        try with_reducible rfl
      try simp only [List.setIfInBounds_toArray, List.set_cons_zero, List.set_cons_succ]
      refine takeH (i := 5) (v := ?_) rfl rfl (by kernel_rfl) (by kernel_rfl) (by kernel_rfl) (fun _ _ _ h => h) (by rfl) ?_ (by assumption) ?_
      rotate_left 1
      · intro w hSw
        (try dsimp only at hSw)
        go_simp
        try with_reducible rfl
      try simp only [List.setIfInBounds_toArray, List.set_cons_zero, List.set_cons_succ]
      refine takeH (i := 6) (v := ?_) rfl rfl (by kernel_rfl) (by kernel_rfl) (by kernel_rfl) (fun _ _ _ h => h) (by rfl) ?_ (by assumption) ?_
      rotate_left 1
      · intro w hSw
        (try dsimp only at hSw)
        go_simp
        try with_reducible rfl
      try simp only [List.setIfInBounds_toArray, List.set_cons_zero, List.set_cons_succ]
      refine takeH (i := 7) (v := ?_) rfl rfl (by kernel_rfl) (by kernel_rfl) (by kernel_rfl) (fun _ _ _ h => h) (by rfl) ?_ (by assumption) ?_
      rotate_left 1
      · intro w hSw
        (try dsimp only at hSw)
        go_simp
        try with_reducible rfl
      try simp only [List.setIfInBounds_toArray, List.set_cons_zero, List.set_cons_succ]
      refine wpAnyH_ready (rs := [8]) (by kernel_rfl) (by simp) ?_
      refine AllReadyH.cons rfl (fun K hK => ?_) (AllReadyH.nil)
      refine wp_stY 34 (.tmp 3) (.tmp 49) rfl w.heap.size #[.int .i64 1, .int .i64 t, .int .i64 f, .int .i64 b, .slice a P.length c] (by simp [Act.eval]) (by simp [Act.eval]) (by simp [Value.oneCell']) infoSl5 _ (HD5.out.res.drew) rfl ?_
      intro wz aa gg
      have hNX := HD5.out.hi
      have hXz := AtY.five ((HX5.out.drew).only gg (by simp; omega))
      have HF := Lib.hid ((HD5.out.below (Below.refl _ w5).drew).fin HSX.out gg)
      have HE := Lib.hid (show DnSH w (.returned (.tuple #[.slice al L.length cl, .agg #[.int .i64 1, .int .i64 t, .int .i64 f, .int .i64 b, .slice a P.length c]])) wz from ⟨L, _, cl, ⟨1, t, f, b, a, c, P⟩, rfl, hL, fun x hx => (HSX.out x hx).2, ⟨by unfold Iv; simp [SV.p], by unfold Iv; simp only [SV.p]; omega, HIV.out.1, HIV.out.2.1, HIV.out.2.2.1⟩, HF.out.1, ⟨HF.out.2.1, HIV.out.2.2.2, by simp only; omega⟩, HF.out.2.2⟩)
      have rR := Lib.hid (show AtY wz w.heap.size [.int .i64 1, .int .i64 t, .int .i64 f, .int .i64 b, .slice a P.length c] from aa)
      clear aa gg HF
      refine hK.out _ _ ?_ (fun hNew => ?_)
      · exact ⟨⟨hXz.1, hXz.2.1, hXz.2.2.1, hXz.2.2.2.1, hXz.2.2.2.2⟩, Lib.hid trivial⟩
      clear hK K hHeld
      have hHeld := hNew
      clear hNew
      try simp only [Act.put, List.setIfInBounds_toArray, List.set_cons_zero, List.set_cons_succ]
      refine wpAnyH_done (by kernel_rfl) ?_ _
      clear hHeld hXz
      obtain ⟨z0, z1, z2, z3, z4⟩ := rR.out.five
      go_wp2_with fail
      exact bodyPost_ret (v := .tuple #[.slice al L.length cl, .agg #[.int .i64 1, .int .i64 t, .int .i64 f, .int .i64 b, .slice a P.length c]]) (by simp [results, Tryd.results22, go_sem, z0, z1, z2, z3, z4]) rfl HE.out
    · have hx0 : (0 : Int) < x5 := by omega
      obtain ⟨q5, hr5, hq5⟩ := HD5.out.rd
      clear hx d0 d1 d2 d3 d4
      go_wp2_with fail
      refine (pick_any (L.length : Int) _ B q5 (by omega) (by omega) hr5).mono ?_
      rintro en w6 ⟨x6, x60, x61, rfl, hr6, hg6⟩
      have HD6 := Lib.hid (HD5.out.only (q3 := 274) hg6 hr6 (by omega))
      obtain ⟨k, rfl⟩ := Int.eq_ofNat_of_zero_le x60
      obtain ⟨s, hs⟩ : ∃ s, L[k]? = some s := ⟨_, List.getElem?_eq_getElem (by omega)⟩
      obtain ⟨gb, go, rfl, hgc, _⟩ := (HD6.out.sla HSX.out).at hs
      have HSM := Lib.hid (List.mem_of_getElem? hs)
      obtain ⟨sy, st, sf, sb, sa, sc, sP⟩ := s
      unfold SlC at hgc
      dsimp only at hgc
      obtain ⟨c0, c1, c2, c3, c4⟩ := hgc
      clear hr5 hr6 hg6 HD5 HX5 hs
      have hNY := HD6.out.sz
      go_wp2_with (refine wpList_stY rfl 34 _ _ rfl w6.heap.size #[.int .i64 sy, .int .i64 st, .int .i64 sf, .int .i64 sb, .slice sa sP.length sc] ?x2 ?y2 ?o2 ?i2 _ (AtY.new5 w6 _ _ _ _ _ _) rfl ?g2)
      try case x2 => simp [Act.eval]
      try case y2 => simp [Act.eval]
      try case o2 => simp [Value.oneCell']
      try case i2 => exact infoSl5
      intro w7 a7 g7
      have b7 : Below w6.heap.size w6 w7 := ((Below.refl w6.heap.size w6).alloc (Nat.le_refl _) _).grown g7 (by simp) (fun k hk => by cases hk; exact Nat.le_refl _)
      have HD7 := Lib.hid (HD6.out.below b7)
      have HY7 := Lib.hid (show AtY w7 w6.heap.size [.int .i64 sy, .int .i64 st, .int .i64 sf, .int .i64 sb, .slice sa sP.length sc] from a7)
      clear a7 g7 b7 HD6 c0 c1 c2 c3 c4
      generalize hYY : w6.heap.size = Y at *
      clear hYY
      obtain ⟨q7, hr7, hq7⟩ := HD7.out.rd
      go_wp2_with fail
      refine (pick_any 4 _ B q7 (by omega) (by omega) hr7).mono ?_
      rintro en w8 ⟨x8, x80, x81, rfl, hr8, hg8⟩
      have HD8 := Lib.hid (HD7.out.only (q3 := 275) hg8 hr8 (by omega))
      have HY8 := Lib.hid (HY7.out.only hg8 (by simp; omega))
      clear hr7 hr8 hg8 HD7 HY7
      by_cases hx8 : x8 = 0
      · have hz8 : (x8 == 0) = true := by simp [hx8]
        obtain ⟨q8, hr8, hq8⟩ := HD8.out.rd
        clear hx8
        go_wp2_with fail
        refine (pick_any 5 _ B q8 (by omega) (by omega) hr8).mono ?_
        rintro en w9 ⟨z, z0, z1, rfl, hr9, hg9⟩
        have HD9 := Lib.hid (HD8.out.only (q3 := 276) hg9 hr9 (by omega))
        have HY9 := Lib.hid (HY8.out.only hg9 (by simp; omega))
        have iz : IntKind.i64.wrap (1 + z) = 1 + z := by rw [IntKind.wrap_i64]; omega
        clear hr8 hr9 hg9 HD8 HY8
        go_wp2_with (refine wpList_st1Y rfl 3 _ _ rfl Y 1 (.int .i64 (1 + z)) ?x3 ?y3 rfl rfl infoI1s _ HY9.out ?l3 ?g3)
        try case x3 => simp [Act.eval]
        try case y3 => (simp [Act.eval]; try omega)
        try case l3 => simp
        intro w10 a10 g10
        have HD10 := Lib.hid (HD9.out.put g10 hNY)
        have HY10 := Lib.hid (show AtY w10 Y [.int .i64 sy, .int .i64 (1 + z), .int .i64 sf, .int .i64 sb, .slice sa sP.length sc] from a10)
        have HW := Lib.hid (show SpW (SV.p ⟨sy, 1 + z, sf, sb, sa, sc, sP⟩) from by have h1 := (HSX.out _ HSM.out).2; exact ⟨h1.y, by unfold Iv; show _ ∧ _; simp only [SV.p]; omega, h1.f, h1.b, h1.P⟩)
        clear a10 g10 HD9 HY9
        obtain ⟨c0, c1, c2, c3, c4⟩ := HY10.out.five
        go_upto_region 7 with fail
        refine wp_region_held_drew (S := fun Wx => (Wx.cell? ⟨Y, 0, none⟩ = some (.int .i64 sy) ∧ Wx.cell? ⟨Y, 1, none⟩ = some (.int .i64 (1 + z)) ∧ Wx.cell? ⟨Y, 2, none⟩ = some (.int .i64 sf) ∧ Wx.cell? ⟨Y, 3, none⟩ = some (.int .i64 sb) ∧ Wx.cell? ⟨Y, 4, none⟩ = some (.slice sa sP.length sc)) ∧ Hid True) (by kernel_rfl) ?_ (fun hHeld => ?_)
        · exact ⟨⟨c0, c1, c2, c3, c4⟩, Lib.hid trivial⟩
        refine takeH (i := 0) (v := ?_) rfl rfl (by kernel_rfl) (by kernel_rfl) (by kernel_rfl) (fun _ _ _ h => h) (by rfl) ?_ (by assumption) ?_
        rotate_left 1
        · intro w hSw
          (try dsimp only at hSw)
          go_simp
          try with_reducible rfl
        try simp only [List.setIfInBounds_toArray, List.set_cons_zero, List.set_cons_succ]
        refine takeH (i := 1) (v := ?_) rfl rfl (by kernel_rfl) (by kernel_rfl) (by kernel_rfl) (fun _ _ _ h => h) (by rfl) ?_ (by assumption) ?_
        rotate_left 1
        · intro w hSw
          (try dsimp only at hSw)
          go_simp
          try with_reducible rfl
        try simp only [List.setIfInBounds_toArray, List.set_cons_zero, List.set_cons_succ]
        refine takeH (i := 2) (v := ?_) rfl rfl (by kernel_rfl) (by kernel_rfl) (by kernel_rfl) (fun _ _ _ h => h) (by rfl) ?_ (by assumption) ?_
        rotate_left 1
        · intro w hSw
          (try dsimp only at hSw)
          go_simp
          try with_reducible rfl
        try simp only [List.setIfInBounds_toArray, List.set_cons_zero, List.set_cons_succ]
        refine wpAnyH_ready (rs := [3]) (by kernel_rfl) (by simp) ?_
        refine AllReadyH.cons rfl (fun K hK => ?_) (AllReadyH.nil)
        refine wp_stY 34 (.tmp 3) (.tmp 42) rfl w.heap.size #[.int .i64 sy, .int .i64 (1 + z), .int .i64 sf, .int .i64 sb, .slice sa sP.length sc] (by simp [Act.eval]) (by simp [Act.eval]) (by simp [Value.oneCell']) infoSl5 _ (HD10.out.res.drew) rfl ?_
        intro wz aa gg
        have hNX := HD10.out.hi
        have hXz := AtY.five ((HY10.out.drew).only gg (by simp; omega))
        have HF := Lib.hid ((HD10.out.below (Below.refl _ w10).drew).fin HSX.out gg)
        have HE := Lib.hid (show DnSH w (.returned (.tuple #[.slice (some ⟨gb, go, none⟩) L.length cl, .agg #[.int .i64 sy, .int .i64 (1 + z), .int .i64 sf, .int .i64 sb, .slice sa sP.length sc]])) wz from ⟨L, _, cl, ⟨sy, 1 + z, sf, sb, sa, sc, sP⟩, rfl, hL, fun x hx => (HSX.out x hx).2, HW.out, HF.out.1, (show SV.m _ wz from (HF.out.1.2 ⟨sy, st, sf, sb, sa, sc, sP⟩ HSM.out)), HF.out.2.2⟩)
        have rR := Lib.hid (show AtY wz w.heap.size [.int .i64 sy, .int .i64 (1 + z), .int .i64 sf, .int .i64 sb, .slice sa sP.length sc] from aa)
        clear aa gg HF
        refine hK.out _ _ ?_ (fun hNew => ?_)
        · exact ⟨⟨hXz.1, hXz.2.1, hXz.2.2.1, hXz.2.2.2.1, hXz.2.2.2.2⟩, Lib.hid trivial⟩
        clear hK K hHeld
        have hHeld := hNew
        clear hNew
        try simp only [Act.put, List.setIfInBounds_toArray, List.set_cons_zero, List.set_cons_succ]
        refine wpAnyH_done (by kernel_rfl) ?_ _
        clear hHeld hXz
        obtain ⟨z0, z1, z2, z3, z4⟩ := rR.out.five
        go_wp2_with fail
        exact bodyPost_ret (v := .tuple #[.slice (some ⟨gb, go, none⟩) L.length cl, .agg #[.int .i64 sy, .int .i64 (1 + z), .int .i64 sf, .int .i64 sb, .slice sa sP.length sc]]) (by simp [results, Tryd.results22, go_sem, z0, z1, z2, z3, z4]) rfl HE.out
      · have hz8 : (x8 == 0) = false := by simp [hx8]
        have HW := Lib.hid (show SpW (SV.p ⟨sy, st, sf, sb, sa, sc, sP⟩) from (HSX.out _ HSM.out).2)
        clear hx8
        obtain ⟨c0, c1, c2, c3, c4⟩ := HY8.out.five
        go_upto_region 7 with fail
        refine wp_region_held_drew (S := fun Wx => (Wx.cell? ⟨Y, 0, none⟩ = some (.int .i64 sy) ∧ Wx.cell? ⟨Y, 1, none⟩ = some (.int .i64 st) ∧ Wx.cell? ⟨Y, 2, none⟩ = some (.int .i64 sf) ∧ Wx.cell? ⟨Y, 3, none⟩ = some (.int .i64 sb) ∧ Wx.cell? ⟨Y, 4, none⟩ = some (.slice sa sP.length sc)) ∧ Hid True) (by kernel_rfl) ?_ (fun hHeld => ?_)
        · exact ⟨⟨c0, c1, c2, c3, c4⟩, Lib.hid trivial⟩
        refine takeH (i := 0) (v := ?_) rfl rfl (by kernel_rfl) (by kernel_rfl) (by kernel_rfl) (fun _ _ _ h => h) (by rfl) ?_ (by assumption) ?_
        rotate_left 1
        · intro w hSw
          (try dsimp only at hSw)
          go_simp
          try with_reducible rfl
        try simp only [List.setIfInBounds_toArray, List.set_cons_zero, List.set_cons_succ]
        refine takeH (i := 1) (v := ?_) rfl rfl (by kernel_rfl) (by kernel_rfl) (by kernel_rfl) (fun _ _ _ h => h) (by rfl) ?_ (by assumption) ?_
        rotate_left 1
        · intro w hSw
          (try dsimp only at hSw)
          go_simp
          try with_reducible rfl
        try simp only [List.setIfInBounds_toArray, List.set_cons_zero, List.set_cons_succ]
        refine takeH (i := 2) (v := ?_) rfl rfl (by kernel_rfl) (by kernel_rfl) (by kernel_rfl) (fun _ _ _ h => h) (by rfl) ?_ (by assumption) ?_
        rotate_left 1
        · intro w hSw
          (try dsimp only at hSw)
          go_simp
          try with_reducible rfl
        try simp only [List.setIfInBounds_toArray, List.set_cons_zero, List.set_cons_succ]
        refine wpAnyH_ready (rs := [3]) (by kernel_rfl) (by simp) ?_
        refine AllReadyH.cons rfl (fun K hK => ?_) (AllReadyH.nil)
        refine wp_stY 34 (.tmp 3) (.tmp 42) rfl w.heap.size #[.int .i64 sy, .int .i64 st, .int .i64 sf, .int .i64 sb, .slice sa sP.length sc] (by simp [Act.eval]) (by simp [Act.eval]) (by simp [Value.oneCell']) infoSl5 _ (HD8.out.res.drew) rfl ?_
        intro wz aa gg
        have hNX := HD8.out.hi
        have hXz := AtY.five ((HY8.out.drew).only gg (by simp; omega))
        have HF := Lib.hid ((HD8.out.below (Below.refl _ w8).drew).fin HSX.out gg)
        have HE := Lib.hid (show DnSH w (.returned (.tuple #[.slice (some ⟨gb, go, none⟩) L.length cl, .agg #[.int .i64 sy, .int .i64 st, .int .i64 sf, .int .i64 sb, .slice sa sP.length sc]])) wz from ⟨L, _, cl, ⟨sy, st, sf, sb, sa, sc, sP⟩, rfl, hL, fun x hx => (HSX.out x hx).2, HW.out, HF.out.1, (show SV.m _ wz from (HF.out.1.2 ⟨sy, st, sf, sb, sa, sc, sP⟩ HSM.out)), HF.out.2.2⟩)
        have rR := Lib.hid (show AtY wz w.heap.size [.int .i64 sy, .int .i64 st, .int .i64 sf, .int .i64 sb, .slice sa sP.length sc] from aa)
        clear aa gg HF
        refine hK.out _ _ ?_ (fun hNew => ?_)
        · exact ⟨⟨hXz.1, hXz.2.1, hXz.2.2.1, hXz.2.2.2.1, hXz.2.2.2.2⟩, Lib.hid trivial⟩
        clear hK K hHeld
        have hHeld := hNew
        clear hNew
        try simp only [Act.put, List.setIfInBounds_toArray, List.set_cons_zero, List.set_cons_succ]
        refine wpAnyH_done (by kernel_rfl) ?_ _
        clear hHeld hXz
        obtain ⟨z0, z1, z2, z3, z4⟩ := rR.out.five
        go_wp2_with fail
        exact bodyPost_ret (v := .tuple #[.slice (some ⟨gb, go, none⟩) L.length cl, .agg #[.int .i64 sy, .int .i64 st, .int .i64 sf, .int .i64 sb, .slice sa sP.length sc]]) (by simp [results, Tryd.results22, go_sem, z0, z1, z2, z3, z4]) rfl HE.out
end Go.Proofs.YtnnmgbgkgnejlaaDoor
