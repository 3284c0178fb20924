/-
  The law on the best route of a list that is turned round, and of one that has it twice: the walk.
-/
import Derived.Test.YtfjfcdifnfffbaaDoorRtVs
import Derived.Test.YtfjfcdifnfffbaaDoorRtLw
namespace Go.Proofs.YtfjfcdifnfffbaaDoor
open Go.RowKit
set_option linter.unusedSimpArgs false
set_option linter.unusedVariables false

theorem rev_take {L : List RV} {m : Nat} {v : RV} (hv : L[m]? = some v) : L.reverse.take (L.length - (m + 1)) ++ [v] = L.reverse.take (L.length - m) := by
  have hm : m < L.length := (List.getElem?_eq_some_iff.1 hv).1
  have e : L.length - m = L.length - (m + 1) + 1 := by omega
  rw [e, List.take_add_one]
  have h : L.reverse[L.length - (m + 1)]? = some v := by
    rw [List.getElem?_reverse (by omega), show L.length - 1 - (L.length - (m + 1)) = m by omega]; exact hv
  rw [h]; rfl
/-- the best route is the same one in whatever order -/
theorem best_rev {l l' : List Rt} {t k : Nat} {r r' : Rt} (h : IsBest l t) (h' : IsBest l' k) (hm : ∀ x, x ∈ l ↔ x ∈ l') (hr : l[t]? = some r) (hr' : l'[k]? = some r') : r' = r := by
  obtain ⟨x, h1, h2, _⟩ := h
  obtain ⟨y, h3, h4, _⟩ := h'
  obtain rfl : r = x := by rw [hr] at h1; simpa using h1
  obtain rfl : r' = y := by rw [hr'] at h3; simpa using h3
  obtain ⟨i, hi⟩ := List.mem_iff_getElem?.1 ((hm r').2 (List.mem_of_getElem? hr'))
  obtain ⟨j, hj⟩ := List.mem_iff_getElem?.1 ((hm r).1 (List.mem_of_getElem? hr))
  have a := h2 i r' hi
  have b := h4 j r hj
  have n := rtCmp0_neg r r'
  rcases rtCmp0_vals r r' with c | c | c
  · exact (b c).elim
  · exact ((rtCmp0_zero _ _).1 c).symm
  · exact (a (by rw [n, c])).elim
theorem best_of {l : List Rt} (hne : l ≠ []) (hok : ∀ r ∈ l, rtOk r = true) : ∃ k, IsBest l k ∧ k < l.length ∧ BestIs l (k : Int) := by
  obtain ⟨k, hk⟩ := bestu_ex l l.length (List.length_pos_iff.2 hne) (Nat.le_refl _)
  obtain ⟨r, hr, _⟩ := id hk
  exact ⟨k, hk.all, (List.getElem?_eq_some_iff.1 hr).1, .inl ⟨hne, hok, k, rfl, hk.all⟩⟩

set_option maxRecDepth 100000 in
set_option maxHeartbeats 4000000 in
theorem lawBestOrder (a0 : Option Addr) (len0 cap0 : Nat) (zs0 : List Int) (w : World) (h0 : IsRow w a0 len0 cap0 zs0) (p : Addr) (hE : EV w p) (_ : True) :
    Calls Tryd.prog 8 #[.slice a0 len0 cap0] w fun e w' => e = .returned (.bool true) ∧ Below w.heap.size w w' := by
  have H0 := Lib.hid h0
  have HE := Lib.hid hE
  clear h0 hE
  by_cases hl0 : (1048576 : Int) < (len0 : Int)
  · go_enter Tryd.func8, Tryd.ntmps8
    go_wp2_with fail
    go_ret
    exact ⟨rfl, Below.refl _ _⟩
  go_enter Tryd.func8, Tryd.ntmps8
  go_wp2_with fail
  refine (dBest_any a0 len0 cap0 zs0 _ H0.out).mono ?_
  rintro en w1 ⟨L, g, cap, rfl, hl, hO, b1⟩
  have HO := Lib.hid hO
  have HB := Lib.hid b1
  clear hO b1
  obtain ⟨z, hz⟩ := best_ex (L.map RV.rt)
  have HZ := Lib.hid hz
  have z1 : (z != z) = false := by simp
  have z2 : (z == z) = true := by simp
  clear hz
  go_wp2_with fail
  refine (ibest_is L (some ⟨g, 0, none⟩) cap _ _ p HZ.out rfl HO.out.rsa (HE.out.below HB.out) (by omega)).mono ?_
  rintro en w2 ⟨rfl, b2⟩
  have HO2 := Lib.hid (HO.out.later b2)
  have HB2 := Lib.hid (next HB.out b2)
  clear b2 HO HB
  go_wp2_with fail
  refine (sbest_is L (some ⟨g, 0, none⟩) cap _ _ HZ.out rfl HO2.out.rsa (by omega)).mono ?_
  rintro en w3 ⟨rfl, b3⟩
  have HO3 := Lib.hid (HO2.out.later b3)
  have HB3 := Lib.hid (next HB2.out b3)
  clear b3 HO2 HB2
  by_cases hneg : z < 0
  · go_wp2_with fail
    refine (sbest_is L (some ⟨g, 0, none⟩) cap _ _ HZ.out rfl HO3.out.rsa (by omega)).mono ?_
    rintro en w4 ⟨rfl, b4⟩
    have HB4 := Lib.hid (next HB3.out b4)
    clear b4
    go_wp2_with fail
    go_ret
    exact ⟨rfl, HB4.out⟩
  · obtain ⟨t, rfl, hT, htl, hok⟩ := best_pos HZ.out hneg
    rw [List.length_map] at htl
    have HT := Lib.hid hT
    have HK := Lib.hid hok
    have t0 : (0 : Int) ≤ (t : Int) := by omega
    have t1 : (t : Int) < (L.length : Int) := by omega
    obtain ⟨u, hu⟩ : ∃ u, L[t]? = some u := ⟨_, List.getElem?_eq_getElem htl⟩
    have HU := Lib.hid hu
    clear hT hok hu
    have HOb := Lib.hid (ownw_empty w3 w3.heap.size (Nat.le_refl _))
    have HBb := Lib.hid ((Below.refl w3.heap.size w3).alloc (Nat.le_refl _) (.cells #[] 27))
    have s1 : IntKind.i64.wrap ((L.length : Int) - 1) = (L.length : Int) - 1 := by rw [IntKind.wrap_i64]; omega
    go_wp2_with fail
    go_loopw [5, 6] (fun l i wr => ∃ (m gb cb : Nat) (z : Int) (LB : List RV), i = .int .i64 z ∧ z = (m : Int) - 1 ∧ m ≤ L.length ∧ l = .slice (some ⟨gb, 0, none⟩) LB.length cb ∧ Hid (LB = L.reverse.take (L.length - m)) ∧ LB.length ≤ 5 ∧ Hid (OwnW wr w3.heap.size gb cb LB) ∧ Hid (Below w3.heap.size w3 wr)) (fun _ i _ => (intOf i + 1).toNat)
    case atStart => exact ⟨L.length, w3.heap.size, 0, _, [], rfl, rfl, Nat.le_refl _, rfl, Lib.hid (by simp), by simp, HOb, HBb⟩
    case round =>
      clear HOb HBb
      obtain ⟨m, gb, cb, z, LB, rfl, hz, hm, rfl, HL, hlb, HOb, HBb⟩ := hrel
      cases m with
      | succ m =>
        obtain rfl : z = (m : Int) := by omega
        clear hz
        obtain ⟨v, hv⟩ : ∃ v, L[m]? = some v := ⟨_, List.getElem?_eq_getElem (by omega)⟩
        have HV := Lib.hid hv
        have HOw := Lib.hid (HO3.out.later HBb.out)
        obtain ⟨b, off, eb, hq, _⟩ := HOw.out.rsa.at hv
        obtain ⟨rfl, rfl⟩ : g = b ∧ 0 = off := by simpa using eb
        simp only [Nat.zero_add] at hq
        obtain ⟨q0, q1, q2, q3, q4⟩ := hq
        have m0 : (0 : Int) ≤ (m : Int) := by omega
        have m1 : (m : Int) < (L.length : Int) := by omega
        have m2 : IntKind.i64.wrap ((m : Int) - 1) = (m : Int) - 1 := by rw [IntKind.wrap_i64]; omega
        have HN := Lib.hid (new5 wr v)
        have hlt := HBb.out.size
        have hlb4 : LB.length + 1 ≤ 5 := by rw [HL.out, List.length_take, List.length_reverse]; omega
        clear hv eb
        go_wp2_with (at_builtin; refine wpList_appV rfl (.tmp 35) (.tmp 40) rfl w3.heap.size gb cb LB _ rfl rfl ?e1 wr.heap.size 1 1 [v] rfl rfl ?e2 ?e3 ?e4 ?e5)
        case e1 => exact World.ownsRow.alloc HOb.out _
        case e2 => exact HN.out
        case e3 => (simp; omega)
        case e4 => (simp; omega)
        intro g5 cap5 w5 own5 grow5
        have HO5 := Lib.hid own5
        have HB5 := Lib.hid ((HBb.out.alloc hlt _).grown grow5 (by simp; omega) (fun k e => by cases e; exact (OwnW.low HOb.out).1))
        have hLl : (LB ++ [v]).length = LB.length + 1 := by simp
        have HL5 : Hid (LB ++ [v] = L.reverse.take (L.length - m)) := Lib.hid (by rw [HL.out]; exact rev_take HV.out)
        clear own5 grow5 q0 q1 q2 q3 q4 HN HOb HBb HOw HL
        generalize LB ++ [v] = L5 at *
        have HLl := Lib.hid hLl
        clear hLl
        go_wp2_with fail
        go_roundw
        case rel => exact ⟨m, g5, cap5, _, L5, rfl, rfl, by omega, by rw [HLl.out], HL5, by rw [HLl.out]; omega, HO5, HB5⟩
        case measure => first | (simp [intOf]; done) | (simp [intOf]; omega)
      | zero =>
        obtain rfl : z = -1 := by omega
        have HLB : Hid (LB = L.reverse) := Lib.hid (by rw [HL.out, Nat.sub_zero, List.take_of_length_le (by simp)])
        clear hz HL
        obtain ⟨k2, hk2, hk2l, hk2b⟩ := best_of (l := LB.map RV.rt) (fun e => by rw [HLB.out] at e; simp at e; rw [e] at htl; simp at htl) (fun r hr => HK.out r (by rw [HLB.out] at hr; simpa using hr))
        rw [List.length_map] at hk2l
        obtain ⟨y, hy⟩ : ∃ y, LB[k2]? = some y := ⟨_, List.getElem?_eq_getElem hk2l⟩
        have HY := Lib.hid hy
        have HYU : Hid (y.rt = u.rt) := Lib.hid (best_rev HT.out hk2 (fun x => by rw [HLB.out]; simp) (map_at HU.out) (map_at hy))
        have HK2 := Lib.hid hk2b
        have k0 : (0 : Int) ≤ (k2 : Int) := by omega
        have k1 : (k2 : Int) < (LB.length : Int) := by omega
        have HTw : Hid (BestIs ((L ++ [u]).map RV.rt) (t : Int)) := Lib.hid (by have h := best_more HT.out (map_at HU.out) HK.out (HK.out _ (List.mem_map.2 ⟨u, List.mem_of_getElem? HU.out, rfl⟩)); rw [if_neg (by rw [rt_self]; omega)] at h; rw [List.map_append]; exact h)
        clear hk2 hk2b hy
        have HO6 := Lib.hid (HO3.out.later HBb.out)
        have HB6 := Lib.hid (next HB3.out HBb.out)
        clear HO3 HB3
        obtain ⟨b, off, eb, hq, _⟩ := HO6.out.rsa.at HU.out
        obtain ⟨rfl, rfl⟩ : g = b ∧ 0 = off := by simpa using eb
        simp only [Nat.zero_add] at hq
        have HC := Lib.hid hq
        clear hq eb
        have hgl := (OwnW.low HO6.out.1).2
        have hw6 := HB6.out.size
        generalize wr = w6 at *
        go_wp2_with fail
        focus
          refine wp_region_held_drew (S := fun W => (W.cell? ⟨g, t * 5, none⟩ = some (.int .i64 u.f) ∧ W.cell? ⟨g, t * 5 + 1, none⟩ = some (.int .i64 u.b) ∧ W.cell? ⟨g, t * 5 + 2, none⟩ = some (.slice u.a u.P.length u.c) ∧ W.cell? ⟨g, t * 5 + 3, none⟩ = some (.int .i64 u.l) ∧ W.cell? ⟨g, t * 5 + 4, none⟩ = some (.slice u.d u.M.length u.e)) ∧ Hid (Below w6.heap.size w6 W)) (by kernel_rfl) ?_ (fun hHeld => ?_)
          · exact ⟨HC.out, Lib.hid (Below.refl _ w6).drew⟩
          refine takeH (i := 1) (v := ?_) rfl rfl (by kernel_rfl) (by kernel_rfl) (by kernel_rfl) (fun _ _ _ h => h) (by rfl) ?_ (by assumption) ?_
          rotate_left 1
          · intro w hSw
            (try dsimp only at hSw)
            go_simp
            try with_reducible rfl
          try simp only [List.setIfInBounds_toArray, List.set_cons_zero, List.set_cons_succ]
          refine takeH (i := 3) (v := ?_) rfl rfl (by kernel_rfl) (by kernel_rfl) (by kernel_rfl) (fun _ _ _ h => h) (by rfl) ?_ (by assumption) ?_
          rotate_left 1
          · intro w hSw
            (try dsimp only at hSw)
            go_simp
            try with_reducible rfl
          try simp only [List.setIfInBounds_toArray, List.set_cons_zero, List.set_cons_succ]
          refine takeH (i := 4) (v := ?_) rfl rfl (by kernel_rfl) (by kernel_rfl) (by kernel_rfl) (fun _ _ _ h => h) (by rfl) ?_ (by assumption) ?_
          rotate_left 1
          · intro w hSw
            (try dsimp only at hSw)
            go_simp
            try with_reducible rfl
          try simp only [List.setIfInBounds_toArray, List.set_cons_zero, List.set_cons_succ]
          refine takeH (i := 5) (v := ?_) rfl rfl (by kernel_rfl) (by kernel_rfl) (by kernel_rfl) (fun _ _ _ h => h) (by rfl) ?_ (by assumption) ?_
          rotate_left 1
          · intro w hSw
            (try dsimp only at hSw)
            go_simp
            try with_reducible rfl
          try simp only [List.setIfInBounds_toArray, List.set_cons_zero, List.set_cons_succ]
          refine takeH (i := 6) (v := ?_) rfl rfl (by kernel_rfl) (by kernel_rfl) (by kernel_rfl) (fun _ _ _ h => h) (by rfl) ?_ (by assumption) ?_
          rotate_left 1
          · intro w hSw
            (try dsimp only at hSw)
            go_simp
            try with_reducible rfl
          try simp only [List.setIfInBounds_toArray, List.set_cons_zero, List.set_cons_succ]
          refine wpAnyH_ready (rs := [0, 7]) (by kernel_rfl) (by simp) ?_
          refine AllReadyH.cons rfl (fun K hK => ?_) (AllReadyH.cons rfl (fun K hK => ?_) (AllReadyH.nil))
          go_simp
          refine hK.out _ _ ?_ (fun hNew => ?_)
          · exact ⟨⟨cellA hHeld.1.1 _, cellA hHeld.1.2.1 _, cellA hHeld.1.2.2.1 _, cellA hHeld.1.2.2.2.1 _, cellA hHeld.1.2.2.2.2 _⟩, Lib.hid (hHeld.2.out.alloc hHeld.2.out.size _)⟩
          clear hK K hHeld
          have hHeld := hNew
          clear hNew
          try simp only [Act.put, List.setIfInBounds_toArray, List.set_cons_zero, List.set_cons_succ]
          refine wpAnyH_ready (rs := [2, 7]) (by kernel_rfl) (by simp) ?_
          refine AllReadyH.cons rfl (fun K hK => ?_) (AllReadyH.cons rfl (fun K hK => ?_) (AllReadyH.nil))
          refine wp_appV (.tmp 42) (.tmp 43) rfl w6.heap.size w6.heap.size 0 [] _ rfl (by simp [Act.eval]) (ownw_empty w6 w6.heap.size (Nat.le_refl _)) g L.length cap L rfl (by simp [Act.eval]) (OwnW.cellsA (HO6.out.alloc _).1) (by first | omega | (simp; done) | (simp; omega)) (by first | omega | (simp; done) | (simp; omega)) ?_
          intro g7 cap7 w7 own7 grow7
          replace own7 : OwnW w7 w6.heap.size g7 cap7 L := own7
          have HO7 := Lib.hid own7
          have b7 : Below w6.heap.size w6 w7 := (hHeld.2.out.grown grow7 hHeld.2.out.size (fun k e => by cases e; omega))
          refine hK.out _ _ ?_ (fun hNew => ?_)
          · exact ⟨⟨vcell_far b7 hgl HC.out.1, vcell_far b7 hgl HC.out.2.1, vcell_far b7 hgl HC.out.2.2.1, vcell_far b7 hgl HC.out.2.2.2.1, vcell_far b7 hgl HC.out.2.2.2.2⟩, Lib.hid b7⟩
          clear hK K hHeld
          have hHeld := hNew
          clear hNew
          try simp only [Act.put, List.setIfInBounds_toArray, List.set_cons_zero, List.set_cons_succ]
          refine wpAnyH_ready (rs := [7]) (by kernel_rfl) (by simp) ?_
          refine AllReadyH.cons rfl (fun K hK => ?_) (AllReadyH.nil)
          go_simp
          refine hK.out _ _ ?_ (fun hNew => ?_)
          · exact ⟨⟨cellA hHeld.1.1 _, cellA hHeld.1.2.1 _, cellA hHeld.1.2.2.1 _, cellA hHeld.1.2.2.2.1 _, cellA hHeld.1.2.2.2.2 _⟩, Lib.hid (hHeld.2.out.alloc hHeld.2.out.size _)⟩
          clear hK K hHeld
          have hHeld := hNew
          clear hNew
          try simp only [Act.put, List.setIfInBounds_toArray, List.set_cons_zero, List.set_cons_succ]
          refine wpAnyH_ready (rs := [8]) (by kernel_rfl) (by simp) ?_
          refine AllReadyH.cons rfl (fun K hK => ?_) (AllReadyH.nil)
          refine wp_appV (.tmp 44) (.tmp 49) rfl w6.heap.size g7 cap7 L _ rfl (by simp [Act.eval]) (World.ownsRow.alloc HO7.out (.cells #[.int .i64 u.f, .int .i64 u.b, .slice u.a u.P.length u.c, .int .i64 u.l, .slice u.d u.M.length u.e] 27)) w7.heap.size 1 1 [u] rfl (by simp [Act.eval]) (new5 w7 u) (by first | omega | (simp; done) | (simp; omega)) (by have := hHeld.2.out.size; omega) ?_
          intro g8 cap8 w8 own8 grow8
          have HO8 := Lib.hid own8
          have b8 : Below w6.heap.size w6 w8 := hHeld.2.out.grown grow8 hHeld.2.out.size (fun k e => by cases e; exact (OwnW.low HO7.out).1)
          simp only [List.getElem_toArray, List.getElem_cons_succ, List.getElem_cons_zero]
          refine hK.out _ _ ?_ (fun hNew => ?_)
          · exact ⟨⟨vcell_far b8 hgl HC.out.1, vcell_far b8 hgl HC.out.2.1, vcell_far b8 hgl HC.out.2.2.1, vcell_far b8 hgl HC.out.2.2.2.1, vcell_far b8 hgl HC.out.2.2.2.2⟩, Lib.hid b8⟩
          clear hK K hHeld
          have hHeld := hNew
          clear hNew
          try simp only [Act.put, List.setIfInBounds_toArray, List.set_cons_zero, List.set_cons_succ]
          refine takeH (i := 9) (v := ?_) rfl rfl (by kernel_rfl) (by kernel_rfl) (by kernel_rfl) (fun _ _ _ h => h) (by rfl) ?_ (by assumption) ?_
          rotate_left 1
          · intro w hSw
            (try dsimp only at hSw)
            go_simp
            try with_reducible rfl
          try simp only [List.setIfInBounds_toArray, List.set_cons_zero, List.set_cons_succ]
          refine wpAnyH_done (by kernel_rfl) ?_ _
          rotate_left
          go_simp
          refine hK.out _ _ ?_ (fun hNew => ?_)
          · exact ⟨⟨cellA hHeld.1.1 _, cellA hHeld.1.2.1 _, cellA hHeld.1.2.2.1 _, cellA hHeld.1.2.2.2.1 _, cellA hHeld.1.2.2.2.2 _⟩, Lib.hid (hHeld.2.out.alloc hHeld.2.out.size _)⟩
          clear hK K hHeld
          have hHeld := hNew
          clear hNew
          try simp only [Act.put, List.setIfInBounds_toArray, List.set_cons_zero, List.set_cons_succ]
          refine wpAnyH_ready (rs := [2]) (by kernel_rfl) (by simp) ?_
          refine AllReadyH.cons rfl (fun K hK => ?_) (AllReadyH.nil)
          refine wp_appV (.tmp 42) (.tmp 43) rfl w6.heap.size w6.heap.size 0 [] _ rfl (by simp [Act.eval]) (World.ownsRow.alloc (ownw_empty w6 w6.heap.size (Nat.le_refl _)) (.cells #[.int .i64 u.f, .int .i64 u.b, .slice u.a u.P.length u.c, .int .i64 u.l, .slice u.d u.M.length u.e] 27)) g L.length cap L rfl (by simp [Act.eval]) (OwnW.cellsA ((HO6.out.alloc _).alloc _).1) (by first | omega | (simp; done) | (simp; omega)) (by first | omega | (simp; done) | (simp; omega)) ?_
          intro g7 cap7 w7 own7 grow7
          replace own7 : OwnW w7 w6.heap.size g7 cap7 L := own7
          have HO7 := Lib.hid own7
          have b7 : Below w6.heap.size w6 w7 := (hHeld.2.out.grown grow7 hHeld.2.out.size (fun k e => by cases e; omega))
          have NB := Lib.hid (show ∀ (j : Nat) x, (cells5 [u])[j]? = some x → w7.cell? ⟨w6.heap.size + 1, j, none⟩ = some x from fun j x hx => grow7.cell (by have := (new5 (w6.alloc (.cells #[] 27)) u) j x hx; rw [World.size_alloc] at this; exact this) (by simp))
          refine hK.out _ _ ?_ (fun hNew => ?_)
          · exact ⟨⟨vcell_far b7 hgl HC.out.1, vcell_far b7 hgl HC.out.2.1, vcell_far b7 hgl HC.out.2.2.1, vcell_far b7 hgl HC.out.2.2.2.1, vcell_far b7 hgl HC.out.2.2.2.2⟩, Lib.hid b7⟩
          clear hK K hHeld
          have hHeld := hNew
          clear hNew
          try simp only [Act.put, List.setIfInBounds_toArray, List.set_cons_zero, List.set_cons_succ]
          refine wpAnyH_ready (rs := [8]) (by kernel_rfl) (by simp) ?_
          refine AllReadyH.cons rfl (fun K hK => ?_) (AllReadyH.nil)
          refine wp_appV (.tmp 44) (.tmp 49) rfl w6.heap.size g7 cap7 L _ rfl (by simp [Act.eval]) (HO7.out) (w6.heap.size + 1) 1 1 [u] rfl (by simp [Act.eval]) NB.out (by first | omega | (simp; done) | (simp; omega)) (by have := hHeld.2.out.size; omega) ?_
          intro g8 cap8 w8 own8 grow8
          have HO8 := Lib.hid own8
          have b8 : Below w6.heap.size w6 w8 := hHeld.2.out.grown grow8 hHeld.2.out.size (fun k e => by cases e; exact (OwnW.low HO7.out).1)
          simp only [List.getElem_toArray, List.getElem_cons_succ, List.getElem_cons_zero]
          refine hK.out _ _ ?_ (fun hNew => ?_)
          · exact ⟨⟨vcell_far b8 hgl HC.out.1, vcell_far b8 hgl HC.out.2.1, vcell_far b8 hgl HC.out.2.2.1, vcell_far b8 hgl HC.out.2.2.2.1, vcell_far b8 hgl HC.out.2.2.2.2⟩, Lib.hid b8⟩
          clear hK K hHeld
          have hHeld := hNew
          clear hNew
          try simp only [Act.put, List.setIfInBounds_toArray, List.set_cons_zero, List.set_cons_succ]
          refine takeH (i := 9) (v := ?_) rfl rfl (by kernel_rfl) (by kernel_rfl) (by kernel_rfl) (fun _ _ _ h => h) (by rfl) ?_ (by assumption) ?_
          rotate_left 1
          · intro w hSw
            (try dsimp only at hSw)
            go_simp
            try with_reducible rfl
          try simp only [List.setIfInBounds_toArray, List.set_cons_zero, List.set_cons_succ]
          refine wpAnyH_done (by kernel_rfl) ?_ _
          rotate_left
          go_simp
          refine hK.out _ _ ?_ (fun hNew => ?_)
          · exact ⟨⟨cellA hHeld.1.1 _, cellA hHeld.1.2.1 _, cellA hHeld.1.2.2.1 _, cellA hHeld.1.2.2.2.1 _, cellA hHeld.1.2.2.2.2 _⟩, Lib.hid (hHeld.2.out.alloc hHeld.2.out.size _)⟩
          clear hK K hHeld
          have hHeld := hNew
          clear hNew
          try simp only [Act.put, List.setIfInBounds_toArray, List.set_cons_zero, List.set_cons_succ]
          refine wpAnyH_ready (rs := [0]) (by kernel_rfl) (by simp) ?_
          refine AllReadyH.cons rfl (fun K hK => ?_) (AllReadyH.nil)
          go_simp
          refine hK.out _ _ ?_ (fun hNew => ?_)
          · exact ⟨⟨cellA hHeld.1.1 _, cellA hHeld.1.2.1 _, cellA hHeld.1.2.2.1 _, cellA hHeld.1.2.2.2.1 _, cellA hHeld.1.2.2.2.2 _⟩, Lib.hid (hHeld.2.out.alloc hHeld.2.out.size _)⟩
          clear hK K hHeld
          have hHeld := hNew
          clear hNew
          try simp only [Act.put, List.setIfInBounds_toArray, List.set_cons_zero, List.set_cons_succ]
          refine wpAnyH_ready (rs := [2]) (by kernel_rfl) (by simp) ?_
          refine AllReadyH.cons rfl (fun K hK => ?_) (AllReadyH.nil)
          refine wp_appV (.tmp 42) (.tmp 43) rfl w6.heap.size (w6.heap.size + 1) 0 [] _ rfl (by simp [Act.eval]) (ownw_e1 w6 (.cells #[.int .i64 u.f, .int .i64 u.b, .slice u.a u.P.length u.c, .int .i64 u.l, .slice u.d u.M.length u.e] 27)) g L.length cap L rfl (by simp [Act.eval]) (OwnW.cellsA ((HO6.out.alloc _).alloc _).1) (by first | omega | (simp; done) | (simp; omega)) (by first | omega | (simp; done) | (simp; omega)) ?_
          intro g7 cap7 w7 own7 grow7
          replace own7 : OwnW w7 w6.heap.size g7 cap7 L := own7
          have HO7 := Lib.hid own7
          have b7 : Below w6.heap.size w6 w7 := (hHeld.2.out.grown grow7 hHeld.2.out.size (fun k e => by cases e; omega))
          have NB := Lib.hid (show ∀ (j : Nat) x, (cells5 [u])[j]? = some x → w7.cell? ⟨w6.heap.size, j, none⟩ = some x from fun j x hx => grow7.cell (by have := (fun (j : Nat) (x : Value) (hx : (cells5 [u])[j]? = some x) => cellA (new5 w6 u j x hx) (.cells #[] 27)) j x hx; exact this) (by simp))
          refine hK.out _ _ ?_ (fun hNew => ?_)
          · exact ⟨⟨vcell_far b7 hgl HC.out.1, vcell_far b7 hgl HC.out.2.1, vcell_far b7 hgl HC.out.2.2.1, vcell_far b7 hgl HC.out.2.2.2.1, vcell_far b7 hgl HC.out.2.2.2.2⟩, Lib.hid b7⟩
          clear hK K hHeld
          have hHeld := hNew
          clear hNew
          try simp only [Act.put, List.setIfInBounds_toArray, List.set_cons_zero, List.set_cons_succ]
          refine wpAnyH_ready (rs := [8]) (by kernel_rfl) (by simp) ?_
          refine AllReadyH.cons rfl (fun K hK => ?_) (AllReadyH.nil)
          refine wp_appV (.tmp 44) (.tmp 49) rfl w6.heap.size g7 cap7 L _ rfl (by simp [Act.eval]) (HO7.out) w6.heap.size 1 1 [u] rfl (by simp [Act.eval]) NB.out (by first | omega | (simp; done) | (simp; omega)) (by have := hHeld.2.out.size; omega) ?_
          intro g8 cap8 w8 own8 grow8
          have HO8 := Lib.hid own8
          have b8 : Below w6.heap.size w6 w8 := hHeld.2.out.grown grow8 hHeld.2.out.size (fun k e => by cases e; exact (OwnW.low HO7.out).1)
          simp only [List.getElem_toArray, List.getElem_cons_succ, List.getElem_cons_zero]
          refine hK.out _ _ ?_ (fun hNew => ?_)
          · exact ⟨⟨vcell_far b8 hgl HC.out.1, vcell_far b8 hgl HC.out.2.1, vcell_far b8 hgl HC.out.2.2.1, vcell_far b8 hgl HC.out.2.2.2.1, vcell_far b8 hgl HC.out.2.2.2.2⟩, Lib.hid b8⟩
          clear hK K hHeld
          have hHeld := hNew
          clear hNew
          try simp only [Act.put, List.setIfInBounds_toArray, List.set_cons_zero, List.set_cons_succ]
          refine takeH (i := 9) (v := ?_) rfl rfl (by kernel_rfl) (by kernel_rfl) (by kernel_rfl) (fun _ _ _ h => h) (by rfl) ?_ (by assumption) ?_
          rotate_left 1
          · intro w hSw
            (try dsimp only at hSw)
            go_simp
            try with_reducible rfl
          try simp only [List.setIfInBounds_toArray, List.set_cons_zero, List.set_cons_succ]
          refine wpAnyH_done (by kernel_rfl) ?_ _
          rotate_left
        · have HB8 := Lib.hid b8
          have HM8 : Hid (∀ v ∈ L, v.m w8) := Lib.hid (fun v hv => (RtsO.m6 HO6.out v hv).below HB8.out)
          have HA8 := Lib.hid (OwnW.rsa HO8.out (fun v hv => by rcases List.mem_append.1 hv with k | k; exact HM8.out v k; (obtain rfl : v = u := by simpa using k); exact HM8.out _ (List.mem_of_getElem? HU.out)))
          have HOB : Hid (OwnW w8 w3.heap.size gb cb LB) := Lib.hid (World.ownsRow.kept HOb.out (row := none) ⟨b8.os, b8.tape, b8.output, b8.size, fun i hi _ => b8.block i hi⟩ (.inr (by simp [Value.ownBlock])))
          have HAB := Lib.hid (OwnW.rsa HOB.out (fun v hv => HM8.out v (by rw [HLB.out] at hv; simpa using hv)))
          have HW8 := Lib.hid (HB6.out.trans (b8.mono hw6))
          have HLl : Hid ((L ++ [u]).length = L.length + 1) := Lib.hid (by simp)
          obtain ⟨b, off, eb, hq1, hm1⟩ := HAB.out.at HY.out
          obtain ⟨rfl, rfl⟩ : gb = b ∧ 0 = off := by simpa using eb
          simp only [Nat.zero_add] at hq1
          have HCC := Lib.hid (And.intro hq1 hHeld.1)
          have HM1 : Hid (RtM w8 y.a y.c y.P y.d y.e y.M) := Lib.hid hm1
          have HM2 : Hid (RtM w8 u.a u.c u.P u.d u.e u.M) := Lib.hid (HM8.out _ (List.mem_of_getElem? HU.out))
          clear hHeld b8 hq1 hm1 eb HO8 HO7 HOB HOb HBb
          try clear NB
          try clear b7
          try clear own7 grow7 own8 grow8
          generalize L ++ [u] = LT at *
          go_wp2_with fail
          refine wp_region_held_drew (S := fun W => ((W.cell? ⟨gb, k2 * 5, none⟩ = some (.int .i64 y.f) ∧ W.cell? ⟨gb, k2 * 5 + 1, none⟩ = some (.int .i64 y.b) ∧ W.cell? ⟨gb, k2 * 5 + 2, none⟩ = some (.slice y.a y.P.length y.c) ∧ W.cell? ⟨gb, k2 * 5 + 3, none⟩ = some (.int .i64 y.l) ∧ W.cell? ⟨gb, k2 * 5 + 4, none⟩ = some (.slice y.d y.M.length y.e)) ∧ W.cell? ⟨g, t * 5, none⟩ = some (.int .i64 u.f) ∧ W.cell? ⟨g, t * 5 + 1, none⟩ = some (.int .i64 u.b) ∧ W.cell? ⟨g, t * 5 + 2, none⟩ = some (.slice u.a u.P.length u.c) ∧ W.cell? ⟨g, t * 5 + 3, none⟩ = some (.int .i64 u.l) ∧ W.cell? ⟨g, t * 5 + 4, none⟩ = some (.slice u.d u.M.length u.e)) ∧ Hid (Below w.heap.size w W ∧ RsA W (some ⟨gb, 0, none⟩) LB ∧ RsA W (some ⟨g8, 0, none⟩) LT ∧ RtM W y.a y.c y.P y.d y.e y.M ∧ RtM W u.a u.c u.P u.d u.e u.M)) (by kernel_rfl) ?_ (fun hHeld => ?_)
          · exact ⟨HCC.out, Lib.hid ⟨HW8.out.drew, HAB.out, HA8.out, HM1.out, HM2.out⟩⟩
          refine takeH (i := 0) (v := ?_) rfl rfl (by kernel_rfl) (by kernel_rfl) (by kernel_rfl) (fun _ _ _ h => h) (by rfl) ?_ (by assumption) ?_
          rotate_left 1
          · intro w hSw
            (try dsimp only at hSw)
            go_simp
            try with_reducible rfl
          try simp only [List.setIfInBounds_toArray, List.set_cons_zero, List.set_cons_succ]
          refine takeH (i := 1) (v := ?_) rfl rfl (by kernel_rfl) (by kernel_rfl) (by kernel_rfl) (fun _ _ _ h => h) (by rfl) ?_ (by assumption) ?_
          rotate_left 1
          · intro w hSw
            (try dsimp only at hSw)
            go_simp
            try with_reducible rfl
          try simp only [List.setIfInBounds_toArray, List.set_cons_zero, List.set_cons_succ]
          refine takeH (i := 5) (v := ?_) rfl rfl (by kernel_rfl) (by kernel_rfl) (by kernel_rfl) (fun _ _ _ h => h) (by rfl) ?_ (by assumption) ?_
          rotate_left 1
          · intro w hSw
            (try dsimp only at hSw)
            go_simp
            try with_reducible rfl
          try simp only [List.setIfInBounds_toArray, List.set_cons_zero, List.set_cons_succ]
          refine takeH (i := 6) (v := ?_) rfl rfl (by kernel_rfl) (by kernel_rfl) (by kernel_rfl) (fun _ _ _ h => h) (by rfl) ?_ (by assumption) ?_
          rotate_left 1
          · intro w hSw
            (try dsimp only at hSw)
            go_simp
            try with_reducible rfl
          try simp only [List.setIfInBounds_toArray, List.set_cons_zero, List.set_cons_succ]
          refine takeH (i := 7) (v := ?_) rfl rfl (by kernel_rfl) (by kernel_rfl) (by kernel_rfl) (fun _ _ _ h => h) (by rfl) ?_ (by assumption) ?_
          rotate_left 1
          · intro w hSw
            (try dsimp only at hSw)
            go_simp
            try with_reducible rfl
          try simp only [List.setIfInBounds_toArray, List.set_cons_zero, List.set_cons_succ]
          refine takeH (i := 8) (v := ?_) rfl rfl (by kernel_rfl) (by kernel_rfl) (by kernel_rfl) (fun _ _ _ h => h) (by rfl) ?_ (by assumption) ?_
          rotate_left 1
          · intro w hSw
            (try dsimp only at hSw)
            go_simp
            try with_reducible rfl
          try simp only [List.setIfInBounds_toArray, List.set_cons_zero, List.set_cons_succ]
          refine wpAnyH_ready (rs := [2]) (by kernel_rfl) (by simp) ?_
          refine AllReadyH.cons rfl (fun K hK => ?_) (AllReadyH.nil)
          go_simp
          refine (ibest_is LB (some ⟨gb, 0, none⟩) cb _ _ p HK2.out rfl hHeld.2.out.2.1 (HE.out.below hHeld.2.out.1) (by omega)).mono ?_
          rintro en wx ⟨rfl, bc⟩
          go_wp2_with fail
          refine hK.out _ _ ?_ (fun hNew => ?_)
          · exact ⟨⟨⟨cell_later bc hHeld.1.1.1, cell_later bc hHeld.1.1.2.1, cell_later bc hHeld.1.1.2.2.1, cell_later bc hHeld.1.1.2.2.2.1, cell_later bc hHeld.1.1.2.2.2.2⟩, cell_later bc hHeld.1.2.1, cell_later bc hHeld.1.2.2.1, cell_later bc hHeld.1.2.2.2.1, cell_later bc hHeld.1.2.2.2.2.1, cell_later bc hHeld.1.2.2.2.2.2⟩, Lib.hid ⟨next hHeld.2.out.1 bc, hHeld.2.out.2.1.below bc, hHeld.2.out.2.2.1.below bc, hHeld.2.out.2.2.2.1.below bc, hHeld.2.out.2.2.2.2.below bc⟩⟩
          clear hK K hHeld
          have hHeld := hNew
          clear hNew
          try simp only [Act.put, List.setIfInBounds_toArray, List.set_cons_zero, List.set_cons_succ]
          refine takeH (i := 3) (v := ?_) rfl rfl (by kernel_rfl) (by kernel_rfl) (by kernel_rfl) (fun _ _ _ h => h) (by rfl) ?_ (by assumption) ?_
          rotate_left 1
          · intro w hSw
            (try dsimp only at hSw)
            go_simp
            try with_reducible rfl
          try simp only [List.setIfInBounds_toArray, List.set_cons_zero, List.set_cons_succ]
          refine takeH (i := 4) (v := ?_) rfl rfl (by kernel_rfl) (by kernel_rfl) (by kernel_rfl) (fun _ _ _ h => h) (by rfl) ?_ (by assumption) ?_
          rotate_left 1
          · intro w hSw
            (try dsimp only at hSw)
            go_simp
            try with_reducible rfl
          try simp only [List.setIfInBounds_toArray, List.set_cons_zero, List.set_cons_succ]
          refine wpAnyH_ready (rs := [9]) (by kernel_rfl) (by simp) ?_
          refine AllReadyH.cons rfl (fun K hK => ?_) (AllReadyH.nil)
          go_simp
          refine (lyrt_is y.f y.b y.a y.c y.P y.l y.d y.e y.M u.f u.b u.a u.c u.P u.l u.d u.e u.M (show decide ((y.f, y.b, y.P, y.l, y.M) = (u.f, u.b, u.P, u.l, u.M)) = true from decide_eq_true HYU.out) _ hHeld.2.out.2.2.2.1 hHeld.2.out.2.2.2.2).mono ?_
          rintro en wy ⟨rfl, bc⟩
          go_wp2_with fail
          refine hK.out _ _ ?_ (fun hNew => ?_)
          · exact ⟨⟨⟨cell_later bc hHeld.1.1.1, cell_later bc hHeld.1.1.2.1, cell_later bc hHeld.1.1.2.2.1, cell_later bc hHeld.1.1.2.2.2.1, cell_later bc hHeld.1.1.2.2.2.2⟩, cell_later bc hHeld.1.2.1, cell_later bc hHeld.1.2.2.1, cell_later bc hHeld.1.2.2.2.1, cell_later bc hHeld.1.2.2.2.2.1, cell_later bc hHeld.1.2.2.2.2.2⟩, Lib.hid ⟨next hHeld.2.out.1 bc, hHeld.2.out.2.1.below bc, hHeld.2.out.2.2.1.below bc, hHeld.2.out.2.2.2.1.below bc, hHeld.2.out.2.2.2.2.below bc⟩⟩
          clear hK K hHeld
          have hHeld := hNew
          clear hNew
          try simp only [Act.put, List.setIfInBounds_toArray, List.set_cons_zero, List.set_cons_succ]
          refine takeH (i := 10) (v := ?_) rfl rfl (by kernel_rfl) (by kernel_rfl) (by kernel_rfl) (fun _ _ _ h => h) (by rfl) ?_ (by assumption) ?_
          rotate_left 1
          · intro w hSw
            (try dsimp only at hSw)
            go_simp
            try with_reducible rfl
          try simp only [List.setIfInBounds_toArray, List.set_cons_zero, List.set_cons_succ]
          refine takeH (i := 11) (v := ?_) rfl rfl (by kernel_rfl) (by kernel_rfl) (by kernel_rfl) (fun _ _ _ h => h) (by rfl) ?_ (by assumption) ?_
          rotate_left 1
          · intro w hSw
            (try dsimp only at hSw)
            go_simp
            try with_reducible rfl
          try simp only [List.setIfInBounds_toArray, List.set_cons_zero, List.set_cons_succ]
          refine takeH (i := 13) (v := ?_) rfl rfl (by kernel_rfl) (by kernel_rfl) (by kernel_rfl) (fun _ _ _ h => h) (by rfl) ?_ (by assumption) ?_
          rotate_left 1
          · intro w hSw
            (try dsimp only at hSw)
            go_simp
            try with_reducible rfl
          try simp only [List.setIfInBounds_toArray, List.set_cons_zero, List.set_cons_succ]
          refine wpAnyH_ready (rs := [12]) (by kernel_rfl) (by simp) ?_
          refine AllReadyH.cons rfl (fun K hK => ?_) (AllReadyH.nil)
          go_simp
          refine (ibest_is LT (some ⟨g8, 0, none⟩) cap8 _ _ p HTw.out (by have := HLl.out; omega) hHeld.2.out.2.2.1 (HE.out.below hHeld.2.out.1) (by have := HLl.out; omega)).mono ?_
          rintro en wz ⟨rfl, bc⟩
          go_wp2_with fail
          refine hK.out _ _ ?_ (fun hNew => ?_)
          · exact ⟨⟨⟨cell_later bc hHeld.1.1.1, cell_later bc hHeld.1.1.2.1, cell_later bc hHeld.1.1.2.2.1, cell_later bc hHeld.1.1.2.2.2.1, cell_later bc hHeld.1.1.2.2.2.2⟩, cell_later bc hHeld.1.2.1, cell_later bc hHeld.1.2.2.1, cell_later bc hHeld.1.2.2.2.1, cell_later bc hHeld.1.2.2.2.2.1, cell_later bc hHeld.1.2.2.2.2.2⟩, Lib.hid ⟨next hHeld.2.out.1 bc, hHeld.2.out.2.1.below bc, hHeld.2.out.2.2.1.below bc, hHeld.2.out.2.2.2.1.below bc, hHeld.2.out.2.2.2.2.below bc⟩⟩
          clear hK K hHeld
          have hHeld := hNew
          clear hNew
          try simp only [Act.put, List.setIfInBounds_toArray, List.set_cons_zero, List.set_cons_succ]
          refine takeH (i := 14) (v := ?_) rfl rfl (by kernel_rfl) (by kernel_rfl) (by kernel_rfl) (fun _ _ _ h => h) (by rfl) ?_ (by assumption) ?_
          rotate_left 1
          · intro w hSw
            (try dsimp only at hSw)
            go_simp
            try with_reducible rfl
          try simp only [List.setIfInBounds_toArray, List.set_cons_zero, List.set_cons_succ]
          refine takeH (i := 15) (v := ?_) rfl rfl (by kernel_rfl) (by kernel_rfl) (by kernel_rfl) (fun _ _ _ h => h) (by rfl) ?_ (by assumption) ?_
          rotate_left 1
          · intro w hSw
            (try dsimp only at hSw)
            go_simp
            try with_reducible rfl
          try simp only [List.setIfInBounds_toArray, List.set_cons_zero, List.set_cons_succ]
          refine takeH (i := 16) (v := ?_) rfl rfl (by kernel_rfl) (by kernel_rfl) (by kernel_rfl) (fun _ _ _ h => h) (by rfl) ?_ (by assumption) ?_
          rotate_left 1
          · intro w hSw
            (try dsimp only at hSw)
            go_simp
            try with_reducible rfl
          try simp only [List.setIfInBounds_toArray, List.set_cons_zero, List.set_cons_succ]
          refine wpAnyH_done (by kernel_rfl) ?_ _
          have HB9 := Lib.hid hHeld.2.out.1
          clear hHeld HCC
          go_wp2_with fail
          go_ret
          exact ⟨by simp, HB9.out⟩
        · have HB8 := Lib.hid b8
          have HM8 : Hid (∀ v ∈ L, v.m w8) := Lib.hid (fun v hv => (RtsO.m6 HO6.out v hv).below HB8.out)
          have HA8 := Lib.hid (OwnW.rsa HO8.out (fun v hv => by rcases List.mem_append.1 hv with k | k; exact HM8.out v k; (obtain rfl : v = u := by simpa using k); exact HM8.out _ (List.mem_of_getElem? HU.out)))
          have HOB : Hid (OwnW w8 w3.heap.size gb cb LB) := Lib.hid (World.ownsRow.kept HOb.out (row := none) ⟨b8.os, b8.tape, b8.output, b8.size, fun i hi _ => b8.block i hi⟩ (.inr (by simp [Value.ownBlock])))
          have HAB := Lib.hid (OwnW.rsa HOB.out (fun v hv => HM8.out v (by rw [HLB.out] at hv; simpa using hv)))
          have HW8 := Lib.hid (HB6.out.trans (b8.mono hw6))
          have HLl : Hid ((L ++ [u]).length = L.length + 1) := Lib.hid (by simp)
          obtain ⟨b, off, eb, hq1, hm1⟩ := HAB.out.at HY.out
          obtain ⟨rfl, rfl⟩ : gb = b ∧ 0 = off := by simpa using eb
          simp only [Nat.zero_add] at hq1
          have HCC := Lib.hid (And.intro hq1 hHeld.1)
          have HM1 : Hid (RtM w8 y.a y.c y.P y.d y.e y.M) := Lib.hid hm1
          have HM2 : Hid (RtM w8 u.a u.c u.P u.d u.e u.M) := Lib.hid (HM8.out _ (List.mem_of_getElem? HU.out))
          clear hHeld b8 hq1 hm1 eb HO8 HO7 HOB HOb HBb
          try clear NB
          try clear b7
          try clear own7 grow7 own8 grow8
          generalize L ++ [u] = LT at *
          go_wp2_with fail
          refine wp_region_held_drew (S := fun W => ((W.cell? ⟨gb, k2 * 5, none⟩ = some (.int .i64 y.f) ∧ W.cell? ⟨gb, k2 * 5 + 1, none⟩ = some (.int .i64 y.b) ∧ W.cell? ⟨gb, k2 * 5 + 2, none⟩ = some (.slice y.a y.P.length y.c) ∧ W.cell? ⟨gb, k2 * 5 + 3, none⟩ = some (.int .i64 y.l) ∧ W.cell? ⟨gb, k2 * 5 + 4, none⟩ = some (.slice y.d y.M.length y.e)) ∧ W.cell? ⟨g, t * 5, none⟩ = some (.int .i64 u.f) ∧ W.cell? ⟨g, t * 5 + 1, none⟩ = some (.int .i64 u.b) ∧ W.cell? ⟨g, t * 5 + 2, none⟩ = some (.slice u.a u.P.length u.c) ∧ W.cell? ⟨g, t * 5 + 3, none⟩ = some (.int .i64 u.l) ∧ W.cell? ⟨g, t * 5 + 4, none⟩ = some (.slice u.d u.M.length u.e)) ∧ Hid (Below w.heap.size w W ∧ RsA W (some ⟨gb, 0, none⟩) LB ∧ RsA W (some ⟨g8, 0, none⟩) LT ∧ RtM W y.a y.c y.P y.d y.e y.M ∧ RtM W u.a u.c u.P u.d u.e u.M)) (by kernel_rfl) ?_ (fun hHeld => ?_)
          · exact ⟨HCC.out, Lib.hid ⟨HW8.out.drew, HAB.out, HA8.out, HM1.out, HM2.out⟩⟩
          refine takeH (i := 0) (v := ?_) rfl rfl (by kernel_rfl) (by kernel_rfl) (by kernel_rfl) (fun _ _ _ h => h) (by rfl) ?_ (by assumption) ?_
          rotate_left 1
          · intro w hSw
            (try dsimp only at hSw)
            go_simp
            try with_reducible rfl
          try simp only [List.setIfInBounds_toArray, List.set_cons_zero, List.set_cons_succ]
          refine takeH (i := 1) (v := ?_) rfl rfl (by kernel_rfl) (by kernel_rfl) (by kernel_rfl) (fun _ _ _ h => h) (by rfl) ?_ (by assumption) ?_
          rotate_left 1
          · intro w hSw
            (try dsimp only at hSw)
            go_simp
            try with_reducible rfl
          try simp only [List.setIfInBounds_toArray, List.set_cons_zero, List.set_cons_succ]
          refine takeH (i := 5) (v := ?_) rfl rfl (by kernel_rfl) (by kernel_rfl) (by kernel_rfl) (fun _ _ _ h => h) (by rfl) ?_ (by assumption) ?_
          rotate_left 1
          · intro w hSw
            (try dsimp only at hSw)
            go_simp
            try with_reducible rfl
          try simp only [List.setIfInBounds_toArray, List.set_cons_zero, List.set_cons_succ]
          refine takeH (i := 6) (v := ?_) rfl rfl (by kernel_rfl) (by kernel_rfl) (by kernel_rfl) (fun _ _ _ h => h) (by rfl) ?_ (by assumption) ?_
          rotate_left 1
          · intro w hSw
            (try dsimp only at hSw)
            go_simp
            try with_reducible rfl
          try simp only [List.setIfInBounds_toArray, List.set_cons_zero, List.set_cons_succ]
          refine takeH (i := 7) (v := ?_) rfl rfl (by kernel_rfl) (by kernel_rfl) (by kernel_rfl) (fun _ _ _ h => h) (by rfl) ?_ (by assumption) ?_
          rotate_left 1
          · intro w hSw
            (try dsimp only at hSw)
            go_simp
            try with_reducible rfl
          try simp only [List.setIfInBounds_toArray, List.set_cons_zero, List.set_cons_succ]
          refine takeH (i := 8) (v := ?_) rfl rfl (by kernel_rfl) (by kernel_rfl) (by kernel_rfl) (fun _ _ _ h => h) (by rfl) ?_ (by assumption) ?_
          rotate_left 1
          · intro w hSw
            (try dsimp only at hSw)
            go_simp
            try with_reducible rfl
          try simp only [List.setIfInBounds_toArray, List.set_cons_zero, List.set_cons_succ]
          refine wpAnyH_ready (rs := [2]) (by kernel_rfl) (by simp) ?_
          refine AllReadyH.cons rfl (fun K hK => ?_) (AllReadyH.nil)
          go_simp
          refine (ibest_is LB (some ⟨gb, 0, none⟩) cb _ _ p HK2.out rfl hHeld.2.out.2.1 (HE.out.below hHeld.2.out.1) (by omega)).mono ?_
          rintro en wx ⟨rfl, bc⟩
          go_wp2_with fail
          refine hK.out _ _ ?_ (fun hNew => ?_)
          · exact ⟨⟨⟨cell_later bc hHeld.1.1.1, cell_later bc hHeld.1.1.2.1, cell_later bc hHeld.1.1.2.2.1, cell_later bc hHeld.1.1.2.2.2.1, cell_later bc hHeld.1.1.2.2.2.2⟩, cell_later bc hHeld.1.2.1, cell_later bc hHeld.1.2.2.1, cell_later bc hHeld.1.2.2.2.1, cell_later bc hHeld.1.2.2.2.2.1, cell_later bc hHeld.1.2.2.2.2.2⟩, Lib.hid ⟨next hHeld.2.out.1 bc, hHeld.2.out.2.1.below bc, hHeld.2.out.2.2.1.below bc, hHeld.2.out.2.2.2.1.below bc, hHeld.2.out.2.2.2.2.below bc⟩⟩
          clear hK K hHeld
          have hHeld := hNew
          clear hNew
          try simp only [Act.put, List.setIfInBounds_toArray, List.set_cons_zero, List.set_cons_succ]
          refine takeH (i := 3) (v := ?_) rfl rfl (by kernel_rfl) (by kernel_rfl) (by kernel_rfl) (fun _ _ _ h => h) (by rfl) ?_ (by assumption) ?_
          rotate_left 1
          · intro w hSw
            (try dsimp only at hSw)
            go_simp
            try with_reducible rfl
          try simp only [List.setIfInBounds_toArray, List.set_cons_zero, List.set_cons_succ]
          refine takeH (i := 4) (v := ?_) rfl rfl (by kernel_rfl) (by kernel_rfl) (by kernel_rfl) (fun _ _ _ h => h) (by rfl) ?_ (by assumption) ?_
          rotate_left 1
          · intro w hSw
            (try dsimp only at hSw)
            go_simp
            try with_reducible rfl
          try simp only [List.setIfInBounds_toArray, List.set_cons_zero, List.set_cons_succ]
          refine wpAnyH_ready (rs := [9]) (by kernel_rfl) (by simp) ?_
          refine AllReadyH.cons rfl (fun K hK => ?_) (AllReadyH.nil)
          go_simp
          refine (lyrt_is y.f y.b y.a y.c y.P y.l y.d y.e y.M u.f u.b u.a u.c u.P u.l u.d u.e u.M (show decide ((y.f, y.b, y.P, y.l, y.M) = (u.f, u.b, u.P, u.l, u.M)) = true from decide_eq_true HYU.out) _ hHeld.2.out.2.2.2.1 hHeld.2.out.2.2.2.2).mono ?_
          rintro en wy ⟨rfl, bc⟩
          go_wp2_with fail
          refine hK.out _ _ ?_ (fun hNew => ?_)
          · exact ⟨⟨⟨cell_later bc hHeld.1.1.1, cell_later bc hHeld.1.1.2.1, cell_later bc hHeld.1.1.2.2.1, cell_later bc hHeld.1.1.2.2.2.1, cell_later bc hHeld.1.1.2.2.2.2⟩, cell_later bc hHeld.1.2.1, cell_later bc hHeld.1.2.2.1, cell_later bc hHeld.1.2.2.2.1, cell_later bc hHeld.1.2.2.2.2.1, cell_later bc hHeld.1.2.2.2.2.2⟩, Lib.hid ⟨next hHeld.2.out.1 bc, hHeld.2.out.2.1.below bc, hHeld.2.out.2.2.1.below bc, hHeld.2.out.2.2.2.1.below bc, hHeld.2.out.2.2.2.2.below bc⟩⟩
          clear hK K hHeld
          have hHeld := hNew
          clear hNew
          try simp only [Act.put, List.setIfInBounds_toArray, List.set_cons_zero, List.set_cons_succ]
          refine takeH (i := 10) (v := ?_) rfl rfl (by kernel_rfl) (by kernel_rfl) (by kernel_rfl) (fun _ _ _ h => h) (by rfl) ?_ (by assumption) ?_
          rotate_left 1
          · intro w hSw
            (try dsimp only at hSw)
            go_simp
            try with_reducible rfl
          try simp only [List.setIfInBounds_toArray, List.set_cons_zero, List.set_cons_succ]
          refine takeH (i := 11) (v := ?_) rfl rfl (by kernel_rfl) (by kernel_rfl) (by kernel_rfl) (fun _ _ _ h => h) (by rfl) ?_ (by assumption) ?_
          rotate_left 1
          · intro w hSw
            (try dsimp only at hSw)
            go_simp
            try with_reducible rfl
          try simp only [List.setIfInBounds_toArray, List.set_cons_zero, List.set_cons_succ]
          refine takeH (i := 13) (v := ?_) rfl rfl (by kernel_rfl) (by kernel_rfl) (by kernel_rfl) (fun _ _ _ h => h) (by rfl) ?_ (by assumption) ?_
          rotate_left 1
          · intro w hSw
            (try dsimp only at hSw)
            go_simp
            try with_reducible rfl
          try simp only [List.setIfInBounds_toArray, List.set_cons_zero, List.set_cons_succ]
          refine wpAnyH_ready (rs := [12]) (by kernel_rfl) (by simp) ?_
          refine AllReadyH.cons rfl (fun K hK => ?_) (AllReadyH.nil)
          go_simp
          refine (ibest_is LT (some ⟨g8, 0, none⟩) cap8 _ _ p HTw.out (by have := HLl.out; omega) hHeld.2.out.2.2.1 (HE.out.below hHeld.2.out.1) (by have := HLl.out; omega)).mono ?_
          rintro en wz ⟨rfl, bc⟩
          go_wp2_with fail
          refine hK.out _ _ ?_ (fun hNew => ?_)
          · exact ⟨⟨⟨cell_later bc hHeld.1.1.1, cell_later bc hHeld.1.1.2.1, cell_later bc hHeld.1.1.2.2.1, cell_later bc hHeld.1.1.2.2.2.1, cell_later bc hHeld.1.1.2.2.2.2⟩, cell_later bc hHeld.1.2.1, cell_later bc hHeld.1.2.2.1, cell_later bc hHeld.1.2.2.2.1, cell_later bc hHeld.1.2.2.2.2.1, cell_later bc hHeld.1.2.2.2.2.2⟩, Lib.hid ⟨next hHeld.2.out.1 bc, hHeld.2.out.2.1.below bc, hHeld.2.out.2.2.1.below bc, hHeld.2.out.2.2.2.1.below bc, hHeld.2.out.2.2.2.2.below bc⟩⟩
          clear hK K hHeld
          have hHeld := hNew
          clear hNew
          try simp only [Act.put, List.setIfInBounds_toArray, List.set_cons_zero, List.set_cons_succ]
          refine takeH (i := 14) (v := ?_) rfl rfl (by kernel_rfl) (by kernel_rfl) (by kernel_rfl) (fun _ _ _ h => h) (by rfl) ?_ (by assumption) ?_
          rotate_left 1
          · intro w hSw
            (try dsimp only at hSw)
            go_simp
            try with_reducible rfl
          try simp only [List.setIfInBounds_toArray, List.set_cons_zero, List.set_cons_succ]
          refine takeH (i := 15) (v := ?_) rfl rfl (by kernel_rfl) (by kernel_rfl) (by kernel_rfl) (fun _ _ _ h => h) (by rfl) ?_ (by assumption) ?_
          rotate_left 1
          · intro w hSw
            (try dsimp only at hSw)
            go_simp
            try with_reducible rfl
          try simp only [List.setIfInBounds_toArray, List.set_cons_zero, List.set_cons_succ]
          refine takeH (i := 16) (v := ?_) rfl rfl (by kernel_rfl) (by kernel_rfl) (by kernel_rfl) (fun _ _ _ h => h) (by rfl) ?_ (by assumption) ?_
          rotate_left 1
          · intro w hSw
            (try dsimp only at hSw)
            go_simp
            try with_reducible rfl
          try simp only [List.setIfInBounds_toArray, List.set_cons_zero, List.set_cons_succ]
          refine wpAnyH_done (by kernel_rfl) ?_ _
          have HB9 := Lib.hid hHeld.2.out.1
          clear hHeld HCC
          go_wp2_with fail
          go_ret
          exact ⟨by simp, HB9.out⟩
        · have HB8 := Lib.hid b8
          have HM8 : Hid (∀ v ∈ L, v.m w8) := Lib.hid (fun v hv => (RtsO.m6 HO6.out v hv).below HB8.out)
          have HA8 := Lib.hid (OwnW.rsa HO8.out (fun v hv => by rcases List.mem_append.1 hv with k | k; exact HM8.out v k; (obtain rfl : v = u := by simpa using k); exact HM8.out _ (List.mem_of_getElem? HU.out)))
          have HOB : Hid (OwnW w8 w3.heap.size gb cb LB) := Lib.hid (World.ownsRow.kept HOb.out (row := none) ⟨b8.os, b8.tape, b8.output, b8.size, fun i hi _ => b8.block i hi⟩ (.inr (by simp [Value.ownBlock])))
          have HAB := Lib.hid (OwnW.rsa HOB.out (fun v hv => HM8.out v (by rw [HLB.out] at hv; simpa using hv)))
          have HW8 := Lib.hid (HB6.out.trans (b8.mono hw6))
          have HLl : Hid ((L ++ [u]).length = L.length + 1) := Lib.hid (by simp)
          obtain ⟨b, off, eb, hq1, hm1⟩ := HAB.out.at HY.out
          obtain ⟨rfl, rfl⟩ : gb = b ∧ 0 = off := by simpa using eb
          simp only [Nat.zero_add] at hq1
          have HCC := Lib.hid (And.intro hq1 hHeld.1)
          have HM1 : Hid (RtM w8 y.a y.c y.P y.d y.e y.M) := Lib.hid hm1
          have HM2 : Hid (RtM w8 u.a u.c u.P u.d u.e u.M) := Lib.hid (HM8.out _ (List.mem_of_getElem? HU.out))
          clear hHeld b8 hq1 hm1 eb HO8 HO7 HOB HOb HBb
          try clear NB
          try clear b7
          try clear own7 grow7 own8 grow8
          generalize L ++ [u] = LT at *
          go_wp2_with fail
          refine wp_region_held_drew (S := fun W => ((W.cell? ⟨gb, k2 * 5, none⟩ = some (.int .i64 y.f) ∧ W.cell? ⟨gb, k2 * 5 + 1, none⟩ = some (.int .i64 y.b) ∧ W.cell? ⟨gb, k2 * 5 + 2, none⟩ = some (.slice y.a y.P.length y.c) ∧ W.cell? ⟨gb, k2 * 5 + 3, none⟩ = some (.int .i64 y.l) ∧ W.cell? ⟨gb, k2 * 5 + 4, none⟩ = some (.slice y.d y.M.length y.e)) ∧ W.cell? ⟨g, t * 5, none⟩ = some (.int .i64 u.f) ∧ W.cell? ⟨g, t * 5 + 1, none⟩ = some (.int .i64 u.b) ∧ W.cell? ⟨g, t * 5 + 2, none⟩ = some (.slice u.a u.P.length u.c) ∧ W.cell? ⟨g, t * 5 + 3, none⟩ = some (.int .i64 u.l) ∧ W.cell? ⟨g, t * 5 + 4, none⟩ = some (.slice u.d u.M.length u.e)) ∧ Hid (Below w.heap.size w W ∧ RsA W (some ⟨gb, 0, none⟩) LB ∧ RsA W (some ⟨g8, 0, none⟩) LT ∧ RtM W y.a y.c y.P y.d y.e y.M ∧ RtM W u.a u.c u.P u.d u.e u.M)) (by kernel_rfl) ?_ (fun hHeld => ?_)
          · exact ⟨HCC.out, Lib.hid ⟨HW8.out.drew, HAB.out, HA8.out, HM1.out, HM2.out⟩⟩
          refine takeH (i := 0) (v := ?_) rfl rfl (by kernel_rfl) (by kernel_rfl) (by kernel_rfl) (fun _ _ _ h => h) (by rfl) ?_ (by assumption) ?_
          rotate_left 1
          · intro w hSw
            (try dsimp only at hSw)
            go_simp
            try with_reducible rfl
          try simp only [List.setIfInBounds_toArray, List.set_cons_zero, List.set_cons_succ]
          refine takeH (i := 1) (v := ?_) rfl rfl (by kernel_rfl) (by kernel_rfl) (by kernel_rfl) (fun _ _ _ h => h) (by rfl) ?_ (by assumption) ?_
          rotate_left 1
          · intro w hSw
            (try dsimp only at hSw)
            go_simp
            try with_reducible rfl
          try simp only [List.setIfInBounds_toArray, List.set_cons_zero, List.set_cons_succ]
          refine takeH (i := 5) (v := ?_) rfl rfl (by kernel_rfl) (by kernel_rfl) (by kernel_rfl) (fun _ _ _ h => h) (by rfl) ?_ (by assumption) ?_
          rotate_left 1
          · intro w hSw
            (try dsimp only at hSw)
            go_simp
            try with_reducible rfl
          try simp only [List.setIfInBounds_toArray, List.set_cons_zero, List.set_cons_succ]
          refine takeH (i := 6) (v := ?_) rfl rfl (by kernel_rfl) (by kernel_rfl) (by kernel_rfl) (fun _ _ _ h => h) (by rfl) ?_ (by assumption) ?_
          rotate_left 1
          · intro w hSw
            (try dsimp only at hSw)
            go_simp
            try with_reducible rfl
          try simp only [List.setIfInBounds_toArray, List.set_cons_zero, List.set_cons_succ]
          refine takeH (i := 7) (v := ?_) rfl rfl (by kernel_rfl) (by kernel_rfl) (by kernel_rfl) (fun _ _ _ h => h) (by rfl) ?_ (by assumption) ?_
          rotate_left 1
          · intro w hSw
            (try dsimp only at hSw)
            go_simp
            try with_reducible rfl
          try simp only [List.setIfInBounds_toArray, List.set_cons_zero, List.set_cons_succ]
          refine takeH (i := 8) (v := ?_) rfl rfl (by kernel_rfl) (by kernel_rfl) (by kernel_rfl) (fun _ _ _ h => h) (by rfl) ?_ (by assumption) ?_
          rotate_left 1
          · intro w hSw
            (try dsimp only at hSw)
            go_simp
            try with_reducible rfl
          try simp only [List.setIfInBounds_toArray, List.set_cons_zero, List.set_cons_succ]
          refine wpAnyH_ready (rs := [2]) (by kernel_rfl) (by simp) ?_
          refine AllReadyH.cons rfl (fun K hK => ?_) (AllReadyH.nil)
          go_simp
          refine (ibest_is LB (some ⟨gb, 0, none⟩) cb _ _ p HK2.out rfl hHeld.2.out.2.1 (HE.out.below hHeld.2.out.1) (by omega)).mono ?_
          rintro en wx ⟨rfl, bc⟩
          go_wp2_with fail
          refine hK.out _ _ ?_ (fun hNew => ?_)
          · exact ⟨⟨⟨cell_later bc hHeld.1.1.1, cell_later bc hHeld.1.1.2.1, cell_later bc hHeld.1.1.2.2.1, cell_later bc hHeld.1.1.2.2.2.1, cell_later bc hHeld.1.1.2.2.2.2⟩, cell_later bc hHeld.1.2.1, cell_later bc hHeld.1.2.2.1, cell_later bc hHeld.1.2.2.2.1, cell_later bc hHeld.1.2.2.2.2.1, cell_later bc hHeld.1.2.2.2.2.2⟩, Lib.hid ⟨next hHeld.2.out.1 bc, hHeld.2.out.2.1.below bc, hHeld.2.out.2.2.1.below bc, hHeld.2.out.2.2.2.1.below bc, hHeld.2.out.2.2.2.2.below bc⟩⟩
          clear hK K hHeld
          have hHeld := hNew
          clear hNew
          try simp only [Act.put, List.setIfInBounds_toArray, List.set_cons_zero, List.set_cons_succ]
          refine takeH (i := 3) (v := ?_) rfl rfl (by kernel_rfl) (by kernel_rfl) (by kernel_rfl) (fun _ _ _ h => h) (by rfl) ?_ (by assumption) ?_
          rotate_left 1
          · intro w hSw
            (try dsimp only at hSw)
            go_simp
            try with_reducible rfl
          try simp only [List.setIfInBounds_toArray, List.set_cons_zero, List.set_cons_succ]
          refine takeH (i := 4) (v := ?_) rfl rfl (by kernel_rfl) (by kernel_rfl) (by kernel_rfl) (fun _ _ _ h => h) (by rfl) ?_ (by assumption) ?_
          rotate_left 1
          · intro w hSw
            (try dsimp only at hSw)
            go_simp
            try with_reducible rfl
          try simp only [List.setIfInBounds_toArray, List.set_cons_zero, List.set_cons_succ]
          refine wpAnyH_ready (rs := [9]) (by kernel_rfl) (by simp) ?_
          refine AllReadyH.cons rfl (fun K hK => ?_) (AllReadyH.nil)
          go_simp
          refine (lyrt_is y.f y.b y.a y.c y.P y.l y.d y.e y.M u.f u.b u.a u.c u.P u.l u.d u.e u.M (show decide ((y.f, y.b, y.P, y.l, y.M) = (u.f, u.b, u.P, u.l, u.M)) = true from decide_eq_true HYU.out) _ hHeld.2.out.2.2.2.1 hHeld.2.out.2.2.2.2).mono ?_
          rintro en wy ⟨rfl, bc⟩
          go_wp2_with fail
          refine hK.out _ _ ?_ (fun hNew => ?_)
          · exact ⟨⟨⟨cell_later bc hHeld.1.1.1, cell_later bc hHeld.1.1.2.1, cell_later bc hHeld.1.1.2.2.1, cell_later bc hHeld.1.1.2.2.2.1, cell_later bc hHeld.1.1.2.2.2.2⟩, cell_later bc hHeld.1.2.1, cell_later bc hHeld.1.2.2.1, cell_later bc hHeld.1.2.2.2.1, cell_later bc hHeld.1.2.2.2.2.1, cell_later bc hHeld.1.2.2.2.2.2⟩, Lib.hid ⟨next hHeld.2.out.1 bc, hHeld.2.out.2.1.below bc, hHeld.2.out.2.2.1.below bc, hHeld.2.out.2.2.2.1.below bc, hHeld.2.out.2.2.2.2.below bc⟩⟩
          clear hK K hHeld
          have hHeld := hNew
          clear hNew
          try simp only [Act.put, List.setIfInBounds_toArray, List.set_cons_zero, List.set_cons_succ]
          refine takeH (i := 10) (v := ?_) rfl rfl (by kernel_rfl) (by kernel_rfl) (by kernel_rfl) (fun _ _ _ h => h) (by rfl) ?_ (by assumption) ?_
          rotate_left 1
          · intro w hSw
            (try dsimp only at hSw)
            go_simp
            try with_reducible rfl
          try simp only [List.setIfInBounds_toArray, List.set_cons_zero, List.set_cons_succ]
          refine takeH (i := 11) (v := ?_) rfl rfl (by kernel_rfl) (by kernel_rfl) (by kernel_rfl) (fun _ _ _ h => h) (by rfl) ?_ (by assumption) ?_
          rotate_left 1
          · intro w hSw
            (try dsimp only at hSw)
            go_simp
            try with_reducible rfl
          try simp only [List.setIfInBounds_toArray, List.set_cons_zero, List.set_cons_succ]
          refine takeH (i := 13) (v := ?_) rfl rfl (by kernel_rfl) (by kernel_rfl) (by kernel_rfl) (fun _ _ _ h => h) (by rfl) ?_ (by assumption) ?_
          rotate_left 1
          · intro w hSw
            (try dsimp only at hSw)
            go_simp
            try with_reducible rfl
          try simp only [List.setIfInBounds_toArray, List.set_cons_zero, List.set_cons_succ]
          refine wpAnyH_ready (rs := [12]) (by kernel_rfl) (by simp) ?_
          refine AllReadyH.cons rfl (fun K hK => ?_) (AllReadyH.nil)
          go_simp
          refine (ibest_is LT (some ⟨g8, 0, none⟩) cap8 _ _ p HTw.out (by have := HLl.out; omega) hHeld.2.out.2.2.1 (HE.out.below hHeld.2.out.1) (by have := HLl.out; omega)).mono ?_
          rintro en wz ⟨rfl, bc⟩
          go_wp2_with fail
          refine hK.out _ _ ?_ (fun hNew => ?_)
          · exact ⟨⟨⟨cell_later bc hHeld.1.1.1, cell_later bc hHeld.1.1.2.1, cell_later bc hHeld.1.1.2.2.1, cell_later bc hHeld.1.1.2.2.2.1, cell_later bc hHeld.1.1.2.2.2.2⟩, cell_later bc hHeld.1.2.1, cell_later bc hHeld.1.2.2.1, cell_later bc hHeld.1.2.2.2.1, cell_later bc hHeld.1.2.2.2.2.1, cell_later bc hHeld.1.2.2.2.2.2⟩, Lib.hid ⟨next hHeld.2.out.1 bc, hHeld.2.out.2.1.below bc, hHeld.2.out.2.2.1.below bc, hHeld.2.out.2.2.2.1.below bc, hHeld.2.out.2.2.2.2.below bc⟩⟩
          clear hK K hHeld
          have hHeld := hNew
          clear hNew
          try simp only [Act.put, List.setIfInBounds_toArray, List.set_cons_zero, List.set_cons_succ]
          refine takeH (i := 14) (v := ?_) rfl rfl (by kernel_rfl) (by kernel_rfl) (by kernel_rfl) (fun _ _ _ h => h) (by rfl) ?_ (by assumption) ?_
          rotate_left 1
          · intro w hSw
            (try dsimp only at hSw)
            go_simp
            try with_reducible rfl
          try simp only [List.setIfInBounds_toArray, List.set_cons_zero, List.set_cons_succ]
          refine takeH (i := 15) (v := ?_) rfl rfl (by kernel_rfl) (by kernel_rfl) (by kernel_rfl) (fun _ _ _ h => h) (by rfl) ?_ (by assumption) ?_
          rotate_left 1
          · intro w hSw
            (try dsimp only at hSw)
            go_simp
            try with_reducible rfl
          try simp only [List.setIfInBounds_toArray, List.set_cons_zero, List.set_cons_succ]
          refine takeH (i := 16) (v := ?_) rfl rfl (by kernel_rfl) (by kernel_rfl) (by kernel_rfl) (fun _ _ _ h => h) (by rfl) ?_ (by assumption) ?_
          rotate_left 1
          · intro w hSw
            (try dsimp only at hSw)
            go_simp
            try with_reducible rfl
          try simp only [List.setIfInBounds_toArray, List.set_cons_zero, List.set_cons_succ]
          refine wpAnyH_done (by kernel_rfl) ?_ _
          have HB9 := Lib.hid hHeld.2.out.1
          clear hHeld HCC
          go_wp2_with fail
          go_ret
          exact ⟨by simp, HB9.out⟩
end Go.Proofs.YtfjfcdifnfffbaaDoor
