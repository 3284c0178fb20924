/-
  Reading a path: what the program answers.
-/
import Derived.Test.YtnabcffpficgcaaDoorPRead
import Derived.Lib.SmallJoins
namespace Go.Proofs.YtnabcffpficgcaaDoor
open Go.RowKit
set_option linter.unusedSimpArgs false
set_option linter.unusedVariables false

/-- the library's two errors; the greatest length of its quick search -/
def PErrs (w : World) : Prop := (∃ t p, w.var? Tryd.prog "strconv.ErrSyntax" = some #[.iface t p]) ∧ ∃ t p, w.var? Tryd.prog "strconv.ErrRange" = some #[.iface t p]
theorem pgSyn : Tryd.prog.globalNamed "strconv.ErrSyntax" = some 1 := by kernel_rfl
theorem pgRng : Tryd.prog.globalNamed "strconv.ErrRange" = some 2 := by kernel_rfl
theorem PErrs.on {w w' : World} {B : Nat} (h : PErrs w) (hb : Below B w w') (hB : w.heap.size ≤ B) : PErrs w' := by
  obtain ⟨⟨t1, p1, h1⟩, t2, p2, h2⟩ := h
  exact ⟨⟨t1, p1, Joins.var_stays pgSyn h1 hb hB⟩, t2, p2, Joins.var_stays pgRng h2 hb hB⟩
def MaxI (w : World) : Prop := ∃ m, w.cell? ⟨4, 0, none⟩ = some (.int .i64 m)
theorem MaxI.below {w w' : World} (h : MaxI w) (k : Below w.heap.size w w') : MaxI w' := by
  obtain ⟨m, h⟩ := h
  exact ⟨m, cell_later k h⟩
theorem patoi_ok (s : ByteArray) (v : Int) (w : World) (hz : s.size ≤ 1048576) (h : Lib.atoiAll s.data.toList = .ok v) :
    Calls Tryd.prog 66 #[.string s] w fun e w' => e = .returned (.tuple #[.int .i64 v, .nilIface]) ∧ Below w.heap.size w w' := by
  refine (Tryd.strconv_Atoi_ok s (by omega) v h w).mono ?_
  rintro e w' ⟨rfl, rfl | ⟨t, rfl⟩⟩
  · exact ⟨rfl, Below.refl _ _⟩
  · exact ⟨rfl, Joins.below_bytesWorld _ _ _ _ (Nat.le_refl _)⟩
theorem patoi_no (s : ByteArray) (w : World) (hz : s.size ≤ 1048576) (he : PErrs w) (hn : ∀ v, Lib.atoiAll s.data.toList ≠ .ok v) :
    Calls Tryd.prog 66 #[.string s] w fun e w' => (∃ n t q, e = .returned (.tuple #[.int .i64 n, .iface t q])) ∧ Below w.heap.size w w' := by
  obtain ⟨⟨t1, p1, h1⟩, t2, p2, h2⟩ := he
  cases h : Lib.atoiAll s.data.toList with
  | ok v => exact (hn v h).elim
  | «syntax» =>
    refine (Tryd.strconv_Atoi_syntax_var s (by omega) h t1 p1 w h1).mono ?_
    rintro e w' ⟨N, rfl, _, _, hb⟩
    exact ⟨⟨_, _, _, rfl⟩, hb⟩
  | range =>
    refine (Tryd.strconv_Atoi_range_var s (by omega) h t2 p2 w h2).mono ?_
    rintro e w' ⟨N, rfl, _, _, hb⟩
    exact ⟨⟨_, _, _, rfl⟩, hb⟩

/-- what readTrack answers -/
def RTrk (w : World) (p : Addr) (s : ByteArray) (e : Ending) (w' : World) : Prop :=
  (∃ L, Path L ∧ s = ptext L ∧ OwnT w L e w') ∨ ((∀ L, Path L → s ≠ ptext L) ∧ e = .returned (noTrack p) ∧ Below w.heap.size w w')
/-- strings in memory -/
def StrA (w : World) (b : Nat) (S : List ByteArray) : Prop := ∀ (j : Nat) x, S[j]? = some x → w.cell? ⟨b, j, none⟩ = some (.string x)
theorem StrA.below {w w' : World} {b : Nat} {S : List ByteArray} (h : StrA w b S) (k : Below w.heap.size w w') : StrA w' b S := fun j x hx => cell_later k (h j x hx)
theorem StrA.new (w : World) (S : List ByteArray) : StrA (w.alloc (.cells (S.map Value.string).toArray 9)) w.heap.size S := fun j x hx => by
  have : (S.map Value.string)[j]? = some (.string x) := by rw [List.getElem?_map, hx]; rfl
  simp [this]

set_option maxRecDepth 100000 in
set_option maxHeartbeats 1000000 in
theorem rtrack_point (w : World) (p : Addr) : Calls Tryd.prog 50 #[.string ⟨#[46]⟩] w (RTrk w p ⟨#[46]⟩) := by
  have r1 := AtV.new w zT zS 46
  have HB := Lib.hid ((Below.refl w.heap.size w).alloc (Nat.le_refl _) (.cells #[zT, zS] 46))
  have HR := Lib.hid r1
  go_enter Tryd.func50, Tryd.ntmps50
  go_wp2_with fail
  obtain ⟨d0, d1, _, _⟩ := HR.out
  exact bodyPost_ret (v := .tuple #[.agg #[zT, zS], .nilIface]) (by simp [results, Tryd.results50, go_sem, d0, d1]) rfl (.inl ⟨[], Path.nil, ptext_nil.symm, _, rfl, owni_nil _ _, HB.out⟩)

set_option maxRecDepth 100000 in
set_option maxHeartbeats 8000000 in
theorem rtrack_rest (s : ByteArray) (hd : s ≠ ⟨#[46]⟩) (w : World) (p : Addr) (hz : s.size ≤ 1048576) (hE : EV w p) (hX : PErrs w) (hM : MaxI w) : Calls Tryd.prog 50 #[.string s] w (RTrk w p s) := by
  have hd1 := point_ne hd
  have HD := Lib.hid hd
  obtain ⟨m, hm⟩ := hM
  have hm1 := cellA hm (.cells #[zT, zS] 46)
  have rR := (AtV.new w zT zS 46).alloc (.cells ((wordsB s).map Value.string).toArray 9)
  have rW := StrA.new (w.alloc (.cells #[zT, zS] 46)) (wordsB s)
  have hB := ((Below.refl w.heap.size w).alloc (Nat.le_refl _) (.cells #[zT, zS] 46)).alloc (by simp) (.cells ((wordsB s).map Value.string).toArray 9)
  have hs2 : ((w.alloc (.cells #[zT, zS] 46)).alloc (.cells ((wordsB s).map Value.string).toArray 9)).heap.size = w.heap.size + 2 := by simp
  have hN := words_len s
  have hN2 := words_many s
  have hEl := hE.lt
  simp only [World.size_alloc] at rW
  have HM := Lib.hid hm1
  have HH := Lib.hid (And.intro rR (And.intro rW (And.intro hB (And.intro hE hX))))
  clear hd hm hm1 rR rW hB hE hX
  go_enter Tryd.func50, Tryd.ntmps50
  go_wp2_with fail
  refine (Tryd.strings_Split s ⟨#[45]⟩ m _ (by omega) HM.out (by decide)).mono ?_
  rintro e w1 ⟨rfl, rfl⟩
  rw [show Lib.splitB ⟨#[45]⟩ 0 (Lib.countB s ⟨#[45]⟩) s = wordsB s from rfl, ← hN]
  have hn1 := hN2
  generalize hW : (w.alloc (.cells #[zT, zS] 46)).alloc (.cells ((wordsB s).map Value.string).toArray 9) = W2 at *
  simp only [World.size_alloc] at *
  clear hW hN HM
  generalize hn : (wordsB s).length = n at *
  go_wp2_with fail
  have hE2 := HH.out.2.2.2.1.below HH.out.2.2.1
  have hX2 := HH.out.2.2.2.2.on HH.out.2.2.1 (Nat.le_refl _)
  have HG := Lib.hid (And.intro HH.out.1 (And.intro HH.out.2.1 (And.intro HH.out.2.2.1 (And.intro hE2 hX2))))
  clear HH hE2 hX2
  go_loopw [4, 17] (fun v i wr => ∃ (k : Nat) (M : List Int), k ≤ n ∧ i = .int .i64 k ∧ Hid (Vals s k M) ∧ OwnI wr W2.heap.size v M ∧ Below W2.heap.size W2 wr) (fun _ i _ => n - (intOf i).toNat)
  case atStart => exact ⟨0, [], Nat.zero_le _, rfl, Lib.hid (Vals.nil s), owni_nil _ _, Below.refl _ _⟩
  case round =>
    obtain ⟨k, M, hk, rfl, hV, ho, hb⟩ := hrel
    obtain ⟨av, pv, rfl, hcv, tv⟩ := OwnI.tab ho
    have hMb : M.length ≤ 2000000 := by have := hV.out.1; omega
    have hsb := hb.size
    have HO := Lib.hid ho
    have HB := Lib.hid hb
    clear ho hb tv
    by_cases hlt : k < n
    · obtain ⟨x, hx⟩ : ∃ x, (wordsB s)[k]? = some x := ⟨_, List.getElem?_eq_getElem (by omega)⟩
      have hxz : x.size ≤ 1048576 := Nat.le_trans (words_size (List.mem_of_getElem? hx)) hz
      have c0 := HG.out.2.1.below HB.out k x hx
      have HXk := Lib.hid hx
      have i0 : (0 : Int) ≤ (k : Int) := by omega
      have i1 : (k : Int) < (n : Int) := by omega
      have HX2 := Lib.hid (HG.out.2.2.2.2.on HB.out (Nat.le_refl _))
      clear hx
      by_cases hA : ∃ v, Lib.atoiAll x.data.toList = .ok v
      · obtain ⟨v, hA⟩ := hA
        have HA := Lib.hid hA
        clear hA
        go_wp2_with fail
        refine (patoi_ok x v _ hxz HA.out).mono ?_
        rintro e w3 ⟨rfl, hb3⟩
        have HO3 := Lib.hid (owni_later HO.out hb3)
        have HB3 := Lib.hid (HB.out.trans (hb3.mono HB.out.size))
        have hs3 := HB3.out.size
        clear hb3 HO HB
        go_wp2_with (first | (at_builtin; refine wpList_appI rfl (.tmp 30) (.tmp 32) rfl W2.heap.size _ M rfl (HO3.out.alloc _) _ 1 [v] rfl (pnews1 w3 _) (by simp) (by simp; omega) (by simp only [World.size_alloc]; omega) ?_; intro v5 w5 own5 grow5))
        have R : Hid (OwnI w5 W2.heap.size v5 (M ++ [v]) ∧ Below W2.heap.size W2 w5) := Lib.hid ⟨own5, (HB3.out.alloc hs3 _).trans (appi_below (HO3.out.alloc _) grow5 (by simp only [World.size_alloc]; omega))⟩
        clear own5 grow5 HO3 HB3
        go_wp2_with fail
        go_roundw
        case rel => exact ⟨k + 1, M ++ [v], by omega, by go_num, Lib.hid (hV.out.snoc HXk.out HA.out), R.out.1, R.out.2⟩
        case measure => simp [intOf]; omega
      · have HA : Hid (∀ v, Lib.atoiAll x.data.toList ≠ .ok v) := Lib.hid (fun v e => hA ⟨v, e⟩)
        clear hA
        go_wp2_with fail
        refine (patoi_no x _ hxz HX2.out HA.out).mono ?_
        rintro e w3 ⟨⟨n1, t1, q1, rfl⟩, hb3⟩
        have HB3 := Lib.hid (HB.out.trans (hb3.mono HB.out.size))
        clear hb3 HO HB
        have hAt := HG.out.1.below HB3.out
        have HE9 := Lib.hid (HG.out.2.2.2.1.below HB3.out)
        have HB9 := Lib.hid (next HG.out.2.2.1 HB3.out)
        go_wp2_with fail
        refine wp_region_held_drew (S := fun W => W.cell? ⟨0, 0, none⟩ = some (errV p) ∧ (∃ x y, AtV W w.heap.size x y) ∧ Below w.heap.size w W) (by kernel_rfl) ?_ (fun hHeld => ?_)
        · exact ⟨HE9.out, ⟨_, _, hAt.drew⟩, HB9.out.drew⟩
        refine takeH (i := 0) (v := ?_) rfl rfl (by kernel_rfl) (by kernel_rfl) (by kernel_rfl) (fun _ _ _ h => h) (by rfl) ?_ (by assumption) ?_
        rotate_left 1
        · intro w hSw
          (try dsimp only at hSw)
          go_simp
          try with_reducible rfl
        try simp only [List.setIfInBounds_toArray, List.set_cons_zero, List.set_cons_succ]
        refine takeH (i := 1) (v := ?_) rfl rfl (by kernel_rfl) (by kernel_rfl) (by kernel_rfl) (fun _ _ _ h => h) (by rfl) ?_ (by assumption) ?_
        rotate_left 1
        · intro w hSw
          (try dsimp only at hSw)
          go_simp
          try with_reducible rfl
        try simp only [List.setIfInBounds_toArray, List.set_cons_zero, List.set_cons_succ]
        refine wpAnyH_ready (rs := [2]) (by kernel_rfl) (by simp) ?_
        refine AllReadyH.cons rfl (fun K hK => ?_) (AllReadyH.nil)
        obtain ⟨q0, q1, q2, q3⟩ := id hAt
        go_simp
        refine hK.out _ _ ?_ (fun hNew => ?_)
        · exact ⟨(EV.far (EV.far hHeld.1 ⟨w.heap.size, 0, none⟩ _ (by show w.heap.size ≠ 0; omega)) ⟨w.heap.size, 1, none⟩ _ (by show w.heap.size ≠ 0; omega)), ⟨_, _, hAt.drew.put _ _⟩, below_put hHeld.2.2 (Nat.le_refl _) _ _⟩
        clear hK K hHeld
        have hHeld := hNew
        clear hNew
        try simp only [Act.put, List.setIfInBounds_toArray, List.set_cons_zero, List.set_cons_succ]
        refine takeH (i := 3) (v := ?_) rfl rfl (by kernel_rfl) (by kernel_rfl) (by kernel_rfl) (fun _ _ _ h => h) (by rfl) ?_ (by assumption) ?_
        rotate_left 1
        · intro w hSw
          (try dsimp only at hSw)
          go_simp
          try with_reducible rfl
        try simp only [List.setIfInBounds_toArray, List.set_cons_zero, List.set_cons_succ]
        refine wpAnyH_done (by kernel_rfl) ?_ _
        have r1 := (hAt.put (.int .u64 0) (.slice none 0 0)).drew
        have HBe := Lib.hid hHeld.2.2
        clear hHeld hAt q0 q1 q2 q3
        generalize ((w3.setCell ⟨w.heap.size, 0, none⟩ (.int .u64 0)).setCell ⟨w.heap.size, 1, none⟩ (.slice none 0 0)).drew = w9 at *
        go_wp2
        obtain ⟨d0, d1, _, _⟩ := r1
        exact bodyPost_ret (v := noTrack p) (by simp [results, Tryd.results50, go_sem, d0, d1]) rfl (.inr ⟨word_bad HD.out (List.mem_of_getElem? HXk.out) HA.out, rfl, HBe.out⟩)
    · obtain rfl : k = n := by omega
      have HV : Hid (∀ L, Path L → s = ptext L → M = L) := Lib.hid (fun L hp e => (hn ▸ hV.out : Vals s (wordsB s).length M).is hp e HD.out)
      have hE3 := HG.out.2.2.2.1.below HB.out
      by_cases hp : Path M
      · have HP := Lib.hid hp
        clear hp
        go_wp2_with fail
        refine (track_yes HP.out av pv _ p (OwnI.intA HO.out).2.2 hE3).mono ?_
        rintro e w3 ⟨v3, rfl, ho3, hb3⟩
        obtain ⟨a3, c3, rfl, hc3, t3⟩ := OwnI.tab ho3
        have HB3 := Lib.hid ((HB.out.trans (hb3.mono HB.out.size)).alloc (Nat.le_trans HB.out.size hb3.size) (.cells #[.int .u64 (bitsH M : Int), .slice a3 M.length c3] 46))
        have HO3 := Lib.hid (ho3.alloc (.cells #[.int .u64 (bitsH M : Int), .slice a3 M.length c3] 46))
        have hT := AtV.new w3 (.int .u64 (bitsH M : Int)) (.slice a3 M.length c3) 46
        have HT := Lib.hid hT
        have hs3 := hb3.size
        obtain ⟨x0, x1, _, _⟩ := hT
        clear hb3 ho3 t3 hE3 HO HB
        go_wp2_with fail
        generalize w3.alloc (.cells #[.int .u64 (bitsH M : Int), .slice a3 M.length c3] 46) = w4 at *
        refine (ttext_any M HP.out a3 c3 _ _ (OwnI.intA HO3.out).2.2).mono ?_
        rintro e w5 ⟨rfl, hb5⟩
        have HB5 := Lib.hid (HB3.out.trans (hb5.mono HB3.out.size))
        have HO5 := Lib.hid (owni_later HO3.out hb5)
        have hT5 := HT.out.below hb5
        have HT5 := Lib.hid hT5
        clear hb5 x0 x1 HB3 HO3 HT
        obtain ⟨y0, y1, _, _⟩ := hT5
        obtain ⟨t, ht⟩ : ∃ t, ptext M = t := ⟨_, rfl⟩
        rw [ht]
        by_cases hts : t = s
        · subst hts
          have HS := Lib.hid ht
          have hts : (t.toList == t.toList) = true := by simp
          clear ht
          have hAt := HG.out.1.below HB5.out
          obtain ⟨q0, q1, q2, q3⟩ := id hAt
          have r1 := hAt.put (.int .u64 (bitsH M : Int)) (.slice a3 M.length c3)
          have HF : Hid (OwnI ((w5.setCell ⟨w.heap.size, 0, none⟩ (.int .u64 (bitsH M : Int))).setCell ⟨w.heap.size, 1, none⟩ (.slice a3 M.length c3)) w.heap.size (.slice a3 M.length c3) M ∧ Below w.heap.size w ((w5.setCell ⟨w.heap.size, 0, none⟩ (.int .u64 (bitsH M : Int))).setCell ⟨w.heap.size, 1, none⟩ (.slice a3 M.length c3))) :=
            Lib.hid ⟨owni_mono (ownsRow_setCell_below (ownsRow_setCell_below HO5.out (a := ⟨w.heap.size, 0, none⟩) (by simp; omega) _) (a := ⟨w.heap.size, 1, none⟩) (by simp; omega) _) (by omega), below_put (next HG.out.2.2.1 HB5.out) (Nat.le_refl _) _ _⟩
          clear hAt
          go_wp2_with fail
          obtain ⟨d0, d1, _, _⟩ := r1
          exact bodyPost_ret (v := .tuple #[.agg #[.int .u64 (bitsH M : Int), .slice a3 M.length c3], .nilIface]) (by simp [results, Tryd.results50, go_sem, d0, d1]) rfl (.inl ⟨M, HP.out, HS.out.symm, _, rfl, HF.out.1, HF.out.2⟩)
        · have HN : Hid (∀ L, Path L → s ≠ ptext L) := Lib.hid (fun L hL e => hts (by rw [← ht, HV.out L hL e, ← e]))
          have hts' : (t.toList == s.toList) = false := bytes_ne hts
          clear ht hts
          have hAt := HG.out.1.below HB5.out
          have HE9 := Lib.hid (HG.out.2.2.2.1.below HB5.out)
          have HB9 := Lib.hid (next HG.out.2.2.1 HB5.out)
          go_wp2_with fail
          refine wp_region_held_drew (S := fun W => W.cell? ⟨0, 0, none⟩ = some (errV p) ∧ (∃ x y, AtV W w.heap.size x y) ∧ Below w.heap.size w W) (by kernel_rfl) ?_ (fun hHeld => ?_)
          · exact ⟨HE9.out, ⟨_, _, hAt.drew⟩, HB9.out.drew⟩
          refine takeH (i := 0) (v := ?_) rfl rfl (by kernel_rfl) (by kernel_rfl) (by kernel_rfl) (fun _ _ _ h => h) (by rfl) ?_ (by assumption) ?_
          rotate_left 1
          · intro w hSw
            (try dsimp only at hSw)
            go_simp
            try with_reducible rfl
          try simp only [List.setIfInBounds_toArray, List.set_cons_zero, List.set_cons_succ]
          refine takeH (i := 1) (v := ?_) rfl rfl (by kernel_rfl) (by kernel_rfl) (by kernel_rfl) (fun _ _ _ h => h) (by rfl) ?_ (by assumption) ?_
          rotate_left 1
          · intro w hSw
            (try dsimp only at hSw)
            go_simp
            try with_reducible rfl
          try simp only [List.setIfInBounds_toArray, List.set_cons_zero, List.set_cons_succ]
          refine wpAnyH_ready (rs := [2]) (by kernel_rfl) (by simp) ?_
          refine AllReadyH.cons rfl (fun K hK => ?_) (AllReadyH.nil)
          obtain ⟨q0, q1, q2, q3⟩ := id hAt
          go_simp
          refine hK.out _ _ ?_ (fun hNew => ?_)
          · exact ⟨(EV.far (EV.far hHeld.1 ⟨w.heap.size, 0, none⟩ _ (by show w.heap.size ≠ 0; omega)) ⟨w.heap.size, 1, none⟩ _ (by show w.heap.size ≠ 0; omega)), ⟨_, _, hAt.drew.put _ _⟩, below_put hHeld.2.2 (Nat.le_refl _) _ _⟩
          clear hK K hHeld
          have hHeld := hNew
          clear hNew
          try simp only [Act.put, List.setIfInBounds_toArray, List.set_cons_zero, List.set_cons_succ]
          refine takeH (i := 3) (v := ?_) rfl rfl (by kernel_rfl) (by kernel_rfl) (by kernel_rfl) (fun _ _ _ h => h) (by rfl) ?_ (by assumption) ?_
          rotate_left 1
          · intro w hSw
            (try dsimp only at hSw)
            go_simp
            try with_reducible rfl
          try simp only [List.setIfInBounds_toArray, List.set_cons_zero, List.set_cons_succ]
          refine wpAnyH_done (by kernel_rfl) ?_ _
          have r1 := (hAt.put (.int .u64 0) (.slice none 0 0)).drew
          have HBe := Lib.hid hHeld.2.2
          clear hHeld hAt q0 q1 q2 q3
          generalize ((w5.setCell ⟨w.heap.size, 0, none⟩ (.int .u64 0)).setCell ⟨w.heap.size, 1, none⟩ (.slice none 0 0)).drew = w9 at *
          go_wp2
          obtain ⟨d0, d1, _, _⟩ := r1
          exact bodyPost_ret (v := noTrack p) (by simp [results, Tryd.results50, go_sem, d0, d1]) rfl (.inr ⟨HN.out, rfl, HBe.out⟩)
      · have HN : Hid (∀ L, Path L → s ≠ ptext L) := Lib.hid (fun L hL e => hp (by rw [HV.out L hL e]; exact hL))
        go_wp2_with fail
        refine (track_no hp av pv _ p (by omega) (OwnI.intA HO.out).2.2 hE3).mono ?_
        rintro e w3 ⟨rfl, hb3⟩
        have HB3 := Lib.hid ((HB.out.trans (hb3.mono HB.out.size)).alloc (Nat.le_trans HB.out.size hb3.size) (.cells #[zT, zS] 46))
        have hT := AtV.new w3 zT zS 46
        have hAt := HG.out.1.below HB3.out
        have hs3 := hb3.size
        obtain ⟨x0, x1, _, _⟩ := hT
        have r1 := hAt.put zT zS
        have HF := Lib.hid (below_put (next HG.out.2.2.1 HB3.out) (Nat.le_refl _) zT zS)
        clear hb3 hE3 HO HB hp
        obtain ⟨q0, q1, q2, q3⟩ := id hAt
        clear hAt
        go_wp2_with fail
        obtain ⟨d0, d1, _, _⟩ := r1
        exact bodyPost_ret (v := noTrack p) (by simp [results, Tryd.results50, go_sem, d0, d1]) rfl (.inr ⟨HN.out, rfl, HF.out⟩)
end Go.Proofs.YtnabcffpficgcaaDoor
