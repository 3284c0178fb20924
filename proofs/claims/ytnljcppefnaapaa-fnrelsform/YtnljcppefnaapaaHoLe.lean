/-
  The law that of both the same is told: the walk.
-/
import Derived.Test.YtnljcppefnaapaaHoImp
import Derived.Test.YtnljcppefnaapaaHoTw
namespace Go.Proofs.Ytnljcppefnaapaa
open Go.RowKit
set_option linter.unusedSimpArgs false
set_option linter.unusedVariables false

theorem take_row {L : List IR} {I : Nat} {x : IR} (h : L[I]? = some x) : (matP L).take (I + 1) = (matP L).take I ++ [x.P] := by
  rw [List.take_add_one]; simp [matP, List.getElem?_map, h]
set_option maxRecDepth 100000 in
set_option maxHeartbeats 8000000 in
theorem lawRelsForm (a0 : Option Addr) (len0 cap0 : Nat) (zs0 : List Int) (a1 : Option Addr) (len1 cap1 : Nat) (zs1 : List Int) (w : World) (h0 : IsRow w a0 len0 cap0 zs0) (h1 : IsRow w a1 len1 cap1 zs1) :
    Calls Try.prog 8 #[.slice a0 len0 cap0, .slice a1 len1 cap1] w fun e w' => e = .returned (.bool true) ∧ Below w.heap.size w w' := by
  have H0 := Lib.hid h0
  clear h0 h1
  by_cases hl0 : (1048576 : Int) < (len0 : Int)
  · go_enter Try.func8, Try.ntmps8
    go_wp2_with fail
    go_ret
    exact ⟨rfl, Below.refl _ _⟩
  by_cases hl1 : (1048576 : Int) < (len1 : Int)
  · go_enter Try.func8, Try.ntmps8
    go_wp2_with fail
    go_ret
    exact ⟨rfl, Below.refl _ _⟩
  go_enter Try.func8, Try.ntmps8
  go_wp2_with fail
  refine (dRelsOk_any a0 len0 cap0 zs0 _ H0.out).mono ?_
  rintro en w1 ⟨v, L, rfl, hD⟩
  obtain ⟨a, c, rfl, _⟩ := OwnM.tab hD.par.row
  have HB1 := Lib.hid hD.bel
  have Aq_1 := Lib.hid hD.par.mat
  have hlen := hD.len
  have HSQ := Lib.hid hD.sq
  clear hD
  obtain ⟨z, hz⟩ : ∃ z, relsOk (matP L) = z := ⟨_, rfl⟩
  have HZ := Lib.hid hz
  have hzz : (z != z) = false := by simp
  have hze : (z == z) = true := by simp
  clear hz
  go_wp2_with fail
  refine (irelsok_is L HZ.out a c _ _ rfl Aq_1.out (by omega)).mono ?_
  rintro en w2 ⟨rfl, b⟩
  have HB2 := Lib.hid (next HB1.out b)
  have Aq_2 := Lib.hid (Aq_1.out.below b)
  clear b Aq_1
  go_wp2_with fail
  refine (srelsok_is L HZ.out a c _ _ rfl Aq_2.out (by omega)).mono ?_
  rintro en w3 ⟨rfl, b⟩
  have HB3 := Lib.hid (next HB2.out b)
  have Aq_3 := Lib.hid (Aq_2.out.below b)
  clear b Aq_2
  cases z with
  | false =>
    go_wp2_with fail
    refine (srelsok_is L HZ.out a c _ _ rfl Aq_3.out (by omega)).mono ?_
    rintro en w4 ⟨rfl, b⟩
    have HB4 := Lib.hid (next HB3.out b)
    clear b
    go_wp2_with fail
    go_ret
    exact ⟨rfl, HB4.out⟩
  | true =>
    have HG := Lib.hid ((relsOk_iff _).1 HZ.out)
    have T0 := Lib.hid (Two.start w3)
    have K0 := Lib.hid (((Below.refl w3.heap.size w3).alloc (Nat.le_refl _) (.cells #[] 33)).alloc (by simp) (.cells #[] 33))
    clear hzz hze
    go_wp2_with fail
    go_loopw [7, 8, 9] (fun p o i wr => ∃ I : Nat, I ≤ L.length ∧ i = .int .i64 I ∧ (∃ A B : List IR, Hid (Two wr w3.heap.size p o A B) ∧ Hid (matP A = (matP L).take I) ∧ Hid (matP B = (matP L).take I) ∧ A.length ≤ I ∧ B.length ≤ I) ∧ Hid (Below w3.heap.size w3 wr)) (fun _ _ i _ => L.length - (intOf i).toNat)
    case atStart => exact ⟨0, Nat.zero_le _, rfl, ⟨[], [], T0, Lib.hid rfl, Lib.hid rfl, Nat.le_refl _, Nat.le_refl _⟩, K0⟩
    case round =>
      clear T0 K0
      obtain ⟨I, hI, rfl, ⟨A, B, TW, HA, HB, lA, lB⟩, HW⟩ := hrel
      obtain ⟨ta, tc, rfl, _⟩ := OwnM.tab TW.out.ma.row
      obtain ⟨oa, oc, rfl, _⟩ := OwnM.tab TW.out.mb.row
      by_cases hlt : I < L.length
      · have i0 : (0 : Int) ≤ (I : Int) := by omega
        have i1 : (I : Int) < (L.length : Int) := by omega
        obtain ⟨x, hx⟩ : ∃ x, L[I]? = some x := ⟨_, List.getElem?_eq_getElem hlt⟩
        have hxl := HSQ.out x (List.mem_of_getElem? hx)
        have HT := Lib.hid (take_row hx)
        have HXX := Lib.hid hx
        obtain ⟨xa, xc, xP⟩ := x
        have AQ := Lib.hid (Aq_3.out.below HW.out)
        obtain ⟨b, off, rfl, c0, hIx, hcx⟩ := AQ.out.at hx
        dsimp only at c0 hIx hcx hxl
        have hxp : 0 < xP.length := by omega
        have hx5 : xP.length ≤ 5 := by omega
        have HIx := Lib.hid hIx
        have LA := Lib.hid (MaR.lt TW.out.ma)
        have LB := Lib.hid (MaR.lt TW.out.mb)
        have hwB := HW.out.size
        obtain ⟨W1, hW1⟩ : ∃ W1, wr.alloc (.cells #[] 3) = W1 := ⟨_, rfl⟩
        have bW1 : Below wr.heap.size wr W1 := by rw [← hW1]; exact (Below.refl _ _).alloc (Nat.le_refl _) _
        have E1 := Lib.hid (show OwnI W1 wr.heap.size (.slice (some ⟨wr.heap.size, 0, none⟩) 0 0) [] by rw [← hW1]; exact owni_empty wr wr.heap.size (Nat.le_refl _))
        have c1 := cell_later bW1 c0
        have BW1 := Lib.hid bW1
        have HI1 := Lib.hid (hIx.below bW1)
        have hsW1 := bW1.size
        clear hx hIx hxl c0 bW1 HIx
        go_wp2_with (at_builtin; refine wpList_appI rfl (.tmp 45) (.tmp 49) rfl wr.heap.size (.slice (some ⟨wr.heap.size, 0, none⟩) 0 0) [] rfl E1.out xa xc xP rfl HI1.out hcx (by simp; omega) hsW1 ?h1)
        intro v5 w5 own5 grow5
        try rw [List.nil_append] at own5
        obtain ⟨a5, c5, rfl, _, _⟩ := OwnI.tab own5
        have b5 : Below wr.heap.size wr w5 := BW1.out.grown grow5 hsW1 (fun k hk => by simp [Value.ownBlock] at hk; omega)
        have Y5 := Lib.hid own5
        have T5 := Lib.hid (TW.out.later b5)
        have W5 := Lib.hid (next HW.out b5)
        have hs5 := b5.size
        clear own5 grow5 b5 TW HW E1 AQ HI1 BW1 hsW1 c1 hW1
        generalize wr.heap.size = G at *
        go_wp2_with (at_builtin; refine wpList_appM rfl (.tmp 44) (.tmp 51) rfl w3.heap.size (.slice ta A.length tc) A ?s1 ?o1 w5.heap.size ⟨a5, c5, xP⟩ ?x1 ?m1 (by omega) ?r1 ?h2)
        try case s1 => rfl
        try case o1 => exact T5.out.ma.row.alloc _
        try case x1 => rfl
        try case m1 => (rw [World.cell?_alloc_new]; simp)
        try case r1 => (have := W5.out.size; simp; omega)
        intro v6 w6 own6 grow6
        have T6 := Lib.hid (Two.app (T5.out.later ((Below.refl _ _).alloc (Nat.le_refl _) _)) hwB LA.out LB.out (y := ⟨a5, c5, xP⟩) (World.ownsRow.alloc Y5.out _) (own_has (x := ⟨a5, c5, xP⟩) Y5.out hxp) own6 grow6)
        have W6 := Lib.hid ((W5.out.alloc W5.out.size _).grown grow6 (by have := W5.out.size; simp; omega) (fun k e => (World.ownsRow.lt T5.out.ma.row k e).1))
        have HA6 := Lib.hid (show matP (A ++ [(⟨a5, c5, xP⟩ : IR)]) = (matP L).take (I + 1) by rw [HT.out, ← HA.out]; simp [matP])
        have lA6 : (A ++ [(⟨a5, c5, xP⟩ : IR)]).length ≤ I + 1 := by simp; omega
        obtain ⟨t6, u6, rfl, _⟩ := OwnM.tab own6
        clear own6 grow6 T5 W5 Y5 LA LB HA lA
        generalize A ++ [(⟨a5, c5, xP⟩ : IR)] = A6 at *
        have AQ6 := Lib.hid (Aq_3.out.below W6.out)
        obtain ⟨b', off', eb, c0, hIx, _⟩ := AQ6.out.at HXX.out
        obtain ⟨rfl, rfl⟩ : b = b' ∧ off = off' := by simpa using eb
        dsimp only at c0 hIx
        have LA := Lib.hid (MaR.lt T6.out.ma)
        have LB := Lib.hid (MaR.lt T6.out.mb)
        have hwB6 := W6.out.size
        obtain ⟨W1, hW1⟩ : ∃ W1, w6.alloc (.cells #[] 3) = W1 := ⟨_, rfl⟩
        have bW1 : Below w6.heap.size w6 W1 := by rw [← hW1]; exact (Below.refl _ _).alloc (Nat.le_refl _) _
        have E6 := Lib.hid (show OwnI W1 w6.heap.size (.slice (some ⟨w6.heap.size, 0, none⟩) 0 0) [] by rw [← hW1]; exact owni_empty w6 w6.heap.size (Nat.le_refl _))
        have c1 := cell_later bW1 c0
        have BW1 := Lib.hid bW1
        have HI1 := Lib.hid (hIx.below bW1)
        have hsW1 := bW1.size
        clear hIx eb c0 bW1
        go_wp2_with (at_builtin; refine wpList_appI rfl (.tmp 54) (.tmp 58) rfl w6.heap.size (.slice (some ⟨w6.heap.size, 0, none⟩) 0 0) [] rfl E6.out xa xc xP rfl HI1.out hcx (by simp; omega) hsW1 ?h3)
        intro v7 w7 own7 grow7
        try rw [List.nil_append] at own7
        obtain ⟨a7, c7, rfl, _, _⟩ := OwnI.tab own7
        have b7 : Below w6.heap.size w6 w7 := BW1.out.grown grow7 hsW1 (fun k hk => by simp [Value.ownBlock] at hk; omega)
        have Y7 := Lib.hid own7
        have T7 := Lib.hid (T6.out.symm.later b7)
        have W7 := Lib.hid (next W6.out b7)
        have hs7 := b7.size
        clear own7 grow7 b7 T6 W6 E6 AQ6 HI1 BW1 hsW1 c1 hW1
        go_wp2_with (at_builtin; refine wpList_appM rfl (.tmp 53) (.tmp 60) rfl w3.heap.size (.slice oa B.length oc) B ?s2 ?o2 w7.heap.size ⟨a7, c7, xP⟩ ?x2 ?m2 (by omega) ?r2 ?h4)
        try case s2 => rfl
        try case o2 => exact T7.out.ma.row.alloc _
        try case x2 => rfl
        try case m2 => (rw [World.cell?_alloc_new]; simp)
        try case r2 => (have := W7.out.size; simp; omega)
        intro v8 w8 own8 grow8
        have T8 := Lib.hid (Two.app (T7.out.later ((Below.refl _ _).alloc (Nat.le_refl _) _)) hwB6 LB.out LA.out (y := ⟨a7, c7, xP⟩) (World.ownsRow.alloc Y7.out _) (own_has (x := ⟨a7, c7, xP⟩) Y7.out hxp) own8 grow8).symm
        have W8 := Lib.hid ((W7.out.alloc W7.out.size _).grown grow8 (by have := W7.out.size; simp; omega) (fun k e => (World.ownsRow.lt T7.out.ma.row k e).1))
        have HB8 := Lib.hid (show matP (B ++ [(⟨a7, c7, xP⟩ : IR)]) = (matP L).take (I + 1) by rw [HT.out, ← HB.out]; simp [matP])
        have lB8 : (B ++ [(⟨a7, c7, xP⟩ : IR)]).length ≤ I + 1 := by simp; omega
        clear own8 grow8 T7 W7 Y7
        go_wp2_with fail
        go_roundw
        case rel => exact ⟨I + 1, by omega, by go_num, ⟨_, _, T8, HA6, HB8, lA6, lB8⟩, W8⟩
        case measure => simp [intOf]; omega
      · obtain rfl : I = L.length := by omega
        have hta : (matP L).take L.length = matP L := List.take_of_length_le (by rw [matP_len]; exact Nat.le_refl _)
        have HA2 := Lib.hid (HA.out.trans hta)
        have HB2' := Lib.hid (HB.out.trans hta)
        clear HA HB hta
        have hAl : A.length = L.length := by have := congrArg List.length HA2.out; rwa [matP_len, matP_len] at this
        have hBl : B.length = L.length := by have := congrArg List.length HB2'.out; rwa [matP_len, matP_len] at this
        obtain ⟨K, hK⟩ : ∃ K, len1 % L.length = K := ⟨_, rfl⟩
        have hKl : K < L.length := by rw [← hK]; exact Nat.mod_lt _ (by omega)
        have t1 : (len1 : Int) % (L.length : Int) = (K : Int) := by rw [← hK]; simp
        have t1b : (len1 : Int).tmod (L.length : Int) = (K : Int) := by rw [Int.tmod_eq_emod_of_nonneg (by omega)]; exact t1
        obtain ⟨J, hJ⟩ : ∃ J, (K + 1) % L.length = J := ⟨_, rfl⟩
        have hJl : J < L.length := by rw [← hJ]; exact Nat.mod_lt _ (by omega)
        have hKJ : K ≠ J := by
          rw [← hJ]
          by_cases e : K + 1 = L.length
          · rw [e, Nat.mod_self]; omega
          · rw [Nat.mod_eq_of_lt (by omega)]; omega
        have t2 : ((K : Int) + 1) % (L.length : Int) = (J : Int) := by rw [← hJ]; simp
        have t2b : ((K : Int) + 1).tmod (L.length : Int) = (J : Int) := by rw [Int.tmod_eq_emod_of_nonneg (by omega)]; exact t2
        have hn0 : (L.length : Int) ≠ 0 := by omega
        have hn5 : (L.length : Int) ≤ 5 := by omega
        have hn2 : ¬ (L.length : Int) < 2 := by omega
        obtain ⟨ga, rfl⟩ := ownm_some TW.out.ma.row (by omega)
        obtain ⟨gb, rfl⟩ := ownm_some TW.out.mb.row (by omega)
        obtain ⟨x, hx⟩ : ∃ x, A[K]? = some x := ⟨_, List.getElem?_eq_getElem (by omega)⟩
        obtain ⟨y, hy⟩ : ∃ y, B[K]? = some y := ⟨_, List.getElem?_eq_getElem (by omega)⟩
        obtain ⟨xa, xc, xP⟩ := x
        obtain ⟨ya, yc, yP⟩ := y
        have hxP : (matP L).getD K [] = xP := by rw [← HA2.out]; exact matP_at hx
        have hyP : (matP L).getD K [] = yP := by rw [← HB2'.out]; exact matP_at hy
        have hxl : xP.length = L.length := by rw [← hxP, HG.out.sq K (by rw [matP_len]; exact hKl), matP_len]
        have hyl : yP.length = L.length := by rw [← hyP, HG.out.sq K (by rw [matP_len]; exact hKl), matP_len]
        obtain ⟨gx, hgx⟩ := own_some (TW.out.ma.own _ (List.mem_of_getElem? hx)) (show 0 < xP.length by omega)
        obtain ⟨gy, hgy⟩ := own_some (TW.out.mb.own _ (List.mem_of_getElem? hy)) (show 0 < yP.length by omega)
        dsimp only at hgx hgy
        subst hgx hgy
        obtain ⟨r, hr⟩ : ∃ r, xP[J]? = some r := ⟨_, List.getElem?_eq_getElem (by omega)⟩
        have hrm : mAt (matP L) K J = r := by rw [mAt, hxP, getD_at hr]
        have hr03 : 0 ≤ r ∧ r ≤ 3 := by rw [← hrm]; exact HG.out.ran K J (by rw [matP_len]; exact hKl) (by rw [matP_len]; exact hJl)
        obtain ⟨q, hq⟩ : ∃ q, (r + 1) % 4 = q := ⟨_, rfl⟩
        have hqb : (r + 1).tmod 4 = q := by rw [Int.tmod_eq_emod_of_nonneg (by omega)]; exact hq
        have hwr : IntKind.i64.wrap (r + 1) = r + 1 := by rw [IntKind.wrap_i64]; omega
        have FA := Lib.hid (show relsOk (matP (A.set K ⟨some ⟨gx, 0, none⟩, xc, xP.set J q⟩)) = false by
          rw [matP_setR, HA2.out]
          have h := form_a HG.out (k := K) (j := J) (by rw [matP_len]; exact hKl) (by rw [matP_len]; exact hJl) hKJ
          rw [hxP, hrm, hq] at h
          exact h)
        have FB := Lib.hid (show relsOk (matP (B.set K ⟨some ⟨gy, 0, none⟩, yc, yP.set K 2⟩)) = false by
          rw [matP_setR, HB2'.out]
          have h := form_b HG.out (k := K) (by rw [matP_len]; exact hKl)
          rw [hyP] at h
          exact h)
        have TD := Lib.hid (TW.out.later (Below.refl _ wr).drew)
        have cA : wr.drew.cell? ⟨ga, K, none⟩ = some (.slice (some ⟨gx, 0, none⟩) xP.length xc) := rowcell TD.out.ma hx
        have OX := Lib.hid (show OwnI wr.drew w3.heap.size (.slice (some ⟨gx, 0, none⟩) xP.length xc) xP from TD.out.ma.own _ (List.mem_of_getElem? hx))
        have hJx : J < xP.length := by omega
        have cr : wr.drew.cell? ⟨gx, J, none⟩ = some (.int .i64 r) := by rw [owni_cell OX.out hJx]; rw [List.getElem?_eq_getElem hJx] at hr; simp at hr; rw [hr]
        have CA := Lib.hid (And.intro cA cr)
        have HXY := Lib.hid (And.intro hx hy)
        have kA : (K : Int) < (A.length : Int) := by omega
        have kB : (K : Int) < (B.length : Int) := by omega
        have jx : (J : Int) < (xP.length : Int) := by omega
        have ky : (K : Int) < (yP.length : Int) := by omega
        have hKy : K < yP.length := by omega
        have k0 : (0 : Int) ≤ (K : Int) := by omega
        have j0 : (0 : Int) ≤ (J : Int) := by omega
        have HL := Lib.hid (show A.length ≤ 2000000 ∧ B.length ≤ 2000000 by omega)
        have HBr := Lib.hid (HB3.out.trans (HW.out.mono HB3.out.size))
        have hB3 := HB3.out.size
        have hWs := HW.out.size
        clear hK hJ hAl hBl lA lB hx hy hxP hyP hxl hyl hr hrm cA cr HA2 HB2' TW
        go_wp2_with fail
        refine wp_region_held_drew (S := fun W => W.cell? ⟨ga, K, none⟩ = some (.slice (some ⟨gx, 0, none⟩) xP.length xc) ∧ Hid True) (by kernel_rfl) ?_ (fun hHeld => ?_)
        · exact ⟨CA.out.1, Lib.hid trivial⟩
        refine takeH (i := 0) (v := ?_) rfl rfl (by kernel_rfl) (by kernel_rfl) (by kernel_rfl) (fun _ _ _ h => h) (by rfl) ?_ (by assumption) ?_
        rotate_left 1
        · intro w hSw
          (try dsimp only at hSw)
          go_simp
          try with_reducible rfl
        try simp only [List.setIfInBounds_toArray, List.set_cons_zero, List.set_cons_succ]
        refine takeH (i := 1) (v := ?_) rfl rfl (by kernel_rfl) (by kernel_rfl) (by kernel_rfl) (fun _ _ _ h => h) (by rfl) ?_ (by assumption) ?_
        rotate_left 1
        · intro w hSw
          (try dsimp only at hSw)
          go_simp
          try with_reducible rfl
        try simp only [List.setIfInBounds_toArray, List.set_cons_zero, List.set_cons_succ]
        refine takeH (i := 2) (v := ?_) rfl rfl (by kernel_rfl) (by kernel_rfl) (by kernel_rfl) (fun _ _ _ h => h) (by rfl) ?_ (by assumption) ?_
        rotate_left 1
        · intro w hSw
          (try dsimp only at hSw)
          go_simp
          try with_reducible rfl
        try simp only [List.setIfInBounds_toArray, List.set_cons_zero, List.set_cons_succ]
        refine takeH (i := 3) (v := ?_) rfl rfl (by kernel_rfl) (by kernel_rfl) (by kernel_rfl) (fun _ _ _ h => h) (by rfl) ?_ (by assumption) ?_
        rotate_left 1
        · intro w hSw
          (try dsimp only at hSw)
          go_simp
          try with_reducible rfl
        try simp only [List.setIfInBounds_toArray, List.set_cons_zero, List.set_cons_succ]
        refine takeH (i := 4) (v := ?_) rfl rfl (by kernel_rfl) (by kernel_rfl) (by kernel_rfl) (fun _ _ _ h => h) (by rfl) ?_ (by assumption) ?_
        rotate_left 1
        · intro w hSw
          (try dsimp only at hSw)
          go_simp
          try with_reducible rfl
        try simp only [List.setIfInBounds_toArray, List.set_cons_zero, List.set_cons_succ]
        refine takeH (i := 5) (v := ?_) rfl rfl (by kernel_rfl) (by kernel_rfl) (by kernel_rfl) (fun _ _ _ h => h) (by rfl) ?_ (by assumption) ?_
        rotate_left 1
        · intro w hSw
          (try dsimp only at hSw)
          go_simp
          try with_reducible rfl
        try simp only [List.setIfInBounds_toArray, List.set_cons_zero, List.set_cons_succ]
        refine takeH (i := 6) (v := ?_) rfl rfl (by kernel_rfl) (by kernel_rfl) (by kernel_rfl) (fun _ _ _ h => h) (by rfl) ?_ (by assumption) ?_
        rotate_left 1
        · intro w hSw
          (try dsimp only at hSw)
          go_simp
          try with_reducible rfl
        try simp only [List.setIfInBounds_toArray, List.set_cons_zero, List.set_cons_succ]
        refine takeH (i := 7) (v := ?_) rfl rfl (by kernel_rfl) (by kernel_rfl) (by kernel_rfl) (fun _ _ _ h => h) (by rfl) ?_ (by assumption) ?_
        rotate_left 1
        · intro w hSw
          (try dsimp only at hSw)
          go_simp
          try with_reducible rfl
        try simp only [List.setIfInBounds_toArray, List.set_cons_zero, List.set_cons_succ]
        refine takeH (i := 8) (v := ?_) rfl rfl (by kernel_rfl) (by kernel_rfl) (by kernel_rfl) (fun _ _ _ h => h) (by rfl) ?_ (by assumption) ?_
        rotate_left 1
        · intro w hSw
          (try dsimp only at hSw)
          go_simp
          try with_reducible rfl
        try simp only [List.setIfInBounds_toArray, List.set_cons_zero, List.set_cons_succ]
        refine takeH (i := 9) (v := ?_) rfl rfl (by kernel_rfl) (by kernel_rfl) (by kernel_rfl) (fun _ _ _ h => h) (by rfl) ?_ (by assumption) ?_
        rotate_left 1
        · intro w hSw
          (try dsimp only at hSw)
          go_simp
          try with_reducible rfl
        try simp only [List.setIfInBounds_toArray, List.set_cons_zero, List.set_cons_succ]
        refine takeH (i := 10) (v := ?_) rfl rfl (by kernel_rfl) (by kernel_rfl) (by kernel_rfl) (fun _ _ _ h => h) (by rfl) ?_ (by assumption) ?_
        rotate_left 1
        · intro w hSw
          (try dsimp only at hSw)
          go_simp
          try with_reducible rfl
        try simp only [List.setIfInBounds_toArray, List.set_cons_zero, List.set_cons_succ]
        refine wpAnyH_ready (rs := [11]) (by kernel_rfl) (by simp) ?_
        refine AllReadyH.cons rfl (fun K hK => ?_) (AllReadyH.nil)
        have cr2 := CA.out.2
        go_simp
        refine hK.out _ _ ?_ (fun hNew => ?_)
        · exact hHeld
        clear hK K hHeld
        have hHeld := hNew
        clear hNew
        try simp only [Act.put, List.setIfInBounds_toArray, List.set_cons_zero, List.set_cons_succ]
        refine takeH (i := 12) (v := ?_) rfl rfl (by kernel_rfl) (by kernel_rfl) (by kernel_rfl) (fun _ _ _ h => h) (by rfl) ?_ (by assumption) ?_
        rotate_left 1
        · intro w hSw
          (try dsimp only at hSw)
          go_simp
          try with_reducible rfl
        try simp only [List.setIfInBounds_toArray, List.set_cons_zero, List.set_cons_succ]
        refine takeH (i := 13) (v := ?_) rfl rfl (by kernel_rfl) (by kernel_rfl) (by kernel_rfl) (fun _ _ _ h => h) (by rfl) ?_ (by assumption) ?_
        rotate_left 1
        · intro w hSw
          (try dsimp only at hSw)
          go_simp
          try with_reducible rfl
        try simp only [List.setIfInBounds_toArray, List.set_cons_zero, List.set_cons_succ]
        refine takeH (i := 14) (v := ?_) rfl rfl (by kernel_rfl) (by kernel_rfl) (by kernel_rfl) (fun _ _ _ h => h) (by rfl) ?_ (by assumption) ?_
        rotate_left 1
        · intro w hSw
          (try dsimp only at hSw)
          go_simp
          try with_reducible rfl
        try simp only [List.setIfInBounds_toArray, List.set_cons_zero, List.set_cons_succ]
        refine wpAnyH_ready (rs := [15]) (by kernel_rfl) (by simp) ?_
        refine AllReadyH.cons rfl (fun K hK => ?_) (AllReadyH.nil)
        refine wp_stI (.tmp 86) (.tmp 85) rfl w3.heap.size gx xc J xP q (by simp [Act.eval]) (by simp [Act.eval, hwr, hqb]) OX.out hJx ?_
        intro w7 o7 g7
        refine hK.out _ _ ?_ (fun hNew => ?_)
        · exact ⟨g7.cell hHeld.1 (by have h0 := mrows_apart TD.out.ma.row OX.out (by decide); rcases h0 with h0 | h0; (simp [Value.ownBlock] at h0); (simpa [Value.ownBlock] using h0)), Lib.hid trivial⟩
        clear hK K hHeld
        have hHeld := hNew
        clear hNew
        try simp only [Act.put, List.setIfInBounds_toArray, List.set_cons_zero, List.set_cons_succ]
        refine wpAnyH_done (by kernel_rfl) ?_ _
        have MA7 := Lib.hid (MaR.put TD.out.ma HXY.out.1 (y := ⟨some ⟨gx, 0, none⟩, xc, xP.set J q⟩) rfl rfl (by simp) (by show OwnI w7 _ (.slice _ (xP.set J q).length xc) _; rw [List.length_set]; exact o7) g7)
        have MB7 := Lib.hid (Two.other TD.out HXY.out.1 g7)
        have HB7 := Lib.hid (HBr.out.drew.grown g7 (by have := HBr.out.size; simpa using this) (fun k hk => by have h1 := (OX.out.lt k hk).1; omega))
        have AP := Lib.hid TD.out.ap
        have OA := Lib.hid TD.out.oa
        have hlA : (A.set K (⟨some ⟨gx, 0, none⟩, xc, xP.set J q⟩ : IR)).length = A.length := List.length_set
        have hlB : (B.set K (⟨some ⟨gy, 0, none⟩, yc, yP.set K 2⟩ : IR)).length = B.length := List.length_set
        have HLA := Lib.hid (And.intro hlA hlB)
        have cB := rowcell MB7.out HXY.out.2
        have OY := Lib.hid (show OwnI w7 w3.heap.size (.slice (some ⟨gy, 0, none⟩) yP.length yc) yP from MB7.out.own _ (List.mem_of_getElem? HXY.out.2))
        dsimp only [IR.v] at cB
        clear hHeld o7 g7 TD CA OX hlA hlB hqb hwr hq
        go_wp2_with (refine wpList_stI rfl (.tmp 92) (.const (.int .i64 2)) rfl w3.heap.size gy yc K yP 2 ?x9 rfl OY.out hKy ?g9)
        try case x9 => rfl
        intro w9 o9 g9
        have MB9 := Lib.hid (MaR.put MB7.out HXY.out.2 (y := ⟨some ⟨gy, 0, none⟩, yc, yP.set K 2⟩) rfl rfl (by simp) (by show OwnI w9 _ (.slice _ (yP.set K 2).length yc) _; rw [List.length_set]; exact o9) g9)
        have MA9 := Lib.hid (MaR.keptJ MA7.out g9 (fun x hx => by
          have hxv : ∃ x0 ∈ A, x0.v = x.v := by
            rcases List.mem_or_eq_of_mem_set hx with k | rfl
            · exact ⟨x, k, rfl⟩
            · exact ⟨_, List.mem_of_getElem? HXY.out.1, by simp [IR.v]⟩
          obtain ⟨x0, hx0, e0⟩ := hxv
          cases e : x.v.ownBlock with
          | none => exact .inl rfl
          | some b => exact .inr (fun q2 => AP.out x0 hx0 _ (List.mem_of_getElem? HXY.out.2) b (by rw [e0]; exact e) (by rw [q2]; rfl))) (mrows_apart MA7.out.row OY.out (by decide)))
        have HB9 := Lib.hid (HB7.out.grown g9 HB7.out.size (fun k hk => by have h1 := (OY.out.lt k hk).1; omega))
        have AM := Lib.hid MA9.out.mat
        have BM := Lib.hid MB9.out.mat
        clear o9 g9 cB MA7 MB7 MA9 MB9 OY AP OA
        go_wp2_with fail
        refine (irelsok_is (A.set K ⟨some ⟨gx, 0, none⟩, xc, xP.set J q⟩) FA.out (some ⟨ga, 0, none⟩) tc _ _ HLA.out.1.symm AM.out (by rw [HLA.out.1]; exact HL.out.1)).mono ?_
        rintro en w10 ⟨rfl, b10⟩
        have HB10 := Lib.hid (HB9.out.trans (b10.mono HB9.out.size))
        have BM10 := Lib.hid (BM.out.below b10)
        clear b10
        go_wp2_with fail
        refine (irelsok_is (B.set K ⟨some ⟨gy, 0, none⟩, yc, yP.set K 2⟩) FB.out (some ⟨gb, 0, none⟩) oc _ _ HLA.out.2.symm BM10.out (by rw [HLA.out.2]; exact HL.out.2)).mono ?_
        rintro en w11 ⟨rfl, b11⟩
        have HB11 := Lib.hid (HB10.out.trans (b11.mono HB10.out.size))
        clear b11
        go_wp2_with fail
        go_ret
        exact ⟨rfl, HB11.out⟩
end Go.Proofs.Ytnljcppefnaapaa
