/-
  The law that without a house there is no ring that was not: the walk.
-/
import Derived.Test.YtnljcppefnaapaaHoImp
import Derived.Test.YtnljcppefnaapaaHoDs
namespace Go.Proofs.Ytnljcppefnaapaa
open Go.RowKit
set_option linter.unusedSimpArgs false
set_option linter.unusedVariables false

/-- a row without its last numbers -/
def cutR (m : Nat) (x : IR) : IR := ⟨x.a, x.c, x.P.take m⟩
theorem lessM_matP {L : List IR} : matP ((L.take (L.length - 1)).map (cutR (L.length - 1))) = lessM (matP L) := by
  simp only [matP, lessM, List.map_map, List.length_map, ← List.map_take]
  rfl
theorem cut_take {L : List IR} {m i : Nat} {x : IR} (h : L[i]? = some x) : (L.take (i + 1)).map (cutR m) = (L.take i).map (cutR m) ++ [cutR m x] := by
  rw [List.take_add_one, h]; simp
theorem mat_cut {w : World} {a a2 : Option Addr} {L : List IR} {m i : Nat} (h : MatA w a L) (hm : ∀ x ∈ L, m ≤ x.P.length)
    (hr : (L.take i).map (cutR m) = [] ∨ ∃ b off, a2 = some ⟨b, off, none⟩ ∧ ∀ (k : Nat) v, ((L.take i).map (cutR m))[k]? = some v → w.cell? ⟨b, off + k, none⟩ = some v.v) : MatA w a2 ((L.take i).map (cutR m)) := by
  refine ⟨hr, fun v hv => ?_⟩
  obtain ⟨x, hx, rfl⟩ := List.mem_map.1 hv
  have := h.2 x (List.mem_of_mem_take hx)
  refine ⟨this.1.take m, ?_⟩
  show (x.P.take m).length ≤ x.c
  rw [List.length_take]; omega
theorem ownm_rows {w : World} {R n c : Nat} {a : Option Addr} {L : List IR} (h : OwnM w R (.slice a n c) L) : L = [] ∨ ∃ b off, a = some ⟨b, off, none⟩ ∧ ∀ (k : Nat) v, L[k]? = some v → w.cell? ⟨b, off + k, none⟩ = some v.v := by
  rcases h.2 with ⟨e0, h0⟩ | ⟨g, cap, cur, e0, _⟩
  · exact .inl (List.eq_nil_of_length_eq_zero h0)
  · injection e0 with e1 e2 e3
    subst e1
    refine .inr ⟨g, 0, rfl, fun i v hi => ?_⟩
    have := World.ownsRow.cells h (g := g) rfl i _ (cellsR_at hi)
    rwa [Addr.add_mid] at this
set_option maxRecDepth 100000 in
set_option maxHeartbeats 4000000 in
theorem lawRelsLess (a0 : Option Addr) (len0 cap0 : Nat) (zs0 : List Int) (w : World) (h0 : IsRow w a0 len0 cap0 zs0) :
    Calls Try.prog 10 #[.slice a0 len0 cap0] w fun e w' => e = .returned (.bool true) ∧ Below w.heap.size w w' := by
  have H0 := Lib.hid h0
  clear h0
  by_cases hl0 : (1048576 : Int) < (len0 : Int)
  · go_enter Try.func10, Try.ntmps10
    go_wp2_with fail
    go_ret
    exact ⟨rfl, Below.refl _ _⟩
  go_enter Try.func10, Try.ntmps10
  go_wp2_with fail
  refine (dRelsFree_any a0 len0 cap0 zs0 _ H0.out).mono ?_
  rintro en w1 ⟨v, L, rfl, hD⟩
  obtain ⟨a, c, rfl, _⟩ := OwnM.tab hD.par.row
  have HB1 := Lib.hid hD.bel
  have Aq_1 := Lib.hid hD.par.mat
  have hlen := hD.len
  have HSQ := Lib.hid hD.sq
  clear hD
  obtain ⟨z, hz⟩ : ∃ z, relsFree (matP L) = z := ⟨_, rfl⟩
  have HZ := Lib.hid hz
  have hzz : (z != z) = false := by simp
  have hze : (z == z) = true := by simp
  clear hz
  go_wp2_with fail
  refine (irelsfree_is L HZ.out a c _ _ rfl Aq_1.out (by omega)).mono ?_
  rintro en w2 ⟨rfl, b⟩
  have HB2 := Lib.hid (HB1.out.trans (b.mono HB1.out.size))
  have Aq_2 := Lib.hid (Aq_1.out.below b)
  clear b
  go_wp2_with fail
  refine (srelsfree_is L HZ.out a c _ _ rfl Aq_2.out (by omega)).mono ?_
  rintro en w3 ⟨rfl, b⟩
  have HB3 := Lib.hid (HB2.out.trans (b.mono HB2.out.size))
  have Aq_3 := Lib.hid (Aq_2.out.below b)
  clear b
  cases z with
  | false =>
    go_wp2_with fail
    refine (srelsfree_is L HZ.out a c _ _ rfl Aq_3.out (by omega)).mono ?_
    rintro en w4 ⟨rfl, b⟩
    have HB4 := Lib.hid (HB3.out.trans (b.mono HB3.out.size))
    clear b
    go_wp2_with fail
    go_ret
    exact ⟨rfl, HB4.out⟩
  | true =>
    have d2 : ¬ (L.length : Int) < 2 := by omega
    have I0 := Lib.hid (mar_empty w3 w3.heap.size (Nat.le_refl _)).row
    have HBX := Lib.hid ((Below.refl w3.heap.size w3).alloc (Nat.le_refl _) (.cells #[] 33))
    go_wp2_with fail
    go_loopw [5, 6] (fun t i wr => ∃ I : Nat, I + 1 ≤ L.length ∧ i = .int .i64 I ∧ (∃ N : List IR, Hid (N = (L.take I).map (cutR (L.length - 1))) ∧ Hid (OwnM wr w3.heap.size t N)) ∧ Hid (Below w3.heap.size w3 wr)) (fun _ i _ => L.length - (intOf i).toNat)
    case atStart => exact ⟨0, by omega, rfl, ⟨[], Lib.hid rfl, I0⟩, HBX⟩
    case round =>
      clear I0 HBX
      obtain ⟨I, hI, rfl, ⟨N, HN, HO⟩, HW⟩ := hrel
      obtain ⟨ta, tc, rfl, _⟩ := OwnM.tab HO.out
      have e1 : IntKind.i64.wrap ((I : Int) + 1) = (I : Int) + 1 := by rw [IntKind.wrap_i64]; omega
      have AQ := Lib.hid (Aq_3.out.below HW.out)
      by_cases hlt : I + 1 < L.length
      · have i2 : (I : Int) + 1 < (L.length : Int) := by omega
        obtain ⟨x, hx⟩ : ∃ x, L[I]? = some x := ⟨_, List.getElem?_eq_getElem (by omega)⟩
        have hxl := HSQ.out x (List.mem_of_getElem? hx)
        have HC := Lib.hid (cut_take (m := L.length - 1) hx)
        obtain ⟨xa, xc, xP⟩ := x
        obtain ⟨b, off, rfl, c0, hIx, hcx⟩ := AQ.out.at hx
        dsimp only at c0 hIx hcx hxl
        have i0 : (0 : Int) ≤ (I : Int) := by omega
        have i1 : (I : Int) < (L.length : Int) := by omega
        have e2 : IntKind.i64.wrap ((L.length : Int) - 1) = ((L.length - 1 : Nat) : Int) := by rw [IntKind.wrap_i64]; omega
        have l1 : L.length - 1 ≤ xc := by omega
        have HL := Lib.hid hxl
        have htl : N.length ≤ 2000000 := by rw [HN.out]; simp; omega
        clear hx hIx hxl
        go_wp2_with (at_builtin; refine wpList_appM rfl (.tmp 39) (.tmp 48) rfl w3.heap.size (.slice ta N.length tc) N ?s1 ?o1 wr.heap.size (cutR (L.length - 1) ⟨xa, xc, xP⟩) ?x1 ?m1 htl ?r1 ?h1)
        try case s1 => rfl
        try case o1 => exact World.ownsRow.kept HO.out (World.grownBy_alloc _ _ none) (by cases Value.ownBlock _ with | none => exact .inl rfl | some k => exact .inr (by simp))
        try case x1 => rfl
        try case m1 => (rw [World.cell?_alloc_new]; simp [cutR, IR.v, HL.out])
        try case r1 => (have := HW.out.size; simp; omega)
        intro v5 w5 own5 grow5
        have HO5 := Lib.hid own5
        have HN5 := Lib.hid (show N ++ [cutR (L.length - 1) ⟨xa, xc, xP⟩] = (L.take (I + 1)).map (cutR (L.length - 1)) by rw [HC.out, HN.out])
        have HW5 := Lib.hid ((HW.out.alloc HW.out.size _).grown grow5 (by have := HW.out.size; simp; omega) (fun k e => (World.ownsRow.lt HO.out k e).1))
        clear own5 grow5
        go_wp2_with fail
        go_roundw
        case rel => exact ⟨I + 1, by omega, by go_num, ⟨_, HN5, HO5⟩, HW5⟩
        case measure => simp [intOf]; omega
      · have i2 : ¬ (I : Int) + 1 < (L.length : Int) := by omega
        obtain rfl : I = L.length - 1 := by omega
        have hl2 : 2 ≤ (matP L).length := by rw [matP_len]; omega
        have HF := Lib.hid (show relsFree (matP N) = true by rw [HN.out, lessM_matP]; exact lessM_free HZ.out hl2)
        have HA := Lib.hid (show MatA wr ta N by have h1 := ownm_rows HO.out; rw [HN.out] at h1 ⊢; exact mat_cut (i := L.length - 1) AQ.out (m := L.length - 1) (fun x hx => by rw [HSQ.out x hx]; omega) h1)
        have HLL : N.length ≤ 2000000 := by rw [HN.out]; simp; omega
        have HBW := Lib.hid (HB3.out.trans (HW.out.mono HB3.out.size))
        go_wp2_with fail
        refine (irelsfree_is N HF.out ta tc _ _ rfl HA.out HLL).mono ?_
        rintro en w4 ⟨rfl, b⟩
        have HB4 := Lib.hid (HBW.out.trans (b.mono HBW.out.size))
        clear b
        go_wp2_with fail
        go_ret
        exact ⟨rfl, HB4.out⟩
end Go.Proofs.Ytnljcppefnaapaa
