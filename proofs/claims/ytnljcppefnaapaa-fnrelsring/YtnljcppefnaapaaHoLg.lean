/-
  The law that without an order some house is its own customer, over others: the walk.
-/
import Derived.Test.YtnljcppefnaapaaHoImp
import Derived.Test.YtnljcppefnaapaaHoDs
import Derived.Test.YtnljcppefnaapaaHoRh
import Derived.Test.YtnljcppefnaapaaJ2
namespace Go.Proofs.Ytnljcppefnaapaa
open Go.RowKit
set_option linter.unusedSimpArgs false
set_option linter.unusedVariables false

set_option maxRecDepth 100000 in
set_option maxHeartbeats 8000000 in
theorem lawRelsRing (a0 : Option Addr) (len0 cap0 : Nat) (zs0 : List Int) (w : World) (h0 : IsRow w a0 len0 cap0 zs0) :
    Calls Try.prog 7 #[.slice a0 len0 cap0] w fun e w' => e = .returned (.bool true) ∧ Below w.heap.size w w' := by
  have H0 := Lib.hid h0
  clear h0
  by_cases hl0 : (1048576 : Int) < (len0 : Int)
  · go_enter Try.func7, Try.ntmps7
    go_wp2_with fail
    go_ret
    exact ⟨rfl, Below.refl _ _⟩
  go_enter Try.func7, Try.ntmps7
  go_wp2_with fail
  refine (dRelsFree_any a0 len0 cap0 zs0 _ H0.out).mono ?_
  rintro en w1 ⟨v, L, rfl, hD⟩
  obtain ⟨a, c, rfl, _⟩ := OwnM.tab hD.par.row
  have HB1 := Lib.hid hD.bel
  have Aq_1 := Lib.hid hD.par.mat
  have hlen := hD.len
  clear hD
  obtain ⟨z, hz⟩ : ∃ z, relsFree (matP L) = z := ⟨_, rfl⟩
  have HZ := Lib.hid hz
  have hzz : (z != z) = false := by simp
  have hze : (z == z) = true := by simp
  clear hz
  go_wp2_with fail
  refine (irelsfree_is L HZ.out a c _ _ rfl Aq_1.out (by omega)).mono ?_
  rintro en w2 ⟨rfl, b⟩
  have HB2 := Lib.hid (next HB1.out b)
  have Aq_2 := Lib.hid (Aq_1.out.below b)
  clear b Aq_1
  go_wp2_with fail
  refine (srelsfree_is L HZ.out a c _ _ rfl Aq_2.out (by omega)).mono ?_
  rintro en w3 ⟨rfl, b⟩
  have HB3 := Lib.hid (next HB2.out b)
  have Aq_3 := Lib.hid (Aq_2.out.below b)
  clear b Aq_2
  go_wp2_with fail
  cases ho : relsOk (matP L) with
  | false =>
    refine (srelsok_is L ho a c _ _ rfl Aq_3.out (by omega)).mono ?_
    rintro en w4 ⟨rfl, b⟩
    have HB4 := Lib.hid (next HB3.out b)
    have Aq_4 := Lib.hid (Aq_3.out.below b)
    clear b Aq_3
    go_wp2_with fail
    refine (srelsfree_is L HZ.out a c _ _ rfl Aq_4.out (by omega)).mono ?_
    rintro en w5 ⟨rfl, b⟩
    have HB5 := Lib.hid (next HB4.out b)
    clear b
    go_wp2_with fail
    go_ret
    exact ⟨rfl, HB5.out⟩
  | true =>
    refine (srelsok_is L ho a c _ _ rfl Aq_3.out (by omega)).mono ?_
    rintro en w4 ⟨rfl, b⟩
    have HB4 := Lib.hid (next HB3.out b)
    have Aq_4 := Lib.hid (Aq_3.out.below b)
    have HRF := Lib.hid (show z = !ringB (relF (matP L)) L.length L.length by have h := ring_free ho; rw [HZ.out, matP_len] at h; exact h)
    clear b Aq_3 ho
    obtain ⟨f, hf⟩ : ∃ f, relF (matP L) = f := ⟨_, rfl⟩
    rw [hf] at HRF
    have HFe := Lib.hid (show ∀ x y, relOf (matP L) x y = f x y from fun x y => by rw [← hf]; rfl)
    clear hf
    go_wp2_with fail
    go_loopw [5, 6] (fun r h wr => ∃ H : Nat, H ≤ L.length ∧ h = .int .i64 ((H : Int) + 1) ∧ r = .bool (ringB f L.length H) ∧ Hid (Below w4.heap.size w4 wr)) (fun _ h _ => L.length + 1 - (intOf h).toNat)
    case atStart => exact ⟨0, Nat.zero_le _, rfl, rfl, Lib.hid (Below.refl _ _)⟩
    case round =>
      obtain ⟨H, hH, rfl, rfl, HW⟩ := hrel
      by_cases hHt : H < L.length
      · have h1 : (H : Int) + 1 ≤ (L.length : Int) := by omega
        obtain ⟨hh, hhh⟩ : ∃ hh, (H : Int) + 1 = hh := ⟨_, rfl⟩
        have hhr : 1 ≤ hh ∧ hh ≤ (L.length : Int) := by omega
        have T0 := Lib.hid (owni_empty wr w4.heap.size HW.out.size)
        have T1 := Lib.hid (owni_one (wr.alloc (.cells #[] 3)) w4.heap.size (by have := HW.out.size; simp; omega) hh)
        have K0 := Lib.hid ((HW.out.alloc HW.out.size (.cells #[] 3)).alloc (by have := HW.out.size; simp; omega) (.cells #[.int .i64 hh] 3))
        obtain ⟨W, hW⟩ : ∃ W, (wr.alloc (.cells #[] 3)).alloc (.cells #[.int .i64 hh] 3) = W := ⟨_, rfl⟩
        have S0 := Lib.hid (show OwnI W w4.heap.size (.slice (some ⟨wr.heap.size, 0, none⟩) 0 0) [] by rw [← hW]; exact World.ownsRow.alloc T0.out _)
        have A0 := Lib.hid (show OwnI W w4.heap.size (.slice (some ⟨wr.heap.size + 1, 0, none⟩) 1 1) [hh] by rw [← hW]; have := T1.out; simp only [World.size_alloc] at this; exact this)
        have W0 := Lib.hid (show Below w4.heap.size w4 W by rw [← hW]; exact K0.out)
        have P0 : Hid (Apt (.slice (some ⟨wr.heap.size, 0, none⟩) 0 0) (.slice (some ⟨wr.heap.size + 1, 0, none⟩) 1 1)) := Lib.hid (.inr (by simp [Value.ownBlock]))
        have HHH := Lib.hid hhh
        have h1' : hh ≤ (L.length : Int) := by omega
        clear T0 T1 K0 HW h1
        rw [hhh]
        clear hhh
        go_wp2_with fail
        go_loopw [7, 8, 9] (fun s t r wr => ∃ Rn : Nat, Rn ≤ L.length ∧ r = .int .i64 Rn ∧ (∃ S A : List Int, Hid (roundsR f L.length Rn ([], [hh]) = (S, A)) ∧ Hid (OwnI wr w4.heap.size s S) ∧ Hid (OwnI wr w4.heap.size t A) ∧ Hid (Apt s t)) ∧ Hid (Below w4.heap.size w4 wr)) (fun _ _ r _ => L.length - (intOf r).toNat)
        case atStart => exact ⟨0, Nat.zero_le _, rfl, ⟨[], [hh], Lib.hid rfl, S0, A0, P0⟩, W0⟩
        case round =>
          clear S0 A0 P0 W0 hW
          obtain ⟨Rn, hRn, rfl, ⟨S, A, HR, OS, OA, HP⟩, HW⟩ := hrel
          obtain ⟨sa, sc, rfl, _, _⟩ := OwnI.tab OS.out
          obtain ⟨ta, tc, rfl, _, _⟩ := OwnI.tab OA.out
          have HIN := Lib.hid (show InR f L.length hh (S, A) by have h := (in_rounds (f := f) (n := L.length) hh Rn).1; rw [HR.out] at h; exact h)
          have lS : S.length ≤ 5 := by have := in_len HIN.out; omega
          have lA : A.length ≤ 5 := by have h := rounds_at_len (f := f) (n := L.length) hh (by omega) Rn; rw [HR.out] at h; dsimp only at h; omega
          by_cases hRt : Rn < L.length
          · have r1 : (Rn : Int) < (L.length : Int) := by omega
            have hws := HW.out.size
            obtain ⟨W2, hW2⟩ : ∃ W2, wr.alloc (.cells #[] 3) = W2 := ⟨_, rfl⟩
            have bW2 : Below wr.heap.size wr W2 := by rw [← hW2]; exact (Below.refl _ _).alloc (Nat.le_refl _) _
            have TR0 := Lib.hid (show Tri W2 w4.heap.size (.slice sa S.length sc) (.slice (some ⟨wr.heap.size, 0, none⟩) 0 0) (.slice ta A.length tc) S [] A from
              ⟨owni_later OS.out bW2, by rw [← hW2]; exact owni_empty wr w4.heap.size hws, owni_later OA.out bW2,
                (by cases e : (Value.slice sa S.length sc).ownBlock with
                    | none => exact .inl e
                    | some k => exact .inr (fun q => by rw [e] at q; have := (OS.out.lt k e).2; simp [Value.ownBlock] at q; omega)), HP.out,
                (Apt.comm (by cases e : (Value.slice ta A.length tc).ownBlock with
                    | none => exact .inl e
                    | some k => exact .inr (fun q => by rw [e] at q; have := (OA.out.lt k e).2; simp [Value.ownBlock] at q; omega)))⟩)
            have BW2 := Lib.hid (next HW.out bW2)
            clear OS OA HP HW bW2
            go_wp2_with fail
            go_loopw [7, 10, 11] (fun s nx i wr => ∃ I : Nat, I ≤ A.length ∧ i = .int .i64 I ∧ (∃ S1 N1 : List Int, Hid (atR f L.length (A.take I) (S, []) = (S1, N1)) ∧ Hid (Tri wr w4.heap.size s nx (.slice ta A.length tc) S1 N1 A)) ∧ Hid (Below w4.heap.size w4 wr)) (fun _ _ i _ => A.length - (intOf i).toNat)
            case atStart => exact ⟨0, Nat.zero_le _, rfl, ⟨S, [], Lib.hid (by simp [atR]), TR0⟩, BW2⟩
            case round =>
              clear TR0 BW2 hW2
              obtain ⟨I, hI, rfl, ⟨S1, N1, HA1, TR⟩, HW⟩ := hrel
              obtain ⟨s1, c1, rfl, _, _⟩ := OwnI.tab TR.out.os
              obtain ⟨n1, d1, rfl, _, _⟩ := OwnI.tab TR.out.on
              by_cases hIt : I < A.length
              · have i0 : (0 : Int) ≤ (I : Int) := by omega
                have i1 : (I : Int) < (A.length : Int) := by omega
                obtain ⟨b, off, u, rfl, hu, _⟩ := (OwnI.intA TR.out.oa).2.2.at hIt
                have hur := at_ran HIN.out hhr (List.mem_of_getElem? hu)
                have HU := Lib.hid hu
                have IWu := Lib.hid (iwL (p := u) (by omega) (by omega))
                clear hu
                go_wp2_with fail
                go_loopw [7, 10, 12] (fun s nx cc wr => ∃ C : Nat, C ≤ L.length ∧ cc = .int .i64 ((C : Int) + 1) ∧ (∃ S2 N2 : List Int, Hid (rowR f u C (S1, N1) = (S2, N2)) ∧ Hid (Tri wr w4.heap.size s nx (.slice (some ⟨b, off, none⟩) A.length tc) S2 N2 A)) ∧ Hid (Below w4.heap.size w4 wr)) (fun _ _ cc _ => L.length + 1 - (intOf cc).toNat)
                case atStart => exact ⟨0, Nat.zero_le _, rfl, ⟨S1, N1, Lib.hid rfl, TR⟩, HW⟩
                case round =>
                  clear TR HW
                  obtain ⟨C, hC, rfl, ⟨S2, N2, HA2, TR⟩, HW⟩ := hrel
                  obtain ⟨s2, c2, rfl, _, _⟩ := OwnI.tab TR.out.os
                  obtain ⟨n2, d2, rfl, _, _⟩ := OwnI.tab TR.out.on
                  have hlen2 := row_len HIN.out (A.take I) u C hC
                  rw [HA1.out, HA2.out] at hlen2
                  dsimp only at hlen2
                  have l2 : S2.length ≤ 5 ∧ N2.length ≤ 5 := by omega
                  clear hlen2
                  by_cases hCt : C < L.length
                  · obtain ⟨cc, hcc⟩ : ∃ cc, (C : Int) + 1 = cc := ⟨_, rfl⟩
                    have HCC := Lib.hid hcc
                    have q1 : cc ≤ (L.length : Int) := by omega
                    have q0 : 1 ≤ cc := by omega
                    have IWc := Lib.hid (iwL (p := cc) (by omega) (by omega))
                    obtain ⟨b', off', u', e1, hu', ca⟩ := (OwnI.intA TR.out.oa).2.2.at hIt
                    obtain ⟨rfl, rfl⟩ : b = b' ∧ off = off' := by simpa using e1
                    obtain rfl : u = u' := by rw [HU.out] at hu'; simpa using hu'
                    obtain ⟨ρ, hρ⟩ : ∃ ρ, f u cc = ρ := ⟨_, rfl⟩
                    have HRo := Lib.hid (show relOf (matP L) u cc = ρ from (HFe.out u cc).trans hρ)
                    have HV := Lib.hid (show rowR f u (C + 1) (S1, N1) = visitR f u cc (S2, N2) by rw [rowR, HA2.out, hcc])
                    have AQ := Lib.hid (Aq_4.out.below HW.out)
                    rw [hcc]
                    clear e1 hu' hcc
                    go_wp2_with fail
                    refine (irelof_is L u cc IWu.out IWc.out HRo.out a c _ _ rfl AQ.out (by omega)).mono ?_
                    rintro en w5 ⟨rfl, b5⟩
                    have TR5 := Lib.hid (TR.out.later b5)
                    have HW5 := Lib.hid (next HW.out b5)
                    clear b5 ca TR HW AQ
                    by_cases hr1 : ρ = 1
                    · have f1 : (ρ == 1) = true := by simp [hr1]
                      cases hin : decide (cc ∈ S2) with
                      | true =>
                        have HVV := Lib.hid (show rowR f u (C + 1) (S1, N1) = (S2, N2) by rw [HV.out, visitR, if_neg (fun q => q.2 (of_decide_eq_true hin))])
                        have HIN2 := Lib.hid hin
                        clear hr1 hin hρ
                        go_wp2_with fail
                        refine (lyIn_is HIN2.out s2 c2 _ _ rfl (OwnI.intA TR5.out.os).2.2 (by omega)).mono ?_
                        rintro en wq ⟨rfl, rfl⟩
                        go_wp2_with fail
                        go_roundw
                        case rel => exact ⟨C + 1, by omega, by rw [← HCC.out]; go_num, ⟨S2, N2, HVV, TR5⟩, HW5⟩
                        case measure => simp [intOf]; have := HCC.out; omega
                      | false =>
                        have HVV := Lib.hid (show rowR f u (C + 1) (S1, N1) = (S2 ++ [cc], N2 ++ [cc]) by rw [HV.out, visitR, if_pos ⟨hρ.trans hr1, of_decide_eq_false hin⟩])
                        have HIN2 := Lib.hid hin
                        clear hr1 hin hρ
                        go_wp2_with fail
                        refine (lyIn_is HIN2.out s2 c2 _ _ rfl (OwnI.intA TR5.out.os).2.2 (by omega)).mono ?_
                        rintro en wq ⟨rfl, rfl⟩
                        go_wp2_with (at_builtin; refine wpList_appL rfl (.tmp 75) (.tmp 77) rfl w4.heap.size (.slice s2 S2.length c2) S2 rfl (TR5.out.os.alloc _) w5.heap.size cc rfl ?m1 (by omega) ?r1 ?g1)
                        try case m1 => (rw [World.cell?_alloc_new]; simp)
                        try case r1 => (have := HW5.out.size; simp; omega)
                        intro v6 w6 own6 grow6 loc6
                        have TR6 := Lib.hid ((TR5.out.alloc _).appS own6 grow6 (by simpa using loc6))
                        have HW6 := Lib.hid ((HW5.out.alloc HW5.out.size _).grown grow6 (by have := HW5.out.size; simp; omega) (fun k e => (TR5.out.os.lt k e).1))
                        obtain ⟨s6, c6, rfl, _, _⟩ := OwnI.tab own6
                        clear own6 grow6 loc6 TR5 HW5
                        generalize S2 ++ [cc] = S6 at *
                        go_wp2_with (at_builtin; refine wpList_appL rfl (.tmp 79) (.tmp 81) rfl w4.heap.size (.slice n2 N2.length d2) N2 rfl (TR6.out.on.alloc _) w6.heap.size cc rfl ?m2 (by omega) ?r2 ?g2)
                        try case m2 => (rw [World.cell?_alloc_new]; simp)
                        try case r2 => (have := HW6.out.size; simp; omega)
                        intro v8 w8 own8 grow8 loc8
                        have TR8 := Lib.hid ((TR6.out.alloc _).appN own8 grow8 (by simpa using loc8))
                        have HW8 := Lib.hid ((HW6.out.alloc HW6.out.size _).grown grow8 (by have := HW6.out.size; simp; omega) (fun k e => (TR6.out.on.lt k e).1))
                        clear own8 grow8 loc8 TR6 HW6
                        go_wp2_with fail
                        go_roundw
                        case rel => exact ⟨C + 1, by omega, by rw [← HCC.out]; go_num, ⟨S6, _, HVV, TR8⟩, HW8⟩
                        case measure => simp [intOf]; have := HCC.out; omega
                    · have f1 : (ρ == 1) = false := by simp [hr1]
                      have HVV := Lib.hid (show rowR f u (C + 1) (S1, N1) = (S2, N2) by rw [HV.out, visitR, if_neg (fun q => hr1 (hρ.symm.trans q.1))])
                      clear hr1 hρ
                      go_wp2_with fail
                      go_roundw
                      case rel => exact ⟨C + 1, by omega, by rw [← HCC.out]; go_num, ⟨S2, N2, HVV, TR5⟩, HW5⟩
                      case measure => simp [intOf]; have := HCC.out; omega
                  · obtain rfl : C = L.length := by omega
                    have q1 : ¬ (L.length : Int) + 1 ≤ (L.length : Int) := by omega
                    have HA3 := Lib.hid (show atR f L.length (A.take (I + 1)) (S, []) = (S2, N2) by rw [List.take_add_one, HU.out]; simp only [Option.toList]; rw [atR_snoc, HA1.out, HA2.out])
                    go_wp2_with fail
                    go_roundw
                    case rel => exact ⟨I + 1, by omega, by go_num, ⟨S2, N2, HA3, TR⟩, HW⟩
                    case measure => simp [intOf]; omega
              · obtain rfl : I = A.length := by omega
                have HR2 := Lib.hid (show roundsR f L.length (Rn + 1) ([], [hh]) = (S1, N1) by
                  have h := HA1.out
                  rw [List.take_length] at h
                  show roundR f L.length (roundsR f L.length Rn ([], [hh])) = (S1, N1)
                  rw [HR.out]; exact h)
                have OS2 := Lib.hid TR.out.os
                have ON2 := Lib.hid TR.out.on
                have SN2 := Lib.hid TR.out.sn
                clear TR HA1
                go_wp2_with fail
                go_roundw
                case rel => exact ⟨Rn + 1, by omega, by go_num, ⟨S1, N1, HR2, OS2, ON2, SN2⟩, HW⟩
                case measure => simp [intOf]; omega
          · obtain rfl : Rn = L.length := by omega
            have r1 : ¬ (L.length : Int) < (L.length : Int) := by omega
            have HSE := Lib.hid (show seenR f L.length hh = S by rw [seenR, HR.out])
            have HSU := Lib.hid (ringB_succ f L.length H)
            cases hb : ringB f L.length H with
            | true =>
              have HX := Lib.hid (show ringB f L.length (H + 1) = true by rw [HSU.out, hb]; rfl)
              have HBb := Lib.hid hb
              clear hb
              go_wp2_with fail
              go_roundw
              case rel => exact ⟨H + 1, by omega, by rw [← HHH.out]; go_num, by rw [HX.out], HW⟩
              case measure => simp [intOf]; have := HHH.out; omega
            | false =>
              obtain ⟨y, hy⟩ : ∃ y, decide (hh ∈ S) = y := ⟨_, rfl⟩
              have HX := Lib.hid (show ringB f L.length (H + 1) = y by rw [HSU.out, hb, HHH.out, HSE.out]; simpa using hy)
              have HYy := Lib.hid hy
              clear hb hy
              go_wp2_with fail
              refine (lyIn_is HYy.out sa sc _ _ rfl (OwnI.intA OS.out).2.2 (by omega)).mono ?_
              rintro en wq ⟨rfl, rfl⟩
              go_wp2_with fail
              go_roundw
              case rel => exact ⟨H + 1, by omega, by rw [← HHH.out]; go_num, by rw [HX.out], HW⟩
              case measure => simp [intOf]; have := HHH.out; omega
      · obtain rfl : H = L.length := by omega
        have h1 : ¬ (L.length : Int) + 1 ≤ (L.length : Int) := by omega
        have HBW := Lib.hid (HB4.out.trans (HW.out.mono HB4.out.size))
        have e5 : (z == !ringB f L.length L.length) = true := by rw [HRF.out]; simp
        go_wp2_with fail
        go_ret
        first | exact ⟨rfl, HBW.out⟩ | exact ⟨ret_bool e5, HBW.out⟩
end Go.Proofs.Ytnljcppefnaapaa
