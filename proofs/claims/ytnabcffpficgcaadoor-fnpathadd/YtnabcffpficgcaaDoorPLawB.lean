/-
  The laws on drawn paths: add.
-/
import Derived.Test.YtnabcffpficgcaaDoorPLawA
namespace Go.Proofs.YtnabcffpficgcaaDoor
open Go.RowKit
set_option linter.unusedSimpArgs false
set_option linter.unusedVariables false

set_option maxRecDepth 100000 in
set_option maxHeartbeats 1000000 in
theorem lawPathAdd (a0 : Option Addr) (len0 cap0 : Nat) (zs0 : List Int) (w : World) (h0 : IsRow w a0 len0 cap0 zs0) (p : Addr) (hE : EV w p) (hX : True) :
    Calls Tryd.prog 11 #[.slice a0 len0 cap0] w fun e w' => e = .returned (.bool true) ∧ Below w.heap.size w w' := by
  have H0 := Lib.hid h0
  have HE := Lib.hid hE
  have HX := Lib.hid hX
  clear h0 hE hX
  by_cases hl0 : (1048576 : Int) < (len0 : Int)
  · go_enter Tryd.func11, Tryd.ntmps11
    go_wp2_with fail
    go_ret
    exact ⟨rfl, Below.refl _ _⟩
  have HB0 := Lib.hid (Below.refl w.heap.size w)
  go_enter Tryd.func11, Tryd.ntmps11
  go_wp2_with fail
  refine (dPathAdd_any a0 len0 cap0 zs0 _ (isrow_later H0.out HB0.out)).mono ?_
  rintro e w1 ⟨v, L, h, rfl, hl6, o, b⟩
  have HB1 := Lib.hid (HB0.out.trans (b.mono HB0.out.size))
  have hs1 := Lib.hid b.size
  obtain ⟨ad, cd, rfl, hcd, td⟩ := OwnI.tab o
  have Bd := Lib.hid (OwnI.btw o)
  have Od_1 := Lib.hid o
  clear td hcd
  clear b o
  obtain ⟨U, u, hU⟩ : ∃ U u, padd L h = (U, u) := ⟨_, _, rfl⟩
  have hUl : U.length ≤ 5 := by have := padd_len L h; rw [hU] at this; exact this
  have HU := Lib.hid hU
  have huu : (u != u) = false := by simp
  have hue : (u == u) = true := by simp
  clear hU
  go_wp2_with fail
  refine (sadd_is HU.out ad cd _ _ rfl (OwnI.intA Od_1.out).2.2 (OwnI.intA Od_1.out).2.1 (by omega)).mono ?_
  rintro e w2 ⟨v, rfl, o, b⟩
  have HB2 := Lib.hid (HB1.out.trans (b.mono HB1.out.size))
  have hs2 := Lib.hid b.size
  have Od_2 := Lib.hid (owni_later Od_1.out b)
  obtain ⟨aw, cw, rfl, hcw, tw⟩ := OwnI.tab o
  have Bw := Lib.hid (OwnI.btw o)
  have Ow_2 := Lib.hid o
  clear tw hcw
  clear b o
  go_wp2_with fail
  refine (iadd_is HU.out ad cd _ _ p rfl (by omega) (OwnI.intA Od_2.out).2.2 (HE.out.below HB2.out)).mono ?_
  rintro e w3 ⟨v, rfl, o, b⟩
  have HB3 := Lib.hid (HB2.out.trans (b.mono HB2.out.size))
  have hs3 := Lib.hid b.size
  have Od_3 := Lib.hid (owni_later Od_2.out b)
  have Ow_3 := Lib.hid (owni_later Ow_2.out b)
  obtain ⟨ag, cg, rfl, hcg, tg⟩ := OwnI.tab o
  have Bg := Lib.hid (OwnI.btw o)
  have Og_3 := Lib.hid o
  clear tg hcg
  clear b o
  go_wp2_with fail
  refine (lyI_is (show decide (U = U) = true from decide_eq_true rfl) ag aw cg cw _ _ _ rfl rfl (OwnI.intA Og_3.out).2.2 (OwnI.intA Ow_3.out).2.2 (by omega) (by omega)).mono ?_
  rintro e w4 ⟨rfl, b⟩
  have HB4 := Lib.hid (HB3.out.trans (b.mono HB3.out.size))
  have hs4 := Lib.hid b.size
  have Od_4 := Lib.hid (owni_later Od_3.out b)
  have Ow_4 := Lib.hid (owni_later Ow_3.out b)
  have Og_4 := Lib.hid (owni_later Og_3.out b)
  clear b
  cases ho : pOk L with
  | false =>
    go_wp2_with fail
    refine (sok_is ho ad cd _ _ rfl (OwnI.intA Od_4.out).2.2 (OwnI.intA Od_4.out).2.1 (by omega)).mono ?_
    rintro e w5 ⟨rfl, b⟩
    have HB5 := Lib.hid (HB4.out.trans (b.mono HB4.out.size))
    have hs5 := Lib.hid b.size
    have Od_5 := Lib.hid (owni_later Od_4.out b)
    have Ow_5 := Lib.hid (owni_later Ow_4.out b)
    have Og_5 := Lib.hid (owni_later Og_4.out b)
    clear b
    go_wp2_with fail
    refine (lyI_is (show decide (U = U) = true from decide_eq_true rfl) ag aw cg cw _ _ _ rfl rfl (OwnI.intA Og_5.out).2.2 (OwnI.intA Ow_5.out).2.2 (by omega) (by omega)).mono ?_
    rintro e w6 ⟨rfl, b⟩
    have HB6 := Lib.hid (HB5.out.trans (b.mono HB5.out.size))
    have hs6 := Lib.hid b.size
    have Od_6 := Lib.hid (owni_later Od_5.out b)
    have Ow_6 := Lib.hid (owni_later Ow_5.out b)
    have Og_6 := Lib.hid (owni_later Og_5.out b)
    clear b
    go_wp2_with fail
    go_ret
    exact ⟨rfl, HB6.out⟩
  | true =>
    go_wp2_with fail
    refine (sok_is ho ad cd _ _ rfl (OwnI.intA Od_4.out).2.2 (OwnI.intA Od_4.out).2.1 (by omega)).mono ?_
    rintro e w5 ⟨rfl, b⟩
    have HB5 := Lib.hid (HB4.out.trans (b.mono HB4.out.size))
    have hs5 := Lib.hid b.size
    have Od_5 := Lib.hid (owni_later Od_4.out b)
    have Ow_5 := Lib.hid (owni_later Ow_4.out b)
    have Og_5 := Lib.hid (owni_later Og_4.out b)
    clear b
    have HP := Lib.hid ((pOk_iff L).1 ho)
    cases u with
    | false =>
      have HN : Hid (¬ Path (h :: L)) := Lib.hid (fun q => by have := HU.out; rw [padd_yes q] at this; simp at this)
      by_cases hm : h ∈ L
      · have hm2 := decide_eq_true hm
        clear hm
        go_wp2_with fail
        refine (lyIn_is hm2 ad cd _ _ rfl (OwnI.intA Od_5.out).2.2 (by omega)).mono ?_
        rintro e w0 ⟨rfl, rfl⟩
        go_wp2_with fail
        go_ret
        exact ⟨rfl, HB5.out⟩
      · have hm2 := decide_eq_false hm
        have hH : h < 1 ∨ ¬ h < 1 ∧ 5 < h := by
          have := HN.out
          by_cases q : 1 ≤ h ∧ h ≤ 5
          · exact (this (path_cons.2 ⟨q, hm, HP.out⟩)).elim
          · omega
        clear hm
        rcases hH with hH | ⟨hH1, hH2⟩
        · go_wp2_with fail
          refine (lyIn_is hm2 ad cd _ _ rfl (OwnI.intA Od_5.out).2.2 (by omega)).mono ?_
          rintro e w0 ⟨rfl, rfl⟩
          go_wp2_with fail
          go_ret
          exact ⟨rfl, HB5.out⟩
        · go_wp2_with fail
          refine (lyIn_is hm2 ad cd _ _ rfl (OwnI.intA Od_5.out).2.2 (by omega)).mono ?_
          rintro e w0 ⟨rfl, rfl⟩
          go_wp2_with fail
          go_ret
          exact ⟨rfl, HB5.out⟩
    | true =>
      have hPU : Path (h :: L) ∧ U = h :: L := by
        by_cases q : Path (h :: L)
        · have := HU.out; rw [padd_yes q] at this; exact ⟨q, by simpa using this.symm⟩
        · have := HU.out; rw [padd_no q] at this; simp at this
      obtain ⟨hPU, rfl⟩ := hPU
      have HPU := Lib.hid hPU
      have h1 : pHas (h :: L) h = true := by rw [pHas_yes hPU]; simp
      have h2 : pOk (h :: L) = true := pOk_yes hPU
      have h3 : pHas L h = false := by rw [pHas_yes HP.out]; exact decide_eq_false (path_cons.1 hPU).2.1
      have hle : decide (L = L) = true := decide_eq_true rfl
      obtain ⟨bg, og, xg, rfl, hxg, cg0⟩ := (OwnI.intA Og_5.out).2.2.at (show 0 < (h :: L).length by simp)
      obtain rfl : xg = h := by simpa [eq_comm] using hxg
      have hee : (xg == xg) = true := by simp
      have HD := Lib.hid (IntA.drop (OwnI.intA Og_5.out).2.2 1)
      have hcg : L.length + 1 ≤ cg := by simpa using (OwnI.intA Og_5.out).2.1
      clear hxg hPU
      have j1 : (1 : Int) ≤ (L.length : Int) + 1 := by omega
      have j2 : (L.length : Int) + 1 ≤ (cg : Int) := by omega
      simp only [List.drop_succ_cons, List.drop_zero] at HD
      simp only [Nat.add_zero] at cg0
      by_cases hcg1 : cg = 1
      · subst hcg1
        obtain rfl : L = [] := List.eq_nil_of_length_eq_zero (by omega)
        go_wp2_with fail
        refine (lyI_is (show decide (([] : List Int) = ([] : List Int)) = true from decide_eq_true rfl) _ ad _ cd _ _ _ rfl rfl (.inl rfl) (OwnI.intA Od_5.out).2.2 (by omega) (by omega)).mono ?_
        rintro e w6 ⟨rfl, b⟩
        have HB6 := Lib.hid (HB5.out.trans (b.mono HB5.out.size))
        have hs6 := Lib.hid b.size
        have Od_6 := Lib.hid (owni_later Od_5.out b)
        have Ow_6 := Lib.hid (owni_later Ow_5.out b)
        have Og_6 := Lib.hid (owni_later Og_5.out b)
        clear b
        go_wp2_with fail
        refine (ihas_is h1 _ 1 _ _ p rfl (by have := HPU.out.len; omega) (OwnI.intA Og_6.out).2.2 (HE.out.below HB6.out)).mono ?_
        rintro e w7 ⟨rfl, b⟩
        have HB7 := Lib.hid (HB6.out.trans (b.mono HB6.out.size))
        have hs7 := Lib.hid b.size
        have Od_7 := Lib.hid (owni_later Od_6.out b)
        have Ow_7 := Lib.hid (owni_later Ow_6.out b)
        have Og_7 := Lib.hid (owni_later Og_6.out b)
        clear b
        go_wp2_with fail
        refine (iok_is h2 _ 1 _ _ p rfl (by have := HPU.out.len; omega) (OwnI.intA Og_7.out).2.2 (HE.out.below HB7.out)).mono ?_
        rintro e w8 ⟨rfl, b⟩
        have HB8 := Lib.hid (HB7.out.trans (b.mono HB7.out.size))
        have hs8 := Lib.hid b.size
        have Od_8 := Lib.hid (owni_later Od_7.out b)
        have Ow_8 := Lib.hid (owni_later Ow_7.out b)
        have Og_8 := Lib.hid (owni_later Og_7.out b)
        clear b
        go_wp2_with fail
        refine (ihas_is h3 ad cd _ _ p rfl (by omega) (OwnI.intA Od_8.out).2.2 (HE.out.below HB8.out)).mono ?_
        rintro e w9 ⟨rfl, b⟩
        have HB9 := Lib.hid (HB8.out.trans (b.mono HB8.out.size))
        have hs9 := Lib.hid b.size
        have Od_9 := Lib.hid (owni_later Od_8.out b)
        have Ow_9 := Lib.hid (owni_later Ow_8.out b)
        have Og_9 := Lib.hid (owni_later Og_8.out b)
        clear b
        go_wp2_with fail
        go_ret
        exact ⟨rfl, HB9.out⟩
      · go_wp2_with fail
        refine (lyI_is (show decide (L = L) = true from decide_eq_true rfl) _ ad _ cd _ _ _ rfl rfl HD.out (OwnI.intA Od_5.out).2.2 (by omega) (by omega)).mono ?_
        rintro e w6 ⟨rfl, b⟩
        have HB6 := Lib.hid (HB5.out.trans (b.mono HB5.out.size))
        have hs6 := Lib.hid b.size
        have Od_6 := Lib.hid (owni_later Od_5.out b)
        have Ow_6 := Lib.hid (owni_later Ow_5.out b)
        have Og_6 := Lib.hid (owni_later Og_5.out b)
        clear b
        go_wp2_with fail
        refine (ihas_is h1 _ cg _ _ p rfl (by have := HPU.out.len; omega) (OwnI.intA Og_6.out).2.2 (HE.out.below HB6.out)).mono ?_
        rintro e w7 ⟨rfl, b⟩
        have HB7 := Lib.hid (HB6.out.trans (b.mono HB6.out.size))
        have hs7 := Lib.hid b.size
        have Od_7 := Lib.hid (owni_later Od_6.out b)
        have Ow_7 := Lib.hid (owni_later Ow_6.out b)
        have Og_7 := Lib.hid (owni_later Og_6.out b)
        clear b
        go_wp2_with fail
        refine (iok_is h2 _ cg _ _ p rfl (by have := HPU.out.len; omega) (OwnI.intA Og_7.out).2.2 (HE.out.below HB7.out)).mono ?_
        rintro e w8 ⟨rfl, b⟩
        have HB8 := Lib.hid (HB7.out.trans (b.mono HB7.out.size))
        have hs8 := Lib.hid b.size
        have Od_8 := Lib.hid (owni_later Od_7.out b)
        have Ow_8 := Lib.hid (owni_later Ow_7.out b)
        have Og_8 := Lib.hid (owni_later Og_7.out b)
        clear b
        go_wp2_with fail
        refine (ihas_is h3 ad cd _ _ p rfl (by omega) (OwnI.intA Od_8.out).2.2 (HE.out.below HB8.out)).mono ?_
        rintro e w9 ⟨rfl, b⟩
        have HB9 := Lib.hid (HB8.out.trans (b.mono HB8.out.size))
        have hs9 := Lib.hid b.size
        have Od_9 := Lib.hid (owni_later Od_8.out b)
        have Ow_9 := Lib.hid (owni_later Ow_8.out b)
        have Og_9 := Lib.hid (owni_later Og_8.out b)
        clear b
        go_wp2_with fail
        go_ret
        exact ⟨rfl, HB9.out⟩

end Go.Proofs.YtnabcffpficgcaaDoor
