/-
  The laws on drawn paths: has.
-/
import Derived.Test.YtnabcffpficgcaaDoorPExA
import Derived.Test.YtnabcffpficgcaaDoorPDraw
namespace Go.Proofs.YtnabcffpficgcaaDoor
open Go.RowKit
set_option linter.unusedSimpArgs false
set_option linter.unusedVariables false

theorem isrow_later {w w' : World} {a : Option Addr} {len cap : Nat} {zs : List Int} (h : IsRow w a len cap zs) (k : Below w.heap.size w w') : IsRow w' a len cap zs := by
  rcases h with h | ⟨x, h1, h2, h3, h4, h5, h6⟩
  · exact .inl h
  · exact .inr ⟨x, h1, h2, h3, h4, fun i hi => cell_later k (h5 i hi), h6⟩

set_option maxRecDepth 100000 in
set_option maxHeartbeats 1000000 in
theorem lawPathHas (a0 : Option Addr) (len0 cap0 : Nat) (zs0 : List Int) (w : World) (h0 : IsRow w a0 len0 cap0 zs0) (p : Addr) (hE : EV w p) (hX : True) :
    Calls Tryd.prog 12 #[.slice a0 len0 cap0] w fun e w' => e = .returned (.bool true) ∧ Below w.heap.size w w' := by
  have H0 := Lib.hid h0
  have HE := Lib.hid hE
  have HX := Lib.hid hX
  clear h0 hE hX
  by_cases hl0 : (1048576 : Int) < (len0 : Int)
  · go_enter Tryd.func12, Tryd.ntmps12
    go_wp2_with fail
    go_ret
    exact ⟨rfl, Below.refl _ _⟩
  have HB0 := Lib.hid (Below.refl w.heap.size w)
  go_enter Tryd.func12, Tryd.ntmps12
  go_wp2_with fail
  refine (dPathHas_any a0 len0 cap0 zs0 _ (isrow_later H0.out HB0.out)).mono ?_
  rintro e w1 ⟨v, L, h, rfl, hl6, o, b⟩
  have HB1 := Lib.hid (HB0.out.trans (b.mono HB0.out.size))
  have hs1 := Lib.hid b.size
  obtain ⟨ad, cd, rfl, hcd, td⟩ := OwnI.tab o
  have Bd := Lib.hid (OwnI.btw o)
  have Od_1 := Lib.hid o
  clear td hcd
  clear b o
  generalize hU : pHas L h = u
  have HU := Lib.hid hU
  have huu : (u != u) = false := by simp
  have hue : (u == u) = true := by simp
  clear hU
  go_wp2_with fail
  refine (pihas_is HU.out ad cd _ _ p rfl (by omega) (OwnI.intA Od_1.out).2.2 (HE.out.below HB1.out)).mono ?_
  rintro e w2 ⟨rfl, b⟩
  have HB2 := Lib.hid (HB1.out.trans (b.mono HB1.out.size))
  have hs2 := Lib.hid b.size
  have Od_2 := Lib.hid (owni_later Od_1.out b)
  clear b
  go_wp2_with fail
  refine (shasP_is HU.out ad cd _ _ rfl (OwnI.intA Od_2.out).2.2 (OwnI.intA Od_2.out).2.1 (by omega)).mono ?_
  rintro e w3 ⟨rfl, b⟩
  have HB3 := Lib.hid (HB2.out.trans (b.mono HB2.out.size))
  have hs3 := Lib.hid b.size
  have Od_3 := Lib.hid (owni_later Od_2.out b)
  clear b
  cases ho : pOk L with
  | false =>
    go_wp2_with fail
    refine (psok_is ho ad cd _ _ rfl (OwnI.intA Od_3.out).2.2 (OwnI.intA Od_3.out).2.1 (by omega)).mono ?_
    rintro e w4 ⟨rfl, b⟩
    have HB4 := Lib.hid (HB3.out.trans (b.mono HB3.out.size))
    have hs4 := Lib.hid b.size
    have Od_4 := Lib.hid (owni_later Od_3.out b)
    clear b
    go_wp2_with fail
    refine (shasP_is HU.out ad cd _ _ rfl (OwnI.intA Od_4.out).2.2 (OwnI.intA Od_4.out).2.1 (by omega)).mono ?_
    rintro e w5 ⟨rfl, b⟩
    have HB5 := Lib.hid (HB4.out.trans (b.mono HB4.out.size))
    have hs5 := Lib.hid b.size
    have Od_5 := Lib.hid (owni_later Od_4.out b)
    clear b
    go_wp2_with fail
    go_ret
    exact ⟨rfl, HB5.out⟩
  | true =>
    go_wp2_with fail
    refine (psok_is ho ad cd _ _ rfl (OwnI.intA Od_3.out).2.2 (OwnI.intA Od_3.out).2.1 (by omega)).mono ?_
    rintro e w4 ⟨rfl, b⟩
    have HB4 := Lib.hid (HB3.out.trans (b.mono HB3.out.size))
    have hs4 := Lib.hid b.size
    have Od_4 := Lib.hid (owni_later Od_3.out b)
    clear b
    have hp := (pOk_iff L).1 ho
    have hu2 : decide (h ∈ L) = u := by rw [← pHas_yes hp]; exact HU.out
    have HP := Lib.hid hp
    clear hp
    go_wp2_with fail
    have HQ := Lib.hid (And.intro HB4.out Od_4.out)
    go_loopw [6, 7] (fun n x wr => ∃ m : Nat, m ≤ 5 ∧ x = .int .i64 ((m : Int) + 1) ∧ n = .int .i64 (cntH L m : Int) ∧ Below w.heap.size w wr ∧ OwnI wr w.heap.size (.slice ad L.length cd) L) (fun _ x _ => 6 - (intOf x).toNat)
    case atStart => exact ⟨0, by omega, by go_num, rfl, HQ.out.1, HQ.out.2⟩
    case round =>
      obtain ⟨m, hm, rfl, rfl, hb, ho2⟩ := hrel
      have HBr := Lib.hid hb
      have HOr := Lib.hid ho2
      have hcl := cntH_le L m
      clear hb ho2
      by_cases hm5 : m < 5
      · have i1 : (m : Int) + 1 ≤ 5 := by omega
        by_cases hx : ((m : Int) + 1) ∈ L
        · have hh : pHas L ((m : Int) + 1) = true := by rw [pHas_yes HP.out]; exact decide_eq_true hx
          have HC : Hid (cntH L (m + 1) = cntH L m + 1) := Lib.hid (by simp only [cntH]; rw [if_pos (by simpa using hx)])
          clear hx
          go_wp2_with fail
          refine (pihas_is hh ad cd _ _ p rfl (by omega) (OwnI.intA HOr.out).2.2 (HE.out.below HBr.out)).mono ?_
          rintro e wz ⟨rfl, b⟩
          have HZ := Lib.hid (And.intro (HBr.out.trans (b.mono HBr.out.size)) (owni_later HOr.out b))
          clear b
          go_wp2_with fail
          go_roundw
          case rel => exact ⟨m + 1, by omega, by go_num, by rw [HC.out] <;> go_num, HZ.out.1, HZ.out.2⟩
          case measure => simp [intOf]; omega
        · have hh : pHas L ((m : Int) + 1) = false := by rw [pHas_yes HP.out]; exact decide_eq_false hx
          have HC : Hid (cntH L (m + 1) = cntH L m) := Lib.hid (by simp only [cntH]; rw [if_neg (by simpa using hx), Nat.add_zero])
          clear hx
          go_wp2_with fail
          refine (pihas_is hh ad cd _ _ p rfl (by omega) (OwnI.intA HOr.out).2.2 (HE.out.below HBr.out)).mono ?_
          rintro e wz ⟨rfl, b⟩
          have HZ := Lib.hid (And.intro (HBr.out.trans (b.mono HBr.out.size)) (owni_later HOr.out b))
          clear b
          go_wp2_with fail
          go_roundw
          case rel => exact ⟨m + 1, by omega, by go_num, by rw [HC.out] <;> go_num, HZ.out.1, HZ.out.2⟩
          case measure => simp [intOf]; omega
      · obtain rfl : m = 5 := by omega
        have hcnt : ((cntH L 5 : Int) == (L.length : Int)) = true := by rw [HP.out.count]; simp
        go_wp2_with fail
        refine (lyIn_is hu2 ad cd _ _ rfl (OwnI.intA HOr.out).2.2 (by omega)).mono ?_
        rintro e wz ⟨rfl, rfl⟩
        go_wp2_with fail
        go_ret
        exact ⟨rfl, HBr.out⟩

end Go.Proofs.YtnabcffpficgcaaDoor
