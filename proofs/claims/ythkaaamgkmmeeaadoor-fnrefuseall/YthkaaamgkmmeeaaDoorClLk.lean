/-
  The law that what is refused is none of what is taken: the walk.
-/
import Derived.Test.YthkaaamgkmmeeaaDoorClPc
import Derived.Test.YthkaaamgkmmeeaaDoorClLl
namespace Go.Proofs.YthkaaamgkmmeeaaDoor
open Go.RowKit
set_option linter.unusedSimpArgs false
set_option linter.unusedVariables false

theorem ownrs_rsa {Lp : List CL} {l : List Rt} {w w' : World} {LA : List RV} {a : Option Addr} {n c : Nat} (h : PaI w LA (.slice a n c) w') (hk : LA.map RV.rt = polAll Lp l) : RsA w' a LA :=
  OwnV.rsa h.row (fun x hx => by
    have g := polAll_good Lp l x.rt (by rw [← hk]; exact List.mem_map_of_mem hx)
    have h1 : x.P.length ≤ 5 := g.path.len
    have h2 : x.M.length ≤ 9 := g.marks.len
    exact (h.own x hx).m (by omega) (by omega))
theorem polAll_ref (l : List Rt) : polAll [⟨1, 0, 0, 0, true, 0, 0, 0⟩] l = [] := by
  unfold polAll
  split
  · simp [takeC, firstC, fitsC, applyC]
  · rfl
theorem polAll_all {l : List Rt} (hl : ∀ r ∈ l, rtOk r = true) : polAll [⟨1, 0, 0, 0, false, -1, 0, 0⟩] l = l := by
  rw [polAll_yes (by decide) hl]
  simp [takeC, firstC, fitsC, applyC, makeC, likeC, markC, clearC]
theorem cs_lit (w : World) (c : CL) : CsA (w.alloc (.cells (clA c) 26)) (some ⟨w.heap.size, 0, none⟩) [c] := OwnC.cs (ownc_one w w.heap.size (Nat.le_refl _) c)
theorem rsa_alloc {w : World} {a : Option Addr} {L : List RV} (h : RsA w a L) (o : Obj) : RsA (w.alloc o) a L := h.below ((Below.refl _ _).alloc (Nat.le_refl _) o)

def DnPB (w : World) (en : Ending) (w' : World) : Prop := ∃ (ap : Option Addr) (cp : Nat) (Lp : List CL) (LR : List RV) (al : Option Addr) (cap : Nat), en = .returned (.tuple #[.slice ap Lp.length cp, .slice al LR.length cap]) ∧ Lp.length ≤ 4 ∧ LR.length ≤ 4 ∧ CsA w' ap Lp ∧ RsA w' al LR ∧ Below w.heap.size w w'
theorem dPA_any (a0 : Option Addr) (len0 cap0 : Nat) (zs0 : List Int) (w : World) (h : IsRow w a0 len0 cap0 zs0) :
    Calls Tryd.prog 29 #[.slice a0 len0 cap0] w (DnPB w) :=
  (dPolicyAll_any a0 len0 cap0 zs0 w h).mono fun en w' ⟨v, Lp, LR, g, cap, e, h1, h2, oc, oR, b⟩ => by
    obtain ⟨ap, cp, rfl, _, _⟩ := OwnC.tab oc
    exact ⟨ap, cp, Lp, LR, _, cap, e, h1, h2, OwnC.cs oc, oR.rsa, b⟩

set_option maxRecDepth 100000 in
set_option maxHeartbeats 1000000 in
theorem lawRefuseAll (a0 : Option Addr) (len0 cap0 : Nat) (zs0 : List Int) (w : World) (h0 : IsRow w a0 len0 cap0 zs0) (p : Addr) (hE : EV w p) (_ : True) :
    Calls Tryd.prog 10 #[.slice a0 len0 cap0] w fun e w' => e = .returned (.bool true) ∧ Below w.heap.size w w' := by
  have H0 := Lib.hid h0
  have HE := Lib.hid hE
  clear h0 hE
  by_cases hl0 : (1048576 : Int) < (len0 : Int)
  · go_enter Tryd.func10, Tryd.ntmps10
    go_wp2_with fail
    go_ret
    exact ⟨rfl, Below.refl _ _⟩
  go_enter Tryd.func10, Tryd.ntmps10
  go_wp2_with fail
  refine (dPA_any a0 len0 cap0 zs0 _ H0.out).mono ?_
  rintro en w1 ⟨ap, cp, Lp, LR, al, cap, rfl, hlp, hlr, hC, hR, b1⟩
  have HB1 := Lib.hid b1
  have HC1 := Lib.hid hC
  have HR1 := Lib.hid hR
  clear hC hR b1
  obtain ⟨U, hU⟩ : ∃ U, polAll Lp (LR.map RV.rt) = U := ⟨_, rfl⟩
  have hUl : U.length ≤ LR.length := by rw [← hU]; have := polAll_len Lp (LR.map RV.rt); simpa using this
  have HU := Lib.hid hU
  clear hU
  go_wp2_with fail
  refine (ipolall_is Lp ap _ cp LR al _ cap HU.out _ p rfl HC1.out (by omega) rfl HR1.out (by omega) (HE.out.below HB1.out)).mono ?_
  rintro en w2 ⟨v2, LA, rfl, hA, hAU⟩
  obtain ⟨aa, ca, rfl, _⟩ := hA.row.tab
  have HB2 := Lib.hid (next HB1.out hA.bel)
  have HC2 := Lib.hid (HC1.out.below hA.bel)
  have HR2 := Lib.hid (HR1.out.below hA.bel)
  have HA2 := Lib.hid (ownrs_rsa hA (hAU.trans HU.out.symm))
  have HAU := Lib.hid hAU
  have HlA := Lib.hid (show LA.length = U.length by rw [← hAU]; simp)
  clear hA hAU HC1 HR1 HB1
  go_wp2_with fail
  refine (spolall_is Lp ap _ cp LR al _ cap HU.out _ rfl HC2.out (by omega) rfl HR2.out (by omega)).mono ?_
  rintro en w3 ⟨v3, LB, rfl, hA, hBU⟩
  obtain ⟨ab, cb, rfl, _⟩ := hA.row.tab
  have HB3 := Lib.hid (next HB2.out hA.bel)
  have HC3 := Lib.hid (HC2.out.below hA.bel)
  have HR3 := Lib.hid (HR2.out.below hA.bel)
  have HA3 := Lib.hid (HA2.out.below hA.bel)
  have HX3 := Lib.hid (ownrs_rsa hA (hBU.trans HU.out.symm))
  have HBU := Lib.hid hBU
  clear hA hBU HC2 HR2 HB2 HA2
  go_wp2_with fail
  refine (lyRs_is LA LB aa ab ca cb LA.length LB.length _ rfl rfl HA3.out HX3.out (HAU.out.trans HBU.out.symm) (by have := HlA.out; omega)).mono ?_
  rintro en w4 ⟨rfl, b⟩
  have HB4 := Lib.hid (next HB3.out b)
  have HC4 := Lib.hid (HC3.out.below b)
  have HR4 := Lib.hid (HR3.out.below b)
  have HA4 := Lib.hid (HA3.out.below b)
  clear b HC3 HR3 HB3 HA3 HX3 HBU
  go_wp2_with fail
  cases hp : polOk Lp with
  | false =>
    refine (spolok_is Lp hp ap cp _ _ rfl HC4.out (by omega)).mono ?_
    rintro en w5 ⟨rfl, b⟩
    have HB5 := Lib.hid (next HB4.out b)
    have HC5 := Lib.hid (HC4.out.below b)
    have HR5 := Lib.hid (HR4.out.below b)
    have HA5 := Lib.hid (HA4.out.below b)
    clear b HC4 HR4 HB4 HA4
    go_wp2_with fail
    refine (spolall_is Lp ap _ cp LR al _ cap HU.out _ rfl HC5.out (by omega) rfl HR5.out (by omega)).mono ?_
    rintro en w6 ⟨v3, LB, rfl, hA, hBU⟩
    obtain ⟨ab, cb, rfl, _⟩ := hA.row.tab
    have HB6 := Lib.hid (next HB5.out hA.bel)
    have HA6 := Lib.hid (HA5.out.below hA.bel)
    have HX6 := Lib.hid (ownrs_rsa hA (hBU.trans HU.out.symm))
    have HBU := Lib.hid hBU
    clear hA hBU HC5 HR5 HB5 HA5
    go_wp2_with fail
    refine (lyRs_is LA LB aa ab ca cb LA.length LB.length _ rfl rfl HA6.out HX6.out (HAU.out.trans HBU.out.symm) (by have := HlA.out; omega)).mono ?_
    rintro en w7 ⟨rfl, b⟩
    have HB7 := Lib.hid (next HB6.out b)
    clear b
    go_wp2_with fail
    go_ret
    exact ⟨rfl, HB7.out⟩
  | true =>
    refine (spolok_is Lp hp ap cp _ _ rfl HC4.out (by omega)).mono ?_
    rintro en w5 ⟨rfl, b⟩
    have HB5 := Lib.hid (next HB4.out b)
    have HR5 := Lib.hid (HR4.out.below b)
    clear b HC4 HR4 HB4 HA4
    go_wp2_with fail
    go_loopw [6] (fun i wr => ∃ k : Nat, k ≤ LR.length ∧ i = .int .i64 k ∧ Hid (∀ (j : Nat) x, j < k → LR[j]? = some x → rtOk x.rt = true) ∧ Hid (Below w5.heap.size w5 wr)) (fun i _ => LR.length - (intOf i).toNat)
    case atStart => exact ⟨0, Nat.zero_le _, rfl, Lib.hid (fun j d hj => by omega), Lib.hid (Below.refl _ _)⟩
    case round =>
      obtain ⟨k, hk, rfl, HN, HL⟩ := hrel
      have HB6 := Lib.hid (next HB5.out HL.out)
      have HR6 := Lib.hid (HR5.out.below HL.out)
      by_cases hlt : k < LR.length
      · obtain ⟨x, hx⟩ : ∃ x, LR[k]? = some x := ⟨_, List.getElem?_eq_getElem hlt⟩
        have HD := Lib.hid hx
        obtain ⟨b3, off3, rfl, ⟨n0, n1, n2, n3, n4⟩, hm⟩ := HR6.out.at hx
        have HM : Hid (RtM _ x.a x.c x.P x.d x.e x.M) := Lib.hid hm
        have i0 : (0 : Int) ≤ (k : Int) := by omega
        have i1 : (k : Int) < (LR.length : Int) := by omega
        clear hx hm
        go_wp2_with fail
        clear n0 n1 n2 n3 n4
        cases hr : rtOk x.rt with
        | false =>
          have HV := Lib.hid (show rtOk (x.f, x.b, x.P, x.l, x.M) = false from hr)
          have hz : U = [] := by rw [← HU.out]; exact polAll_no2 (List.mem_map_of_mem (List.mem_of_getElem? HD.out)) hr
          have e0 : ((LA.length : Int) == 0) = true := by rw [HlA.out, hz]; rfl
          clear hr
          refine (irok_is x.f x.b x.a x.c x.P x.l x.d x.e x.M HV.out _ p HM.out (HE.out.below HB6.out)).mono ?_
          rintro en w7 ⟨rfl, b⟩
          have HB7 := Lib.hid (next HB6.out b)
          clear b
          go_wp2_with fail
          go_ret
          exact ⟨rfl, HB7.out⟩
        | true =>
          have HV := Lib.hid (show rtOk (x.f, x.b, x.P, x.l, x.M) = true from hr)
          have HN2 : Hid (∀ (j : Nat) y, j < k + 1 → LR[j]? = some y → rtOk y.rt = true) := Lib.hid (fun j y hj hy => by
            by_cases e : j = k
            · subst e; rw [HD.out] at hy; cases hy; exact hr
            · exact HN.out j y (by omega) hy)
          clear hr
          refine (irok_is x.f x.b x.a x.c x.P x.l x.d x.e x.M HV.out _ p HM.out (HE.out.below HB6.out)).mono ?_
          rintro en w7 ⟨rfl, b⟩
          have HL7 := Lib.hid (next HL.out b)
          clear b
          go_wp2_with fail
          go_roundw
          case rel => exact ⟨k + 1, by omega, by go_num, HN2, HL7⟩
          case measure => simp [intOf]; omega
      · obtain rfl : k = LR.length := by omega
        have hall : ∀ r ∈ LR.map RV.rt, rtOk r = true := fun r hr => by
          obtain ⟨x, hx, rfl⟩ := List.mem_map.1 hr
          obtain ⟨j, hj⟩ := List.mem_iff_getElem?.1 hx
          exact HN.out j x (List.getElem?_eq_some_iff.1 hj).1 hj
        have HALL := Lib.hid hall
        clear hall HN HL
        have HB7 := Lib.hid (HB6.out.alloc HB6.out.size (.cells #[.int .i64 1, .int .i64 0, .int .i64 0, .int .i64 0, .bool true, .int .i64 0, .int .i64 0, .int .i64 0] 26))
        have HR7 := Lib.hid (rsa_alloc HR6.out (.cells #[.int .i64 1, .int .i64 0, .int .i64 0, .int .i64 0, .bool true, .int .i64 0, .int .i64 0, .int .i64 0] 26))
        have HC7 : Hid (CsA (wr.alloc (.cells #[.int .i64 1, .int .i64 0, .int .i64 0, .int .i64 0, .bool true, .int .i64 0, .int .i64 0, .int .i64 0] 26)) (some ⟨wr.heap.size, 0, none⟩) [⟨1, 0, 0, 0, true, 0, 0, 0⟩]) := Lib.hid (cs_lit wr ⟨1, 0, 0, 0, true, 0, 0, 0⟩)
        go_wp2_with fail
        generalize wr.alloc (.cells #[.int .i64 1, .int .i64 0, .int .i64 0, .int .i64 0, .bool true, .int .i64 0, .int .i64 0, .int .i64 0] 26) = w7 at *
        refine (ipolall_is [⟨1, 0, 0, 0, true, 0, 0, 0⟩] (some ⟨wr.heap.size, 0, none⟩) _ 1 LR al _ cap (polAll_ref _) _ p rfl HC7.out (by simp) rfl HR7.out (by omega) (HE.out.below HB7.out)).mono ?_
        rintro en w8 ⟨v2, LN, rfl, hA, hNU⟩
        obtain ⟨an, cn, rfl, _⟩ := hA.row.tab
        have HB8 := Lib.hid (next HB7.out hA.bel)
        have HR8 := Lib.hid (HR7.out.below hA.bel)
        have HN0 := Lib.hid (show LN.length = 0 by have := congrArg List.length hNU; simpa using this)
        clear hA hNU HC7 HR7 HB7
        have HB9 := Lib.hid (HB8.out.alloc HB8.out.size (.cells #[.int .i64 1, .int .i64 0, .int .i64 0, .int .i64 0, .bool false, .int .i64 (-1), .int .i64 0, .int .i64 0] 26))
        have HR9 := Lib.hid (rsa_alloc HR8.out (.cells #[.int .i64 1, .int .i64 0, .int .i64 0, .int .i64 0, .bool false, .int .i64 (-1), .int .i64 0, .int .i64 0] 26))
        have HC9 : Hid (CsA (w8.alloc (.cells #[.int .i64 1, .int .i64 0, .int .i64 0, .int .i64 0, .bool false, .int .i64 (-1), .int .i64 0, .int .i64 0] 26)) (some ⟨w8.heap.size, 0, none⟩) [⟨1, 0, 0, 0, false, -1, 0, 0⟩]) := Lib.hid (cs_lit w8 ⟨1, 0, 0, 0, false, -1, 0, 0⟩)
        go_wp2_with fail
        generalize w8.alloc (.cells #[.int .i64 1, .int .i64 0, .int .i64 0, .int .i64 0, .bool false, .int .i64 (-1), .int .i64 0, .int .i64 0] 26) = w9 at *
        refine (ipolall_is [⟨1, 0, 0, 0, false, -1, 0, 0⟩] (some ⟨w8.heap.size, 0, none⟩) _ 1 LR al _ cap (polAll_all HALL.out) _ p rfl HC9.out (by simp) rfl HR9.out (by omega) (HE.out.below HB9.out)).mono ?_
        rintro en w10 ⟨v2, LD, rfl, hA, hDU⟩
        obtain ⟨ad, cd, rfl, _⟩ := hA.row.tab
        have HB10 := Lib.hid (next HB9.out hA.bel)
        have HR10 := Lib.hid (HR9.out.below hA.bel)
        have HD10 := Lib.hid (ownrs_rsa hA (hDU.trans (polAll_all HALL.out).symm))
        have HDU := Lib.hid hDU
        have HlD := Lib.hid (show LD.length = LR.length by have := congrArg List.length hDU; simpa using this)
        clear hA hDU HC9 HR9 HB9
        have le1 : (LA.length : Int) ≤ (LR.length : Int) := by have := HlA.out; omega
        have e0 : ((LN.length : Int) == 0) = true := by rw [HN0.out]; rfl
        go_wp2_with fail
        refine (lyRs_is LD LR ad al cd cap LD.length LR.length _ rfl rfl HD10.out HR10.out HDU.out (by have := HlD.out; omega)).mono ?_
        rintro en w11 ⟨rfl, b⟩
        have HB11 := Lib.hid (next HB10.out b)
        clear b
        go_wp2_with fail
        go_ret
        exact ⟨rfl, HB11.out⟩

end Go.Proofs.YthkaaamgkmmeeaaDoor
