/-
  The text of a route, as the model and as the program write it.
-/
import Derived.Test.YtfjfcdifnfffbaaDoorRtSpec
import Derived.Test.YtfjfcdifnfffbaaDoorRtMs
import Derived.Test.YtfjfcdifnfffbaaDoorDoorB
import Derived.Test.YtfjfcdifnfffbaaDoorPText
import Derived.Shelf.Strings.BuilderF
namespace Go.Proofs.YtfjfcdifnfffbaaDoor
open Go.RowKit
set_option linter.unusedSimpArgs false
set_option linter.unusedVariables false

/-- the marks of a route, as they are written; what is written ahead of them; the text -/
def mks (M : List Int) : List UInt8 := M.map dgt
def rhead (r : Rt) : ByteArray := txt r.1 r.2.1 ++ ⟨#[32]⟩ ++ ptext r.2.2.1 ++ ⟨#[32]⟩ ++ dg r.2.2.2.1 ++ ⟨#[32, 109]⟩
def rtt (r : Rt) : ByteArray := if rtOk r = true then rhead r ++ ⟨(mks r.2.2.2.2).toArray⟩ else ⟨#[]⟩
theorem digit_one {x : Int} (h0 : 0 ≤ x) (h9 : x ≤ 9) : (Lib.decDigits x.toNat).toArray = #[dgt x] := by
  rw [Lib.decDigits, dif_pos (by omega)]
  simp [dgt]
theorem dec_digit (x : Int) (w : World) (h0 : 0 ≤ x) (h9 : x ≤ 9) :
    Calls Tryd.prog 82 #[.int .i64 x] w fun e w' => e = .returned (.string (dg x)) ∧ Below w.heap.size w w' := by
  have := dec_one x.toNat w (by omega)
  rw [Int.toNat_of_nonneg h0, digit_one h0 h9] at this
  exact this
theorem itoa_digit (x : Int) (w : World) (h0 : 0 ≤ x) (h9 : x ≤ 9) :
    Calls Tryd.prog 76 #[.int .i64 x] w fun e w' => e = .returned (.string (dg x)) ∧ w = w' := by
  have := Tryd.strconv_Itoa_small x.toNat (by omega) w
  rw [Int.toNat_of_nonneg h0, digit_one h0 h9] at this
  exact this.mono fun e w' ⟨h1, h2⟩ => ⟨h1, h2.symm⟩
theorem dg_size (x : Int) : (dg x).size = 1 := rfl
theorem mks_snoc (M : List Int) (x : Int) : mks (M ++ [x]) = mks M ++ [dgt x] := by simp [mks]
theorem mks_len (M : List Int) : (mks M).length = M.length := by simp [mks]
theorem mks_take {M : List Int} {k : Nat} {x : Int} (h : M[k]? = some x) : mks (M.take (k + 1)) = mks (M.take k) ++ [dgt x] := by
  rw [List.take_add_one, h]; exact mks_snoc _ _

/-- a builder's bytes; one that stays -/
abbrev Bld (B : Nat) (l : List UInt8) (w : World) : Prop := Lib.IsBuilderF 90 5 B B (Lib.byteCells l) w
theorem bldat_later {T e : TypeId} {B b : Nat} {p : Value} {bs : List Value} {w w' : World} (h : Lib.BuilderAtF T e B b p bs w) (k : Below w.heap.size w w') : Lib.BuilderAtF T e B b p bs w' := by
  have hlt := h.lt
  obtain ⟨hB, v, hb, hown, hne⟩ := h
  exact ⟨hB, v, (k.block b hlt).trans hb, hown.kept (row := none) ⟨k.os, k.tape, k.output, k.size, fun i hi _ => k.block i hi⟩ (by cases hv : v.ownBlock <;> simp), hne⟩
theorem Bld.later {B : Nat} {l : List UInt8} {w w' : World} (h : Bld B l w) (k : Below w.heap.size w w') : Bld B l w' :=
  h.elim (fun x => .inl (bldat_later x k)) (fun x => .inr (bldat_later x k))
theorem bld_write (B : Nat) (l : List UInt8) (x : Int) (w : World) (h : Bld B l w) (hl : l.length ≤ 1000) (hBw : B ≤ w.heap.size) :
    Calls Tryd.prog 75 #[.pointer (some ⟨B, 0, none⟩), .string (dg x)] w fun e w' => e = .returned (.tuple #[.int .i64 1, .nilIface]) ∧ Bld B (l ++ [dgt x]) w' ∧ Below B w w' := by
  refine (Any.Builder_WriteString_f (P := Tryd.prog) (ρ := Tryd.lays156_ren) { Tryd.lays156 with } Tryd.Builder_Extra_156 B B (Lib.byteCells l) (dg x) w h (by rw [Lib.byteCells_length, dg_size]; omega) hBw).mono ?_
  rintro e w' ⟨rfl, h1, h2⟩
  refine ⟨rfl, .inr ?_, h2⟩
  have e1 : Lib.byteCells (l ++ [dgt x]) = Lib.byteCells l ++ Lib.strCells (dg x) := by simp [Lib.byteCells, Lib.strCells, dg]
  rw [e1]
  exact h1
theorem bld_string (B : Nat) (l : List UInt8) (w : World) (h : Bld B l w) (hBw : B ≤ w.heap.size) :
    Calls Tryd.prog 79 #[.pointer (some ⟨B, 0, none⟩)] w fun e w' => e = .returned (.string ⟨l.toArray⟩) ∧ Bld B l w' ∧ Below B w w' :=
  Tryd.Builder_String_any_f B B l w h hBw
theorem cell_far {B : Nat} {w w' : World} (h : Below B w w') {a : Addr} {v : Value} (ha : a.block < B) (hc : w.cell? a = some v) : w'.cell? a = some v := by rw [h.cell ha]; exact hc
theorem At5.bel {B R : Nat} {w w' : World} {x0 x1 x2 x3 x4 : Value} (h : At5 w R x0 x1 x2 x3 x4) (k : Below B w w') (hR : R < B) : At5 w' R x0 x1 x2 x3 x4 :=
  ⟨⟨cell_far k hR h.1.1, cell_far k hR h.1.2.1, cell_far k hR h.1.2.2.1, cell_far k hR h.1.2.2.2.1, cell_far k hR h.1.2.2.2.2⟩,
   by rw [k.frozen (p := ⟨R, 0, none⟩) hR]; exact h.2.1, by rw [k.frozen (p := ⟨R, 1, none⟩) hR]; exact h.2.2.1, by rw [k.frozen (p := ⟨R, 2, none⟩) hR]; exact h.2.2.2.1, by rw [k.frozen (p := ⟨R, 3, none⟩) hR]; exact h.2.2.2.2.1, by rw [k.frozen (p := ⟨R, 4, none⟩) hR]; exact h.2.2.2.2.2⟩

theorem rtt_no {r : Rt} (h : rtOk r = false) : rtt r = ⟨#[]⟩ := by rw [rtt, if_neg (by simp [h])]
theorem rtt_yes {r : Rt} (h : rtOk r = true) : rtt r = rhead r ++ ⟨(mks r.2.2.2.2).toArray⟩ := by rw [rtt, if_pos h]
/-- the pieces of a text, under letters: they fit -/
theorem head_fits {R P : ByteArray} (hR : R.size ≤ 43) (hP : P.size ≤ 9) : (¬ 9223372036854775807 < R.size + 1 ∧ ¬ 9223372036854775807 < R.size + 1 + P.size) ∧ ¬ 9223372036854775807 < R.size + 1 + P.size + 1 ∧ ¬ 9223372036854775807 < R.size + 1 + P.size + 1 + 1 ∧ ¬ 9223372036854775807 < R.size + 1 + P.size + 1 + 1 + 2 := by omega
theorem txt_size {f b : Int} (h : okB f b = true) : (txt f b).size ≤ 43 := by
  obtain ⟨f0, f1, b0, b8⟩ := okB_in h
  have := dig_size f0 (by omega); have := dig_size b0 (by omega)
  unfold txt
  rw [ByteArray.size_append, ByteArray.size_append]
  show (dig f).size + 1 + (dig b).size ≤ 43
  omega

set_option maxRecDepth 100000 in
set_option maxHeartbeats 4000000 in
theorem irtt_is (f b : Int) (a : Option Addr) (c : Nat) (P : List Int) (l : Int) (d : Option Addr) (e : Nat) (M : List Int) {s : ByteArray} (k : rtt (f, b, P, l, M) = s) (w : World) (p : Addr) (hm : RtM w a c P d e M) (hE : EV w p) (ht : Pow w) :
    Calls Tryd.prog 38 #[.agg #[.int .i64 f, .int .i64 b, .slice a P.length c, .int .i64 l, .slice d M.length e]] w fun en w' => en = .returned (.string s) ∧ Below w.heap.size w w' := by
  have HB := Lib.hid ((Below.refl w.heap.size w).alloc (Nat.le_refl _) (.cells #[.int .i64 f, .int .i64 b, .slice a P.length c, .int .i64 l, .slice d M.length e] 27))
  have HMA := Lib.hid (hm.alloc (.cells #[.int .i64 f, .int .i64 b, .slice a P.length c, .int .i64 l, .slice d M.length e] 27))
  have HEA := Lib.hid (hE.alloc (.cells #[.int .i64 f, .int .i64 b, .slice a P.length c, .int .i64 l, .slice d M.length e] 27))
  have HA := Lib.hid (At5.new w (.int .i64 f) (.int .i64 b) (.slice a P.length c) (.int .i64 l) (.slice d M.length e) 27)
  have HM := Lib.hid hm
  have HE := Lib.hid hE
  have HT := Lib.hid ht
  clear hm hE ht
  cases ho : rtOk (f, b, P, l, M) with
  | false =>
    have HR := Lib.hid (show (⟨#[]⟩ : ByteArray) = s by rw [← k, rtt_no ho])
    clear k
    go_enter Tryd.func38, Tryd.ntmps38
    go_wp2_with fail
    refine (riok_is f b a c P l d e M ho _ p HMA.out HEA.out).mono ?_
    rintro en w1 ⟨rfl, b1⟩
    have HB1 := Lib.hid (next HB.out b1)
    clear b1
    go_wp2_with fail
    go_ret
    exact ⟨by rw [← HR.out]; rfl, HB1.out⟩
  | true =>
    have hg := (rtOk_iff _).1 ho
    have hR := txt_size hg.ran
    have hP := ptext_size hg.path
    have hml := hg.marks.len
    have hpl := hg.path.len
    dsimp only at hR hP hml hpl
    have HK := Lib.hid (show txt f b ++ ⟨#[32]⟩ ++ ptext P ++ ⟨#[32]⟩ ++ dg l ++ ⟨#[32, 109]⟩ ++ ⟨(mks M).toArray⟩ = s by rw [← k, rtt_yes ho]; rfl)
    have hl9 : 0 ≤ l ∧ l ≤ 9 := hg.like
    have HMK : Hid (∀ m ∈ M, 1 ≤ m ∧ m ≤ 9) := Lib.hid hg.marks.1
    have hRT : ∀ W : World, Pow W → Calls Tryd.prog 77 #[.agg #[.int .i64 f, .int .i64 b]] W fun e w' => e = .returned (.string (txt f b)) ∧ Below W.heap.size W w' := fun W h => by
      have := itext_any f b W h
      rwa [rtext, if_pos hg.ran] at this
    have hPT : ∀ W : World, IntA W a P → EV W p → Calls Tryd.prog 78 #[.slice a P.length c] W fun e w' => e = .returned (.string (ptext P)) ∧ Below W.heap.size W w' := fun W h1 h2 => itext_is rfl a c P.length W p rfl (by omega) h1 h2
    generalize txt f b = sR at *
    generalize ptext P = sP at *
    have HRT := Lib.hid hRT
    have HPT := Lib.hid hPT
    have hLs := dg_size l
    obtain ⟨sL, hsL⟩ : ∃ x, dg l = x := ⟨_, rfl⟩
    rw [hsL] at hLs
    have HL := Lib.hid hsL
    clear hRT hPT hg k hsL
    obtain ⟨⟨f1, f2⟩, f3, f4, f5⟩ := head_fits hR hP
    have f4' : ¬ 9223372036854775807 < sR.size + 1 + sP.size + 1 + sL.size := by omega
    have f5' : ¬ 9223372036854775807 < sR.size + 1 + sP.size + 1 + sL.size + 2 := by omega
    have f6 : ¬ 9223372036854775807 < sR.size + 1 + sP.size + 1 + sL.size + 2 + M.length := by omega
    go_enter Tryd.func38, Tryd.ntmps38
    go_wp2_with fail
    refine (riok_is f b a c P l d e M ho _ p HMA.out HEA.out).mono ?_
    rintro en w1 ⟨rfl, b1⟩
    have HB1 := Lib.hid (next HB.out b1)
    have HA1 := Lib.hid (HA.out.below b1)
    have hs1 := HA1.out.lt
    clear b1 ho HB HA HMA HEA
    have HB2 := Lib.hid (HB1.out.alloc HB1.out.size (.cells #[.pointer none, .slice none 0 0] 90))
    have HA2 := Lib.hid (HA1.out.alloc (.cells #[.pointer none, .slice none 0 0] 90))
    have HD2 : Hid (Bld w1.heap.size [] (w1.alloc (.cells #[.pointer none, .slice none 0 0] 90))) := Lib.hid (Lib.IsBuilderF.of (Lib.fresh_isBuilder _ _ w1))
    have HS2 : Hid (w1.heap.size ≤ (w1.alloc (.cells #[.pointer none, .slice none 0 0] 90)).heap.size) := Lib.hid (by simp)
    obtain ⟨⟨q0, q1, q2, q3, q4⟩, _⟩ := HA1.out
    have qne : ¬ w.heap.size = w1.heap.size := by omega
    have qnf : ¬ w1.heap.size = w.heap.size := by omega
    go_wp2_with fail
    clear q0 q1 q2 q3 q4 HB1 HA1 qne qnf
    generalize w1.alloc (.cells #[.pointer none, .slice none 0 0] 90) = w2 at *
    generalize w1.heap.size = B at *
    go_loopw [12] (fun i wr => ∃ k : Nat, k ≤ M.length ∧ i = .int .i64 k ∧ Hid (Bld B (mks (M.take k)) wr) ∧ Hid (At5 wr w.heap.size (.int .i64 f) (.int .i64 b) (.slice a P.length c) (.int .i64 l) (.slice d M.length e)) ∧ Hid (Below w.heap.size w wr) ∧ Hid (B ≤ wr.heap.size)) (fun i _ => M.length - (intOf i).toNat)
    case atStart => exact ⟨0, Nat.zero_le _, rfl, HD2, HA2, HB2, HS2⟩
    case round =>
      clear HD2 HA2 HB2 HS2
      obtain ⟨k, hk, rfl, HD2, HA2, HB2, HS2⟩ := hrel
      by_cases hlt : k < M.length
      · obtain ⟨b1, off1, x, rfl, hLk, c0⟩ := (HM.out.below HB2.out).1.2.at hlt
        have i0 : (0 : Int) ≤ (k : Int) := by omega
        have i1 : (k : Int) < (M.length : Int) := by omega
        have hx := HMK.out x (List.mem_of_getElem? hLk)
        have hkl : (mks (M.take k)).length ≤ 1000 := by rw [mks_len, List.length_take]; omega
        have HN := Lib.hid (mks_take hLk)
        clear hLk
        go_wp2_with fail
        refine (itoa_digit x _ (by omega) hx.2).mono ?_
        rintro en w3 ⟨rfl, rfl⟩
        clear c0
        go_wp2_with fail
        refine (bld_write B _ x _ HD2.out hkl HS2.out).mono ?_
        rintro en w4 ⟨rfl, h1, h2⟩
        have HD4 := Lib.hid h1
        have HA4 := Lib.hid (HA2.out.bel h2 hs1)
        have HB4 := Lib.hid (HB2.out.trans (h2.mono (by omega)))
        have HS4 := Lib.hid (Nat.le_trans HS2.out h2.size)
        clear h1 h2 HD2 HA2 HB2 HS2
        go_wp2_with fail
        go_roundw
        case rel => exact ⟨k + 1, by omega, by go_num, Lib.hid (by rw [HN.out]; exact HD4.out), HA4, HB4, HS4⟩
        case measure => simp [intOf]; omega
      · obtain rfl : k = M.length := by omega
        have HD3 : Hid (Bld B (mks M) _) := Lib.hid (by have := HD2.out; rw [List.take_length] at this; exact this)
        have hms := mks_len M
        obtain ⟨sM, hsM⟩ : ∃ x : ByteArray, ⟨(mks M).toArray⟩ = x := ⟨_, rfl⟩
        have hsz : sM.size = M.length := by rw [← hsM]; show (mks M).toArray.size = M.length; simp [mks]
        have f6' : ¬ 9223372036854775807 < sR.size + 1 + sP.size + 1 + sL.size + 2 + sM.size := by omega
        have f7 : ¬ 9223372036854775807 < sR.size + 1 + sP.size + 1 + 1 + 2 + M.length := by omega
        have HSM := Lib.hid hsM
        clear HD2 hsM hms
        go_wp2_with fail
        refine wp_region_held_drew (S := fun W => (W.cell? ⟨w.heap.size, 0, none⟩ = some (.int .i64 f) ∧ W.cell? ⟨w.heap.size, 1, none⟩ = some (.int .i64 b) ∧ W.cell? ⟨w.heap.size, 2, none⟩ = some (.slice a P.length c) ∧ W.cell? ⟨w.heap.size, 3, none⟩ = some (.int .i64 l)) ∧ Hid (Bld B (mks M) W ∧ Below w.heap.size w W ∧ B ≤ W.heap.size)) (by kernel_rfl) ?_ (fun hHeld => ?_)
        · exact ⟨⟨HA2.out.1.1, HA2.out.1.2.1, HA2.out.1.2.2.1, HA2.out.1.2.2.2.1⟩, Lib.hid ⟨HD3.out, HB2.out.drew, HS2.out⟩⟩
        refine takeH (i := 0) (v := ?_) rfl rfl (by kernel_rfl) (by kernel_rfl) (by kernel_rfl) (fun _ _ _ h => h) (by rfl) ?_ (by assumption) ?_
        rotate_left 1
        · intro w hSw
          (try dsimp only at hSw)
          go_simp
          try with_reducible rfl
        try simp only [List.setIfInBounds_toArray, List.set_cons_zero, List.set_cons_succ]
        refine takeH (i := 1) (v := ?_) rfl rfl (by kernel_rfl) (by kernel_rfl) (by kernel_rfl) (fun _ _ _ h => h) (by rfl) ?_ (by assumption) ?_
        rotate_left 1
        · intro w hSw
          (try dsimp only at hSw)
          go_simp
          try with_reducible rfl
        try simp only [List.setIfInBounds_toArray, List.set_cons_zero, List.set_cons_succ]
        refine takeH (i := 4) (v := ?_) rfl rfl (by kernel_rfl) (by kernel_rfl) (by kernel_rfl) (fun _ _ _ h => h) (by rfl) ?_ (by assumption) ?_
        rotate_left 1
        · intro w hSw
          (try dsimp only at hSw)
          go_simp
          try with_reducible rfl
        try simp only [List.setIfInBounds_toArray, List.set_cons_zero, List.set_cons_succ]
        refine takeH (i := 5) (v := ?_) rfl rfl (by kernel_rfl) (by kernel_rfl) (by kernel_rfl) (fun _ _ _ h => h) (by rfl) ?_ (by assumption) ?_
        rotate_left 1
        · intro w hSw
          (try dsimp only at hSw)
          go_simp
          try with_reducible rfl
        try simp only [List.setIfInBounds_toArray, List.set_cons_zero, List.set_cons_succ]
        refine takeH (i := 9) (v := ?_) rfl rfl (by kernel_rfl) (by kernel_rfl) (by kernel_rfl) (fun _ _ _ h => h) (by rfl) ?_ (by assumption) ?_
        rotate_left 1
        · intro w hSw
          (try dsimp only at hSw)
          go_simp
          try with_reducible rfl
        try simp only [List.setIfInBounds_toArray, List.set_cons_zero, List.set_cons_succ]
        refine takeH (i := 10) (v := ?_) rfl rfl (by kernel_rfl) (by kernel_rfl) (by kernel_rfl) (fun _ _ _ h => h) (by rfl) ?_ (by assumption) ?_
        rotate_left 1
        · intro w hSw
          (try dsimp only at hSw)
          go_simp
          try with_reducible rfl
        try simp only [List.setIfInBounds_toArray, List.set_cons_zero, List.set_cons_succ]
        refine wpAnyH_ready (rs := [2]) (by kernel_rfl) (by simp) ?_
        refine AllReadyH.cons rfl (fun K hK => ?_) (AllReadyH.nil)
        go_simp
        refine (HRT.out _ (HT.out.on hHeld.2.out.2.1 (Nat.le_refl _))).mono ?_
        rintro en w5 ⟨rfl, b5⟩
        go_wp2_with fail
        refine hK.out _ _ ?_ (fun hNew => ?_)
        · exact ⟨⟨cell_later b5 hHeld.1.1, cell_later b5 hHeld.1.2.1, cell_later b5 hHeld.1.2.2.1, cell_later b5 hHeld.1.2.2.2⟩, Lib.hid ⟨Bld.later hHeld.2.out.1 b5, next hHeld.2.out.2.1 b5, Nat.le_trans hHeld.2.out.2.2 b5.size⟩⟩
        clear hK K hHeld
        have hHeld := hNew
        clear hNew
        try simp only [Act.put, List.setIfInBounds_toArray, List.set_cons_zero, List.set_cons_succ]
        refine takeH (i := 3) (v := ?_) rfl rfl (by kernel_rfl) (by kernel_rfl) (by kernel_rfl) (fun _ _ _ h => h) (by rfl) ?_ (by assumption) ?_
        rotate_left 1
        · intro w hSw
          (try dsimp only at hSw)
          go_simp
          try with_reducible rfl
        try simp only [List.setIfInBounds_toArray, List.set_cons_zero, List.set_cons_succ]
        refine wpAnyH_ready (rs := [6]) (by kernel_rfl) (by simp) ?_
        refine AllReadyH.cons rfl (fun K hK => ?_) (AllReadyH.nil)
        go_simp
        refine (HPT.out _ (HM.out.below hHeld.2.out.2.1).1.1 (HE.out.below hHeld.2.out.2.1)).mono ?_
        rintro en w6 ⟨rfl, b6⟩
        go_wp2_with fail
        refine hK.out _ _ ?_ (fun hNew => ?_)
        · exact ⟨⟨cell_later b6 hHeld.1.1, cell_later b6 hHeld.1.2.1, cell_later b6 hHeld.1.2.2.1, cell_later b6 hHeld.1.2.2.2⟩, Lib.hid ⟨Bld.later hHeld.2.out.1 b6, next hHeld.2.out.2.1 b6, Nat.le_trans hHeld.2.out.2.2 b6.size⟩⟩
        clear hK K hHeld
        have hHeld := hNew
        clear hNew
        try simp only [Act.put, List.setIfInBounds_toArray, List.set_cons_zero, List.set_cons_succ]
        refine takeH (i := 7) (v := ?_) rfl rfl (by kernel_rfl) (by kernel_rfl) (by kernel_rfl) (fun _ _ _ h => h) (by rfl) ?_ (by assumption) ?_
        rotate_left 1
        · intro w hSw
          (try dsimp only at hSw)
          go_simp
          try with_reducible rfl
        try simp only [List.setIfInBounds_toArray, List.set_cons_zero, List.set_cons_succ]
        refine takeH (i := 8) (v := ?_) rfl rfl (by kernel_rfl) (by kernel_rfl) (by kernel_rfl) (fun _ _ _ h => h) (by rfl) ?_ (by assumption) ?_
        rotate_left 1
        · intro w hSw
          (try dsimp only at hSw)
          go_simp
          try with_reducible rfl
        try simp only [List.setIfInBounds_toArray, List.set_cons_zero, List.set_cons_succ]
        refine wpAnyH_ready (rs := [11]) (by kernel_rfl) (by simp) ?_
        refine AllReadyH.cons rfl (fun K hK => ?_) (AllReadyH.nil)
        go_simp
        refine (itoa_digit l _ hl9.1 hl9.2).mono ?_
        rintro en w7 ⟨rfl, rfl⟩
        rw [HL.out]
        go_wp2_with fail
        refine hK.out _ _ ?_ (fun hNew => ?_)
        · exact hHeld
        clear hK K hHeld
        have hHeld := hNew
        clear hNew
        try simp only [Act.put, List.setIfInBounds_toArray, List.set_cons_zero, List.set_cons_succ]
        refine takeH (i := 12) (v := ?_) rfl rfl (by kernel_rfl) (by kernel_rfl) (by kernel_rfl) (fun _ _ _ h => h) (by rfl) ?_ (by assumption) ?_
        rotate_left 1
        · intro w hSw
          (try dsimp only at hSw)
          go_simp
          try with_reducible rfl
        try simp only [List.setIfInBounds_toArray, List.set_cons_zero, List.set_cons_succ]
        refine takeH (i := 13) (v := ?_) rfl rfl (by kernel_rfl) (by kernel_rfl) (by kernel_rfl) (fun _ _ _ h => h) (by rfl) ?_ (by assumption) ?_
        rotate_left 1
        · intro w hSw
          (try dsimp only at hSw)
          go_simp
          try with_reducible rfl
        try simp only [List.setIfInBounds_toArray, List.set_cons_zero, List.set_cons_succ]
        refine wpAnyH_ready (rs := [14]) (by kernel_rfl) (by simp) ?_
        refine AllReadyH.cons rfl (fun K hK => ?_) (AllReadyH.nil)
        go_simp
        refine (bld_string B _ _ hHeld.2.out.1 hHeld.2.out.2.2).mono ?_
        rintro en w8 ⟨rfl, d8, b8⟩
        rw [HSM.out]
        go_wp2_with fail
        refine hK.out _ _ ?_ (fun hNew => ?_)
        · exact ⟨⟨cell_far b8 hs1 hHeld.1.1, cell_far b8 hs1 hHeld.1.2.1, cell_far b8 hs1 hHeld.1.2.2.1, cell_far b8 hs1 hHeld.1.2.2.2⟩, Lib.hid ⟨d8, hHeld.2.out.2.1.trans (b8.mono (by omega)), Nat.le_trans hHeld.2.out.2.2 b8.size⟩⟩
        clear hK K hHeld
        have hHeld := hNew
        clear hNew
        try simp only [Act.put, List.setIfInBounds_toArray, List.set_cons_zero, List.set_cons_succ]
        refine takeH (i := 15) (v := ?_) rfl rfl (by kernel_rfl) (by kernel_rfl) (by kernel_rfl) (fun _ _ _ h => h) (by rfl) ?_ (by assumption) ?_
        rotate_left 1
        · intro w hSw
          (try dsimp only at hSw)
          go_simp
          try with_reducible rfl
        try simp only [List.setIfInBounds_toArray, List.set_cons_zero, List.set_cons_succ]
        refine takeH (i := 16) (v := ?_) rfl rfl (by kernel_rfl) (by kernel_rfl) (by kernel_rfl) (fun _ _ _ h => h) (by rfl) ?_ (by assumption) ?_
        rotate_left 1
        · intro w hSw
          (try dsimp only at hSw)
          go_simp
          try with_reducible rfl
        try simp only [List.setIfInBounds_toArray, List.set_cons_zero, List.set_cons_succ]
        refine wpAnyH_done (by kernel_rfl) ?_ _
        go_wp2_with fail
        go_ret
        exact ⟨by rw [← HK.out, HSM.out, HL.out]; rfl, hHeld.2.out.2.1⟩

set_option maxRecDepth 100000 in
set_option maxHeartbeats 4000000 in
theorem srtt_is (f b : Int) (a : Option Addr) (c : Nat) (P : List Int) (l : Int) (d : Option Addr) (e : Nat) (M : List Int) {s : ByteArray} (k : rtt (f, b, P, l, M) = s) (w : World) (hm : RtM w a c P d e M) :
    Calls Tryd.prog 39 #[.agg #[.int .i64 f, .int .i64 b, .slice a P.length c, .int .i64 l, .slice d M.length e]] w fun en w' => en = .returned (.string s) ∧ Below w.heap.size w w' := by
  have HB := Lib.hid ((Below.refl w.heap.size w).alloc (Nat.le_refl _) (.cells #[.int .i64 f, .int .i64 b, .slice a P.length c, .int .i64 l, .slice d M.length e] 27))
  have HMA := Lib.hid (hm.alloc (.cells #[.int .i64 f, .int .i64 b, .slice a P.length c, .int .i64 l, .slice d M.length e] 27))
  have HA := Lib.hid (At5.new w (.int .i64 f) (.int .i64 b) (.slice a P.length c) (.int .i64 l) (.slice d M.length e) 27)
  have HM := Lib.hid hm
  have hPc := hm.2.1
  clear hm
  cases ho : rtOk (f, b, P, l, M) with
  | false =>
    have HR := Lib.hid (show (⟨#[]⟩ : ByteArray) = s by rw [← k, rtt_no ho])
    clear k
    go_enter Tryd.func39, Tryd.ntmps39
    go_wp2_with fail
    refine (srok_is f b a c P l d e M ho _ HMA.out).mono ?_
    rintro en w1 ⟨rfl, b1⟩
    have HB1 := Lib.hid (next HB.out b1)
    clear b1
    go_wp2_with fail
    go_ret
    exact ⟨by rw [← HR.out]; rfl, HB1.out⟩
  | true =>
    have hg := (rtOk_iff _).1 ho
    have hR := txt_size hg.ran
    have hP := ptext_size hg.path
    have hml := hg.marks.len
    have hpl := hg.path.len
    dsimp only at hR hP hml hpl
    obtain ⟨f0, f1, b0, b8⟩ := okB_in hg.ran
    have HK := Lib.hid (show txt f b ++ ⟨#[32]⟩ ++ ptext P ++ ⟨#[32]⟩ ++ dg l ++ ⟨#[32, 109]⟩ ++ ⟨(mks M).toArray⟩ = s by rw [← k, rtt_yes ho]; rfl)
    have hl9 : 0 ≤ l ∧ l ≤ 9 := hg.like
    have HMK : Hid (∀ m ∈ M, 1 ≤ m ∧ m ≤ 9) := Lib.hid hg.marks.1
    have hRT : ∀ W : World, Calls Tryd.prog 80 #[.agg #[.int .i64 f, .int .i64 b]] W fun e w' => e = .returned (.string (txt f b)) ∧ Below W.heap.size W w' := fun W => l1text f b W f0 f1 b0 b8
    have hPT : ∀ W : World, IntA W a P → Calls Tryd.prog 81 #[.slice a P.length c] W fun e w' => e = .returned (.string (ptext P)) ∧ Below W.heap.size W w' := fun W h1 => stext_is rfl a c P.length W rfl h1 hPc (by omega)
    generalize txt f b = sR at *
    generalize ptext P = sP at *
    have HRT := Lib.hid hRT
    have HPT := Lib.hid hPT
    have hLs := dg_size l
    obtain ⟨sL, hsL⟩ : ∃ x, dg l = x := ⟨_, rfl⟩
    rw [hsL] at hLs
    have HL := Lib.hid hsL
    clear hRT hPT hg k hsL f0 f1 b0 b8
    obtain ⟨⟨f1, f2⟩, f3, f4, f5⟩ := head_fits hR hP
    have f4' : ¬ 9223372036854775807 < sR.size + 1 + sP.size + 1 + sL.size := by omega
    have f5' : ¬ 9223372036854775807 < sR.size + 1 + sP.size + 1 + sL.size + 2 := by omega
    go_enter Tryd.func39, Tryd.ntmps39
    go_wp2_with fail
    refine (srok_is f b a c P l d e M ho _ HMA.out).mono ?_
    rintro en w1 ⟨rfl, b1⟩
    have HB1 := Lib.hid (next HB.out b1)
    have HA1 := Lib.hid (HA.out.below b1)
    clear b1 ho HB HA HMA
    go_wp2_with fail
    refine wp_region_held_drew (S := fun W => (W.cell? ⟨w.heap.size, 0, none⟩ = some (.int .i64 f) ∧ W.cell? ⟨w.heap.size, 1, none⟩ = some (.int .i64 b) ∧ W.cell? ⟨w.heap.size, 2, none⟩ = some (.slice a P.length c) ∧ W.cell? ⟨w.heap.size, 3, none⟩ = some (.int .i64 l)) ∧ Hid (At5 W w.heap.size (.int .i64 f) (.int .i64 b) (.slice a P.length c) (.int .i64 l) (.slice d M.length e) ∧ Below w.heap.size w W)) (by kernel_rfl) ?_ (fun hHeld => ?_)
    · exact ⟨⟨HA1.out.1.1, HA1.out.1.2.1, HA1.out.1.2.2.1, HA1.out.1.2.2.2.1⟩, Lib.hid ⟨HA1.out.drew, HB1.out.drew⟩⟩
    refine takeH (i := 0) (v := ?_) rfl rfl (by kernel_rfl) (by kernel_rfl) (by kernel_rfl) (fun _ _ _ h => h) (by rfl) ?_ (by assumption) ?_
    rotate_left 1
    · intro w hSw
      (try dsimp only at hSw)
      go_simp
      try with_reducible rfl
    try simp only [List.setIfInBounds_toArray, List.set_cons_zero, List.set_cons_succ]
    refine takeH (i := 1) (v := ?_) rfl rfl (by kernel_rfl) (by kernel_rfl) (by kernel_rfl) (fun _ _ _ h => h) (by rfl) ?_ (by assumption) ?_
    rotate_left 1
    · intro w hSw
      (try dsimp only at hSw)
      go_simp
      try with_reducible rfl
    try simp only [List.setIfInBounds_toArray, List.set_cons_zero, List.set_cons_succ]
    refine takeH (i := 4) (v := ?_) rfl rfl (by kernel_rfl) (by kernel_rfl) (by kernel_rfl) (fun _ _ _ h => h) (by rfl) ?_ (by assumption) ?_
    rotate_left 1
    · intro w hSw
      (try dsimp only at hSw)
      go_simp
      try with_reducible rfl
    try simp only [List.setIfInBounds_toArray, List.set_cons_zero, List.set_cons_succ]
    refine takeH (i := 5) (v := ?_) rfl rfl (by kernel_rfl) (by kernel_rfl) (by kernel_rfl) (fun _ _ _ h => h) (by rfl) ?_ (by assumption) ?_
    rotate_left 1
    · intro w hSw
      (try dsimp only at hSw)
      go_simp
      try with_reducible rfl
    try simp only [List.setIfInBounds_toArray, List.set_cons_zero, List.set_cons_succ]
    refine takeH (i := 9) (v := ?_) rfl rfl (by kernel_rfl) (by kernel_rfl) (by kernel_rfl) (fun _ _ _ h => h) (by rfl) ?_ (by assumption) ?_
    rotate_left 1
    · intro w hSw
      (try dsimp only at hSw)
      go_simp
      try with_reducible rfl
    try simp only [List.setIfInBounds_toArray, List.set_cons_zero, List.set_cons_succ]
    refine takeH (i := 10) (v := ?_) rfl rfl (by kernel_rfl) (by kernel_rfl) (by kernel_rfl) (fun _ _ _ h => h) (by rfl) ?_ (by assumption) ?_
    rotate_left 1
    · intro w hSw
      (try dsimp only at hSw)
      go_simp
      try with_reducible rfl
    try simp only [List.setIfInBounds_toArray, List.set_cons_zero, List.set_cons_succ]
    refine wpAnyH_ready (rs := [2]) (by kernel_rfl) (by simp) ?_
    refine AllReadyH.cons rfl (fun K hK => ?_) (AllReadyH.nil)
    go_simp
    refine (HRT.out _).mono ?_
    rintro en w5 ⟨rfl, b5⟩
    go_wp2_with fail
    refine hK.out _ _ ?_ (fun hNew => ?_)
    · exact ⟨⟨cell_later b5 hHeld.1.1, cell_later b5 hHeld.1.2.1, cell_later b5 hHeld.1.2.2.1, cell_later b5 hHeld.1.2.2.2⟩, Lib.hid ⟨hHeld.2.out.1.below b5, next hHeld.2.out.2 b5⟩⟩
    clear hK K hHeld
    have hHeld := hNew
    clear hNew
    try simp only [Act.put, List.setIfInBounds_toArray, List.set_cons_zero, List.set_cons_succ]
    refine takeH (i := 3) (v := ?_) rfl rfl (by kernel_rfl) (by kernel_rfl) (by kernel_rfl) (fun _ _ _ h => h) (by rfl) ?_ (by assumption) ?_
    rotate_left 1
    · intro w hSw
      (try dsimp only at hSw)
      go_simp
      try with_reducible rfl
    try simp only [List.setIfInBounds_toArray, List.set_cons_zero, List.set_cons_succ]
    refine wpAnyH_ready (rs := [6]) (by kernel_rfl) (by simp) ?_
    refine AllReadyH.cons rfl (fun K hK => ?_) (AllReadyH.nil)
    go_simp
    refine (HPT.out _ (HM.out.below hHeld.2.out.2).1.1).mono ?_
    rintro en w6 ⟨rfl, b6⟩
    go_wp2_with fail
    refine hK.out _ _ ?_ (fun hNew => ?_)
    · exact ⟨⟨cell_later b6 hHeld.1.1, cell_later b6 hHeld.1.2.1, cell_later b6 hHeld.1.2.2.1, cell_later b6 hHeld.1.2.2.2⟩, Lib.hid ⟨hHeld.2.out.1.below b6, next hHeld.2.out.2 b6⟩⟩
    clear hK K hHeld
    have hHeld := hNew
    clear hNew
    try simp only [Act.put, List.setIfInBounds_toArray, List.set_cons_zero, List.set_cons_succ]
    refine takeH (i := 7) (v := ?_) rfl rfl (by kernel_rfl) (by kernel_rfl) (by kernel_rfl) (fun _ _ _ h => h) (by rfl) ?_ (by assumption) ?_
    rotate_left 1
    · intro w hSw
      (try dsimp only at hSw)
      go_simp
      try with_reducible rfl
    try simp only [List.setIfInBounds_toArray, List.set_cons_zero, List.set_cons_succ]
    refine takeH (i := 8) (v := ?_) rfl rfl (by kernel_rfl) (by kernel_rfl) (by kernel_rfl) (fun _ _ _ h => h) (by rfl) ?_ (by assumption) ?_
    rotate_left 1
    · intro w hSw
      (try dsimp only at hSw)
      go_simp
      try with_reducible rfl
    try simp only [List.setIfInBounds_toArray, List.set_cons_zero, List.set_cons_succ]
    refine wpAnyH_ready (rs := [11]) (by kernel_rfl) (by simp) ?_
    refine AllReadyH.cons rfl (fun K hK => ?_) (AllReadyH.nil)
    go_simp
    refine (dec_digit l _ hl9.1 hl9.2).mono ?_
    rintro en w7 ⟨rfl, b7⟩
    rw [HL.out]
    go_wp2_with fail
    refine hK.out _ _ ?_ (fun hNew => ?_)
    · exact ⟨⟨cell_later b7 hHeld.1.1, cell_later b7 hHeld.1.2.1, cell_later b7 hHeld.1.2.2.1, cell_later b7 hHeld.1.2.2.2⟩, Lib.hid ⟨hHeld.2.out.1.below b7, next hHeld.2.out.2 b7⟩⟩
    clear hK K hHeld
    have hHeld := hNew
    clear hNew
    try simp only [Act.put, List.setIfInBounds_toArray, List.set_cons_zero, List.set_cons_succ]
    refine takeH (i := 12) (v := ?_) rfl rfl (by kernel_rfl) (by kernel_rfl) (by kernel_rfl) (fun _ _ _ h => h) (by rfl) ?_ (by assumption) ?_
    rotate_left 1
    · intro w hSw
      (try dsimp only at hSw)
      go_simp
      try with_reducible rfl
    try simp only [List.setIfInBounds_toArray, List.set_cons_zero, List.set_cons_succ]
    refine takeH (i := 13) (v := ?_) rfl rfl (by kernel_rfl) (by kernel_rfl) (by kernel_rfl) (fun _ _ _ h => h) (by rfl) ?_ (by assumption) ?_
    rotate_left 1
    · intro w hSw
      (try dsimp only at hSw)
      go_simp
      try with_reducible rfl
    try simp only [List.setIfInBounds_toArray, List.set_cons_zero, List.set_cons_succ]
    refine takeH (i := 14) (v := ?_) rfl rfl (by kernel_rfl) (by kernel_rfl) (by kernel_rfl) (fun _ _ _ h => h) (by rfl) ?_ (by assumption) ?_
    rotate_left 1
    · intro w hSw
      (try dsimp only at hSw)
      go_simp
      try with_reducible rfl
    try simp only [List.setIfInBounds_toArray, List.set_cons_zero, List.set_cons_succ]
    refine wpAnyH_done (by kernel_rfl) ?_ _
    have HA2 := Lib.hid hHeld.2.out.1
    have HB2 := Lib.hid hHeld.2.out.2
    clear hHeld HA1 HB1
    generalize w7 = w2 at *
    obtain ⟨X, hX⟩ : ∃ X : ByteArray, sR ++ ⟨#[32]⟩ ++ sP ++ ⟨#[32]⟩ ++ sL ++ ⟨#[32, 109]⟩ = X := ⟨_, rfl⟩
    have hXs : X.size ≤ 100 := by
      rw [← hX]
      simp only [ByteArray.size_append]
      show sR.size + 1 + sP.size + 1 + sL.size + 2 ≤ 100
      omega
    have HX := Lib.hid hX
    go_wp2_with fail
    rw [hX]
    clear hX
    go_loopw [3, 4] (fun o i wr => ∃ (k : Nat) (s : ByteArray), k ≤ M.length ∧ i = .int .i64 k ∧ o = .string s ∧ Hid (s = X ++ ⟨(mks (M.take k)).toArray⟩) ∧ s.size ≤ 100 + k ∧ Hid (At5 wr w.heap.size (.int .i64 f) (.int .i64 b) (.slice a P.length c) (.int .i64 l) (.slice d M.length e)) ∧ Hid (Below w.heap.size w wr)) (fun _ i _ => M.length - (intOf i).toNat)
    case atStart => exact ⟨0, X, Nat.zero_le _, rfl, rfl, Lib.hid (by simp [mks]; apply ByteArray.ext; simp), by omega, HA2, HB2⟩
    case round =>
      clear HA2 HB2
      obtain ⟨k, s1, hk, rfl, rfl, hs, hz, HA2, HB2⟩ := hrel
      by_cases hlt : k < M.length
      · obtain ⟨b1, off1, x, rfl, hLk, c0⟩ := (HM.out.below HB2.out).1.2.at hlt
        have i0 : (0 : Int) ≤ (k : Int) := by omega
        have i1 : (k : Int) < (M.length : Int) := by omega
        have hx := HMK.out x (List.mem_of_getElem? hLk)
        have HN := Lib.hid (mks_take hLk)
        clear hLk
        obtain ⟨⟨q0, q1, q2, q3, q4⟩, _⟩ := HA2.out
        go_wp2_with fail
        refine (dec_digit x _ (by omega) hx.2).mono ?_
        rintro en w3 ⟨rfl, b3⟩
        have HA3 := Lib.hid (HA2.out.below b3)
        have HB3 := Lib.hid (next HB2.out b3)
        have HS : Hid (s1 ++ dg x = X ++ ⟨(mks (M.take (k + 1))).toArray⟩) := Lib.hid (by rw [HN.out, hs.out]; apply ByteArray.ext; simp [dg])
        have hz1 : (s1 ++ dg x).size ≤ 100 + (k + 1) := by rw [ByteArray.size_append, dg_size]; omega
        have l1 : ¬ 9223372036854775807 < s1.size + 1 := by omega
        have hds := dg_size x
        clear b3 c0 q0 q1 q2 q3 q4 HA2 HB2 HN hs
        generalize dg x = sx at *
        have l2 : ¬ 9223372036854775807 < s1.size + sx.size := by omega
        go_wp2_with fail
        go_roundw
        case rel => exact ⟨k + 1, _, by omega, by go_num, rfl, HS, hz1, HA3, HB3⟩
        case measure => simp [intOf]; omega
      · obtain rfl : k = M.length := by omega
        have HS := Lib.hid (show s1 = s by rw [hs.out, List.take_length, ← HK.out, ← HX.out, ← HL.out])
        obtain ⟨⟨q0, q1, q2, q3, q4⟩, _⟩ := HA2.out
        go_wp2_with fail
        go_ret
        exact ⟨by rw [← HS.out]; rfl, HB2.out⟩
end Go.Proofs.YtfjfcdifnfffbaaDoor
