/-
  The text of a path, as the program writes it.
-/
import Derived.Test.YtfjfcdifnfffbaaDoorPEx
import Derived.Test.YtfjfcdifnfffbaaDoorPTxt
import Derived.Test.YtfjfcdifnfffbaaDoorShelf
namespace Go.Proofs.YtfjfcdifnfffbaaDoor
open Go.RowKit
set_option linter.unusedSimpArgs false
set_option linter.unusedVariables false

def dg (h : Int) : ByteArray := ⟨#[dgt h]⟩
theorem itoa_house (x : Int) (w : World) (h1 : 1 ≤ x) (h5 : x ≤ 5) :
    Calls Tryd.prog 76 #[.int .i64 x] w fun e w' => e = .returned (.string (dg x)) ∧ w = w' := by
  have := Tryd.strconv_Itoa_small x.toNat (by omega) w
  rw [Int.toNat_of_nonneg (by omega)] at this
  have e : (Lib.decDigits x.toNat).toArray = #[dgt x] := by
    rw [Lib.decDigits, dif_pos (by omega)]
    simp [dgt]
  rw [e] at this
  exact this.mono fun e w' ⟨h1, h2⟩ => ⟨h1, h2.symm⟩

def cellsS (S : List ByteArray) : List Value := S.map Value.string
abbrev OwnS (w : World) (R : Nat) (v : Value) (S : List ByteArray) : Prop := w.ownsRow R 9 1 v S.length (cellsS S)
theorem infoS : (Tryd.prog.info? 9).map (fun i => (i.zero, i.size, i.bytes)) = some (some (.string ByteArray.empty), 1, 16) := by kernel_rfl
theorem madeS (n : Nat) : (madeCells #[Value.string ByteArray.empty] (n * 1)).toList = cellsS (List.replicate n ByteArray.empty) := by
  refine (List.eq_replicate_iff.2 ⟨by simp [size_madeCells], fun x hx => ?_⟩ : _ = List.replicate n (Value.string ByteArray.empty)).trans (by simp [cellsS])
  simp only [madeCells, Array.toList_map, List.mem_map] at hx
  obtain ⟨i, _, rfl⟩ := hx
  show (#[Value.string ByteArray.empty] : Array Value)[i % 1]! = _
  rw [show i % 1 = 0 by omega]; rfl
theorem owns_put {w : World} {R g cap : Nat} {S : List ByteArray} {k : Nat} (h : OwnS w R (.slice (some ⟨g, 0, none⟩) S.length cap) S) (x : ByteArray) :
    OwnS (w.setCell ⟨g, k, none⟩ (.string x)) R (.slice (some ⟨g, 0, none⟩) S.length cap) (S.set k x) ∧ w.grownBy (w.setCell ⟨g, k, none⟩ (.string x)) (some g) := by
  have h1 := World.ownsRow.stored h k (.string x)
  refine ⟨?_, h1.2⟩
  have := h1.1
  rw [OwnS, List.length_set, cellsS, List.map_set]
  exact this
theorem cellsS_at {S : List ByteArray} {i : Nat} {x : ByteArray} (h : S[i]? = some x) : (cellsS S)[i]? = some (.string x) := by simp [cellsS, h]
theorem owns_cell {w : World} {R g cap : Nat} {S : List ByteArray} {k : Nat} (h : OwnS w R (.slice (some ⟨g, 0, none⟩) S.length cap) S) {x : ByteArray} (hk : S[k]? = some x) : w.cell? ⟨g, k, none⟩ = some (.string x) :=
  (h.cellAt k (by have := (List.getElem?_eq_some_iff.1 hk).1; omega)).trans (cellsS_at hk)
theorem join_text {L : List Int} (h : L ≠ []) : Lib.join ((L.map dg).map (·.data.toList)) (⟨#[45]⟩ : ByteArray).data.toList = ptxt L := by
  rw [ptxt, if_neg h, List.map_map]
  rfl

set_option maxRecDepth 100000 in
set_option maxHeartbeats 2000000 in
theorem ttext_yes (L : List Int) (hp : Path L) (hne : L ≠ []) (a : Option Addr) (cap : Nat) (m : Int) (w : World) (hL : IntA w a L) :
    Calls Tryd.prog 114 #[.agg #[.int .u64 m, .slice a L.length cap]] w fun e w' => e = .returned (.string ⟨(ptxt L).toArray⟩) ∧ Below w.heap.size w w' := by
  have h5 := hp.len
  have h0 : 0 < L.length := List.length_pos_iff.2 hne
  have hl0 : ((L.length : Int) == 0) = false := by simp; exact hne
  have HL := Lib.hid hL
  have HX := Lib.hid (AtV.new w (.int .u64 m) (.slice a L.length cap) 113)
  have HB0 := Lib.hid ((Below.refl w.heap.size w).alloc (Nat.le_refl _) (.cells #[.int .u64 m, .slice a L.length cap] 113))
  have hsz0 : (w.alloc (.cells #[.int .u64 m, .slice a L.length cap] 113)).heap.size = w.heap.size + 1 := by simp
  obtain ⟨x0, x1, _, _⟩ := HX.out
  obtain ⟨i0, hi, hz0, hz1, hz2⟩ := info_parts infoS
  have HP := Lib.hid hp
  have HN := Lib.hid hne
  clear hL hp hne
  go_enter Tryd.func114, Tryd.ntmps114
  go_wp2_with (first | (refine wpList_make_full _ rfl (.tmp 12) (.tmp 12) 137 rfl (w.heap.size + 1) 9 i0 (.string ByteArray.empty) 1 Tryd.underlying137 hi hz0 hz1 .i64 .i64 _ _ L.length rfl rfl rfl rfl (by rw [hz2]; omega) (by unfold maxLen; omega) (by simp) ?_; intro w1 own1 grow1; have HBm := Lib.hid (And.intro own1 grow1); clear own1 grow1; have x2 := HBm.out.2.cell x0 (by simp); have x3 := HBm.out.2.cell x1 (by simp)))
  have own1' := HBm.out.1
  rw [show (Value.string ByteArray.empty).cells = #[.string ByteArray.empty] from rfl, madeS] at own1'
  have hb1 : Below w.heap.size w w1 := HB0.out.grown HBm.out.2 HB0.out.size (fun _ h => by cases h)
  have I0 : Hid (OwnS w1 (w.heap.size + 1) (.slice (some ⟨w.heap.size + 1, 0, none⟩) (List.replicate L.length ByteArray.empty).length L.length) (List.replicate L.length ByteArray.empty) ∧ Below w.heap.size w w1) :=
    Lib.hid ⟨by rw [OwnS, List.length_replicate]; simpa using own1', hb1⟩
  clear own1' hb1 HBm x0 x1 x2 x3 HX HB0 hsz0
  go_loopw [17] (fun i wr => ∃ (k : Nat) (S : List ByteArray), k ≤ L.length ∧ i = .int .i64 k ∧ Hid (S.length = L.length) ∧ (∀ j, j < k → S[j]? = (L.map dg)[j]?) ∧ OwnS wr (w.heap.size + 1) (.slice (some ⟨w.heap.size + 1, 0, none⟩) S.length L.length) S ∧ Below w.heap.size w wr) (fun i _ => L.length - (intOf i).toNat)
  case atStart => exact ⟨0, _, Nat.zero_le _, rfl, Lib.hid (by simp), fun _ h => by omega, I0.out.1, I0.out.2⟩
  case round =>
    obtain ⟨k, S, hk, rfl, hS, hj, ho, hb⟩ := hrel
    clear I0
    by_cases hlt : k < L.length
    · obtain ⟨bb, off, x, rfl, hLk, c0⟩ := (HL.out.below hb).at hlt
      have hx := HP.out.1 x (List.mem_of_getElem? hLk)
      have hkS : k < S.length := by rw [hS.out]; exact hlt
      have HQ := Lib.hid (owns_put (k := k) ho (dg x))
      have d0 := owns_cell ho (List.getElem?_eq_getElem hkS)
      have f0 := World.ownsRow.frozenAt ho k
      have HB := Lib.hid hb
      have HJ := Lib.hid hj
      have HK := Lib.hid (show (L.map dg)[k]? = some (dg x) by simp [hLk])
      have j0 : (0 : Int) ≤ (k : Int) := by omega
      have j1 : (k : Int) < (L.length : Int) := by omega
      generalize S[k] = m' at *
      clear ho hb hj hLk
      go_wp2_with fail
      refine (itoa_house x _ hx.1 hx.2).mono ?_
      rintro e w2 ⟨rfl, rfl⟩
      go_wp2_with fail
      go_roundw
      case rel =>
        refine ⟨k + 1, S.set k (dg x), by omega, by go_num, Lib.hid (by rw [List.length_set]; exact hS.out), fun j hj => ?_, by rw [List.length_set]; exact HQ.out.1, HB.out.grown HQ.out.2 HB.out.size (fun _ e => by cases e; exact Nat.le_succ _)⟩
        by_cases e : j = k
        · subst e; rw [List.getElem?_set_self hkS]; exact HK.out.symm
        · rw [List.getElem?_set_ne (fun h => e h.symm)]; exact HJ.out j (by omega)
      case measure => simp [intOf]; omega
    · obtain rfl : k = L.length := by omega
      have hSL : S = L.map dg := List.ext_getElem? fun j => by
        by_cases h : j < L.length
        · exact hj j h
        · rw [List.getElem?_eq_none (by rw [hS.out]; omega), List.getElem?_eq_none (by simp; omega)]
      subst hSL
      have J := Tryd.strings_Join (w.heap.size + 1) 0 L.length (L.map dg) ⟨#[45]⟩ wr (fun j x hx => by rw [Nat.zero_add]; exact owns_cell ho hx) (ho.lt _ rfl).2 (by simp; omega) (by simp) (by rw [join_text HN.out]; have := ptxt_len HP.out; omega)
      rw [List.length_map, join_text HN.out] at J
      have HJ := Lib.hid J
      have HB := Lib.hid hb
      have e9 : (L.map dg).length = L.length := by simp
      clear hj ho hb J hS
      go_wp2_with fail
      refine HJ.out.mono ?_
      rintro e w2 ⟨rfl, hb2⟩
      go_wp2_with fail
      go_ret
      exact ⟨rfl, next HB.out hb2⟩

set_option maxHeartbeats 400000 in
theorem ttext_nil (a : Option Addr) (cap : Nat) (m : Int) (w : World) :
    Calls Tryd.prog 114 #[.agg #[.int .u64 m, .slice a 0 cap]] w fun e w' => e = .returned (.string ⟨(ptxt []).toArray⟩) ∧ Below w.heap.size w w' := by
  go_enter Tryd.func114, Tryd.ntmps114
  go_wp2_with fail
  go_ret
  exact ⟨rfl, (Below.refl _ _).alloc (Nat.le_refl _) _⟩
theorem ttext_any (L : List Int) (hp : Path L) (a : Option Addr) (cap : Nat) (m : Int) (w : World) (hL : IntA w a L) :
    Calls Tryd.prog 114 #[.agg #[.int .u64 m, .slice a L.length cap]] w fun e w' => e = .returned (.string (ptext L)) ∧ Below w.heap.size w w' := by
  rw [ptext_yes hp]
  by_cases h : L = []
  · subst h; exact ttext_nil a cap m w
  · exact ttext_yes L hp h a cap m w hL

set_option maxHeartbeats 400000 in
theorem itext_is {L : List Int} {s : ByteArray} (k : ptext L = s) (a : Option Addr) (cap n : Nat) (w : World) (p : Addr) (hn : n = L.length) (hl : L.length ≤ 4000000) (hI : IntA w a L) (hE : EV w p) :
    Calls Tryd.prog 78 #[.slice a n cap] w fun e w' => e = .returned (.string s) ∧ Below w.heap.size w w' := by
  subst hn
  by_cases hp : Path L
  · have K := Lib.hid k
    clear k
    go_enter Tryd.func78, Tryd.ntmps78
    go_wp2_with fail
    refine (track_yes hp a cap _ p hI hE).mono ?_
    rintro e w1 ⟨v, rfl, hO, hb1⟩
    obtain ⟨a2, c2, rfl, hc2, hI2⟩ := OwnI.tab hO
    have hE1 := (hE.below hb1).alloc (.cells #[.int .u64 (bitsH L : Int), .slice a2 L.length c2] 113)
    have HB := Lib.hid (hb1.alloc hb1.size (.cells #[.int .u64 (bitsH L : Int), .slice a2 L.length c2] 113))
    have HI2 := Lib.hid (hI2.alloc (.cells #[.int .u64 (bitsH L : Int), .slice a2 L.length c2] 113))
    unfold EV at hE1
    clear hO hb1 hE hI hI2
    go_wp2_with fail
    refine (is_nil p _).mono ?_
    rintro e w2 ⟨rfl, rfl⟩
    go_wp2_with fail
    refine (ttext_any L hp a2 c2 _ _ HI2.out).mono ?_
    rintro e w3 ⟨rfl, hb3⟩
    go_wp2_with fail
    go_ret
    exact ⟨by rw [K.out]; rfl, next HB.out hb3⟩
  · have K := Lib.hid (show (⟨#[]⟩ : ByteArray) = s by rw [← k, ptext_no (pOk_no hp)])
    clear k
    go_enter Tryd.func78, Tryd.ntmps78
    go_wp2_with fail
    refine (track_no hp a cap _ p hl hI hE).mono ?_
    rintro e w1 ⟨rfl, hb1⟩
    have hE1 := (hE.below hb1).alloc (.cells #[zT, zS] 113)
    have HB := Lib.hid (hb1.alloc hb1.size (.cells #[zT, zS] 113))
    unfold EV at hE1
    clear hb1 hE hI
    go_wp2_with fail
    refine (is_same p _).mono ?_
    rintro e w2 ⟨rfl, rfl⟩
    go_wp2_with fail
    go_ret
    exact ⟨by rw [← K.out]; rfl, HB.out⟩

set_option maxHeartbeats 400000 in
theorem stext_no {L : List Int} (ho : pOk L = false) (a : Option Addr) (cap : Nat) (w : World) (hL : IntA w a L) (hc : L.length ≤ cap) (hl : L.length ≤ 4000000) :
    Calls Tryd.prog 81 #[.slice a L.length cap] w fun e w' => e = .returned (.string ⟨#[]⟩) ∧ Below w.heap.size w w' := by
  go_enter Tryd.func81, Tryd.ntmps81
  go_wp2_with fail
  refine (psok_is ho a cap _ _ rfl hL hc hl).mono ?_
  rintro e w1 ⟨rfl, hb1⟩
  go_wp2_with fail
  go_ret
  exact ⟨rfl, hb1⟩
theorem stext_is {L : List Int} {s : ByteArray} (k : ptext L = s) (a : Option Addr) (cap n : Nat) (w : World) (hn : n = L.length) (hL : IntA w a L) (hc : L.length ≤ cap) (hl : L.length ≤ 4000000) :
    Calls Tryd.prog 81 #[.slice a n cap] w fun e w' => e = .returned (.string s) ∧ Below w.heap.size w w' := by
  subst hn
  rw [← k]
  by_cases hp : Path L
  · rw [ptext_yes hp]; exact stext_yes L hp a cap w hL hc
  · rw [ptext_no (pOk_no hp)]; exact stext_no (pOk_no hp) a cap w hL hc hl
end Go.Proofs.YtfjfcdifnfffbaaDoor
