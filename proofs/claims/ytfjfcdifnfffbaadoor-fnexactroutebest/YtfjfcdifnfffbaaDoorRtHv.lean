/-
  The program's RouteBest.
-/
import Derived.Test.YtfjfcdifnfffbaaDoorRtHu
import Derived.Test.YtfjfcdifnfffbaaDoorRtMem
namespace Go.Proofs.YtfjfcdifnfffbaaDoor
open Go.RowKit
set_option linter.unusedSimpArgs false
set_option linter.unusedVariables false

/-- a slice of routes in memory -/
def RsA (w : World) (a : Option Addr) (L : List RV) : Prop :=
  (L = [] ∨ ∃ b off, a = some ⟨b, off, none⟩ ∧ ∀ (i : Nat) v, L[i]? = some v → w.cell? ⟨b, off + i * 5, none⟩ = some (.int .i64 v.f) ∧ w.cell? ⟨b, off + i * 5 + 1, none⟩ = some (.int .i64 v.b) ∧ w.cell? ⟨b, off + i * 5 + 2, none⟩ = some (.slice v.a v.P.length v.c) ∧ w.cell? ⟨b, off + i * 5 + 3, none⟩ = some (.int .i64 v.l) ∧ w.cell? ⟨b, off + i * 5 + 4, none⟩ = some (.slice v.d v.M.length v.e)) ∧
  ∀ v ∈ L, v.m w
theorem RsA.below {w w' : World} {a : Option Addr} {L : List RV} (h : RsA w a L) (k : Below w.heap.size w w') : RsA w' a L := by
  refine ⟨?_, fun v hv => (h.2 v hv).below k⟩
  rcases h.1 with h | ⟨b, off, e, h⟩
  · exact .inl h
  · refine .inr ⟨b, off, e, fun i v hi => ?_⟩
    obtain ⟨h0, h1, h2, h3, h4⟩ := h i v hi
    exact ⟨cell_later k h0, cell_later k h1, cell_later k h2, cell_later k h3, cell_later k h4⟩
theorem RsA.at {w : World} {a : Option Addr} {L : List RV} (h : RsA w a L) {k : Nat} {v : RV} (hk : L[k]? = some v) :
    ∃ b off, a = some ⟨b, off, none⟩ ∧ (w.cell? ⟨b, off + k * 5, none⟩ = some (.int .i64 v.f) ∧ w.cell? ⟨b, off + k * 5 + 1, none⟩ = some (.int .i64 v.b) ∧ w.cell? ⟨b, off + k * 5 + 2, none⟩ = some (.slice v.a v.P.length v.c) ∧ w.cell? ⟨b, off + k * 5 + 3, none⟩ = some (.int .i64 v.l) ∧ w.cell? ⟨b, off + k * 5 + 4, none⟩ = some (.slice v.d v.M.length v.e)) ∧ v.m w := by
  have hm := h.2 v (List.mem_of_getElem? hk)
  rcases h.1 with rfl | ⟨b, off, e, h⟩
  · simp at hk
  · exact ⟨b, off, e, h k v hk, hm⟩
theorem rvAt_is {L : List RV} {k : Nat} {v : RV} (h : L[k]? = some v) : rvAt L k = v := by
  unfold rvAt; rw [List.getD_eq_getElem?_getD, h]; rfl
theorem ownh_empty (w : World) (L : List RV) : HpS ((w.alloc (.cells #[] 85)).alloc (.cells #[.slice (some ⟨w.heap.size, 0, none⟩) 0 0] 82)) w.heap.size (w.heap.size + 1) L (.slice (some ⟨w.heap.size, 0, none⟩) 0 0) [] := by
  have h0 : OwnH (w.alloc (.cells #[] 85)) w.heap.size (.slice (some ⟨w.heap.size, 0, none⟩) 0 0) L [] := World.ownsRow_lit w #[] 0 (Nat.le_refl _) (by unfold maxLen; omega) rfl
  refine ⟨by omega, ?_, ?_⟩
  · have e : (w.alloc (.cells #[] 85)).heap.size = w.heap.size + 1 := World.size_alloc _ _
    show ((w.alloc (.cells #[] 85)).heap.push _)[w.heap.size + 1]? = _
    rw [← e]
    exact Array.getElem?_push_size
  · exact World.ownsRow.alloc h0 _
theorem best_no {l : List Rt} {z : Int} (hz : BestIs l z) {r : Rt} (hr : r ∈ l) (ho : rtOk r = false) : -1 = z := BestIs.same (.inr ⟨.inr ⟨r, hr, ho⟩, rfl⟩) hz
theorem best_yes {l : List Rt} {z : Int} (hz : BestIs l z) (hne : l ≠ []) (hok : ∀ r ∈ l, rtOk r = true) {K : List Nat} {t : Nat} (ht : K[0]? = some t) (hT : ∀ (k : Nat) y, K[k]? = some y → hless l y t = false) (hK : ∀ y, y ∈ K ↔ y < l.length) : (t : Int) = z := by
  refine BestIs.same (.inl ⟨hne, hok, t, rfl, hmin_best ((hK t).1 (List.mem_of_getElem? ht)) (fun k hk => ?_) (fun k hk => (hK k).2 hk)⟩) hz
  obtain ⟨i, hi⟩ := List.mem_iff_getElem?.1 hk
  exact hT i k hi
theorem all_good {L : List RV} (h : ∀ y, y < L.length → RtGood (rvAt L y).rt) : ∀ r ∈ L.map RV.rt, rtOk r = true := fun r hr => by
  obtain ⟨v, hv, rfl⟩ := List.mem_map.1 hr
  obtain ⟨i, hi⟩ := List.mem_iff_getElem?.1 hv
  have := h i (List.getElem?_eq_some_iff.1 hi).1
  rw [rvAt_is hi] at this
  exact (rtOk_iff _).2 this

set_option maxRecDepth 100000 in
set_option maxHeartbeats 2000000 in
theorem ibest_is (L : List RV) (a : Option Addr) (cap n : Nat) (w : World) (pe : Addr) {z : Int} (hz : BestIs (L.map RV.rt) z) (hn : n = L.length) (hA : RsA w a L) (hE : EV w pe) (hl : L.length ≤ 1100000) :
    Calls Tryd.prog 35 #[.slice a n cap] w fun e w' => e = .returned (.int .i64 z) ∧ Below w.heap.size w w' := by
  subst hn
  by_cases hL0 : L = []
  · subst hL0
    have HZ := Lib.hid (show -1 = z from BestIs.same (.inr ⟨.inl rfl, rfl⟩) hz)
    clear hz hA hE
    go_enter Tryd.func35, Tryd.ntmps35
    go_wp2_with fail
    go_ret
    exact ⟨ret_int HZ.out, Below.refl _ _⟩
  · have hpos : 0 < L.length := List.length_pos_iff.2 hL0
    have h0 : ((L.length : Int) == 0) = false := by rw [beq_eq_false_iff_ne]; omega
    have HZ := Lib.hid hz
    have HA := Lib.hid hA
    have HE := Lib.hid hE
    have HN := Lib.hid hL0
    have HS0 := Lib.hid (ownh_empty w L)
    have HB0 := Lib.hid (((Below.refl w.heap.size w).alloc (Nat.le_refl _) (.cells #[] 85)).alloc (by simp) (.cells #[.slice (some ⟨w.heap.size, 0, none⟩) 0 0] 82))
    have hT := asserts
    have HBB : Hid (∀ (W W' : World) (k : Nat), Below w.heap.size w W → (∀ y, y < k → y < L.length ∧ RtGood (rvAt L y).rt) → Below w.heap.size W W' → RsM W' L k ∧ EV W' pe) := Lib.hid (fun W W' k b1 hg b2 => ⟨fun y hy => ⟨hA.2 _ (rvAt_mem (hg y hy).1) |>.below (b1.trans b2), (hg y hy).2⟩, hE.below (b1.trans b2)⟩)
    clear hz hA hE hL0
    go_enter Tryd.func35, Tryd.ntmps35
    go_wp2_with fail
    generalize (w.alloc (.cells #[] 85)).alloc (.cells #[.slice (some ⟨w.heap.size, 0, none⟩) 0 0] 82) = w1 at *
    go_loopw [15] (fun q wr => ∃ (k : Nat) (K : List Nat) (hv : Value), q = .int .i64 (k : Int) ∧ k ≤ L.length ∧ Hid (HpS wr w.heap.size (w.heap.size + 1) L hv K) ∧ Hid ((∀ y, y ∈ K ↔ y < k) ∧ K.length = k ∧ (K = [] ∨ TopIs (L.map RV.rt) K) ∧ ∀ y, y < k → y < L.length ∧ RtGood (rvAt L y).rt) ∧ Hid (Below w.heap.size w wr)) (fun q _ => L.length - (intOf q).toNat)
    case atStart => exact ⟨0, [], _, rfl, Nat.zero_le _, HS0, Lib.hid ⟨fun y => by simp, rfl, .inl rfl, fun y hy => by omega⟩, HB0⟩
    case round =>
      clear HS0 HB0
      obtain ⟨k, K, hv, rfl, hk, HS, HI, HW⟩ := hrel
      by_cases hlt : k < L.length
      · obtain ⟨v, hv2⟩ : ∃ v, L[k]? = some v := ⟨_, List.getElem?_eq_getElem hlt⟩
        obtain ⟨b, off, rfl, ⟨q0, q1, q2, q3, q4⟩, hm⟩ := (HA.out.below HW.out).at hv2
        have HV := Lib.hid hv2
        have i0 : (0 : Int) ≤ (k : Int) := by omega
        have i1 : (k : Int) < (L.length : Int) := by omega
        have HX := Lib.hid (At5.new wr (.int .i64 v.f) (.int .i64 v.b) (.slice v.a v.P.length v.c) (.int .i64 v.l) (.slice v.d v.M.length v.e) 27)
        have HW2 := Lib.hid (HW.out.alloc HW.out.size (.cells #[.int .i64 v.f, .int .i64 v.b, .slice v.a v.P.length v.c, .int .i64 v.l, .slice v.d v.M.length v.e] 27))
        have HS2 := Lib.hid (HS.out.alloc (.cells #[.int .i64 v.f, .int .i64 v.b, .slice v.a v.P.length v.c, .int .i64 v.l, .slice v.d v.M.length v.e] 27))
        have HM2 : Hid (RtM _ v.a v.c v.P v.d v.e v.M) := Lib.hid (RtM.alloc hm (.cells #[.int .i64 v.f, .int .i64 v.b, .slice v.a v.P.length v.c, .int .i64 v.l, .slice v.d v.M.length v.e] 27))
        clear hv2 hm HS HW
        cases hx : rtOk (v.f, v.b, v.P, v.l, v.M) with
        | false =>
          have HR := Lib.hid (best_no HZ.out (List.mem_map.2 ⟨v, List.mem_of_getElem? HV.out, rfl⟩) hx)
          have HO := Lib.hid hx
          clear hx
          go_wp2_with fail
          refine (riok_is v.f v.b v.a v.c v.P v.l v.d v.e v.M HO.out _ pe HM2.out (HE.out.below HW2.out)).mono ?_
          rintro en w3 ⟨rfl, b3⟩
          have HW3 := Lib.hid (next HW2.out b3)
          clear b3 q0 q1 q2 q3 q4
          go_wp2_with fail
          go_ret
          exact ⟨ret_int HR.out, HW3.out⟩
        | true =>
          have HO := Lib.hid hx
          clear hx
          go_wp2_with fail
          refine (riok_is v.f v.b v.a v.c v.P v.l v.d v.e v.M HO.out _ pe HM2.out (HE.out.below HW2.out)).mono ?_
          rintro en w3 ⟨rfl, b3⟩
          have HW3 := Lib.hid (next HW2.out b3)
          have HS3 := Lib.hid (HS2.out.later b3)
          obtain ⟨⟨r0, r1, r2, r3, r4⟩, _⟩ := HX.out.below b3
          have HG : Hid (∀ y, y < k + 1 → y < L.length ∧ RtGood (rvAt L y).rt) := Lib.hid (fun y hy => by
            by_cases e : y = k
            · subst e; rw [rvAt_is HV.out]; exact ⟨hlt, (rtOk_iff _).1 HO.out⟩
            · exact HI.out.2.2.2 y (by omega))
          clear b3 q0 q1 q2 q3 q4 HW2 HS2 HM2 HX
          go_wp2_with fail
          have hP := push_is w.heap.size (w.heap.size + 1) L hv K k w3 pe HS3.out HI.out.2.2.1 (k + 1) (fun y hy => by have := (HI.out.1 y).1 hy; omega) (by omega) (by have := HI.out.2.1; omega) (fun W hW => HBB.out w3 W (k + 1) HW3.out HG.out hW)
          rw [rvAt_is HV.out] at hP
          refine hP.mono ?_
          clear hP
          rintro en w4 ⟨rfl, ⟨hv4, K4, S4, M4, T4, L4⟩, b4⟩
          have HS4 := Lib.hid S4
          have HI4 : Hid ((∀ y, y ∈ K4 ↔ y < k + 1) ∧ K4.length = k + 1 ∧ (K4 = [] ∨ TopIs (L.map RV.rt) K4) ∧ ∀ y, y < k + 1 → y < L.length ∧ RtGood (rvAt L y).rt) := Lib.hid ⟨fun y => by rw [M4, HI.out.1]; omega, by rw [L4, HI.out.2.1], .inr T4, HG.out⟩
          have HW4 := Lib.hid (HW3.out.trans b4)
          clear S4 M4 T4 L4 b4 r0 r1 r2 r3 r4 HI HG
          go_wp2_with fail
          go_roundw
          case rel => exact ⟨k + 1, K4, hv4, by go_num, by omega, HS4, HI4, HW4⟩
          case measure => simp [intOf]; omega
      · obtain rfl : k = L.length := by omega
        obtain ⟨t, ht, hTop⟩ : TopIs (L.map RV.rt) K := by
          rcases HI.out.2.2.1 with h | h
          · have := HI.out.2.1; rw [h] at this; simp at this; omega
          · exact h
        have HR := Lib.hid (best_yes HZ.out (fun e => HN.out (List.map_eq_nil_iff.1 e)) (all_good fun y hy => (HI.out.2.2.2 y hy).2) ht hTop (fun y => by rw [HI.out.1, List.length_map]))
        have HTt := Lib.hid ht
        clear ht hTop
        go_wp2_with fail
        refine (pop_is w.heap.size (w.heap.size + 1) L hv K t _ pe HS.out HTt.out L.length (fun y hy => (HI.out.1 y).1 hy) (by have := HI.out.2.1; omega) (fun W hW => HBB.out _ W L.length HW.out HI.out.2.2.2 hW)).mono ?_
        rintro en w4 ⟨rfl, b4⟩
        have HW4 := Lib.hid (HW.out.trans b4)
        clear b4
        have HW5 := Lib.hid (HW4.out.alloc HW4.out.size (.cells #[.int .i64 (rvAt L t).f, .int .i64 (rvAt L t).b, .slice (rvAt L t).a (rvAt L t).P.length (rvAt L t).c, .int .i64 (rvAt L t).l, .slice (rvAt L t).d (rvAt L t).M.length (rvAt L t).e, .int .i64 t] 85))
        go_wp2_with fail
        go_ret
        exact ⟨ret_int HR.out, HW5.out⟩
end Go.Proofs.YtfjfcdifnfffbaaDoor
