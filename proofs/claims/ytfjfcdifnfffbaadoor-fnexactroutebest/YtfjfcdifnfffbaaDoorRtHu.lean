/-
  The library's heap over routes: Push, Pop, as a whole.
-/
import Derived.Test.YtfjfcdifnfffbaaDoorRtHt
namespace Go.Proofs.YtfjfcdifnfffbaaDoor
open Go.RowKit
set_option linter.unusedSimpArgs false
set_option linter.unusedVariables false

theorem upi_new {l : List Rt} {K : List Nat} (h : K = [] ∨ TopIs l K) (p : Nat) : ∃ r, UpI l (K ++ [p]) K.length p r := by
  have e1 : (K ++ [p])[K.length]? = some p := by rw [List.getElem?_append_right (Nat.le_refl _)]; simp
  rcases h with rfl | ⟨t, h1, h2⟩
  · refine ⟨0, e1, fun _ k y hy => ?_, fun h => (h rfl).elim⟩
    match k, hy with
    | 0, hy => simp at hy; subst hy; exact hless_irr l _
    | k + 1, hy => simp at hy
  · have hlt : 0 < K.length := (List.getElem?_eq_some_iff.1 h1).1
    refine ⟨t, e1, fun h => by omega, fun _ => ⟨by rw [List.getElem?_append_left hlt]; exact h1, fun k y hy hk => ?_⟩⟩
    have hkl : k < (K ++ [p]).length := (List.getElem?_eq_some_iff.1 hy).1
    rw [List.length_append, List.length_singleton] at hkl
    rw [List.getElem?_append_left (by omega)] at hy
    exact h2 k y hy

set_option maxRecDepth 100000 in
set_option maxHeartbeats 2000000 in
theorem push_is (R H : Nat) (L : List RV) (hv : Value) (K : List Nat) (p : Nat) (w : World) (pe : Addr) (hS : HpS w R H L hv K) (hT : K = [] ∨ TopIs (L.map RV.rt) K) (N : Nat) (hK : ∀ y ∈ K, y < N) (hp : p < N) (hlen : K.length ≤ 1900000)
    (hB : ∀ W, Below R w W → RsM W L N ∧ EV W pe) :
    Calls Tryd.prog 72 #[.iface 80 (.pointer (some ⟨H, 0, none⟩)), .iface 85 (.agg #[.int .i64 (rvAt L p).f, .int .i64 (rvAt L p).b, .slice (rvAt L p).a (rvAt L p).P.length (rvAt L p).c, .int .i64 (rvAt L p).l, .slice (rvAt L p).d (rvAt L p).M.length (rvAt L p).e, .int .i64 p])] w
      fun e w' => e = .returned (.tuple #[]) ∧ (∃ hv' K', HpS w' R H L hv' K' ∧ (∀ y, y ∈ K' ↔ y ∈ K ∨ y = p) ∧ TopIs (L.map RV.rt) K' ∧ K'.length = K.length + 1) ∧ Below R w w' := by
  obtain ⟨r, hU⟩ := upi_new hT p
  have HU := Lib.hid hU
  have HS := Lib.hid hS
  have HB := Lib.hid hB
  have HK : Hid (∀ y ∈ K ++ [p], y < N) := Lib.hid (fun y hy => by
    rcases List.mem_append.1 hy with h | h
    · exact hK y h
    · obtain rfl : y = p := by simpa using h
      exact hp)
  clear hS hB hU hT hK hp
  go_enter Tryd.func72, Tryd.ntmps72
  go_wp2_with fail
  refine (hpush_is R H L hv K p _ HS.out (by omega)).mono ?_
  rintro en w1 ⟨rfl, ⟨hv1, S1⟩, b1⟩
  obtain ⟨g, cap, rfl, _, _⟩ := OwnH.tab S1.2.2 (by simp)
  have hn : (K ++ [p]).length = K.length + 1 := by simp
  rw [hn] at S1
  have HS1 := Lib.hid S1
  have HB1 := Lib.hid b1
  have hMl := meth_len w1 H _ S1.cell
  have t1 : IntKind.i64.wrap (((K.length + 1 : Nat) : Int) - 1) = (K.length : Int) := by rw [IntKind.wrap_i64]; omega
  clear S1 b1 hn HS
  go_wp2_with fail
  refine (len_is _ _ _ _).mono ?_
  rintro en w2 ⟨rfl, rfl⟩
  clear hMl
  go_wp2_with fail
  refine (up_is R H L g (K.length + 1) cap (K ++ [p]) K.length p r _ pe HS1.out HU.out N HK.out (by omega) (fun W hW => HB.out W (HB1.out.trans hW))).mono ?_
  rintro en w3 ⟨rfl, ⟨K3, S3, M3, T3⟩, b3⟩
  have HF := Lib.hid (And.intro S3 (And.intro M3 (And.intro T3 (HB1.out.trans b3))))
  clear S3 M3 T3 b3
  go_wp2_with fail
  go_end0
  exact ⟨rfl, ⟨_, K3, HF.out.1, fun y => (HF.out.2.1 y).trans (by simp), HF.out.2.2.1, (OwnH.len HF.out.1.2.2).symm⟩, HF.out.2.2.2⟩

set_option maxRecDepth 100000 in
set_option maxHeartbeats 2000000 in
theorem pop_is (R H : Nat) (L : List RV) (hv : Value) (K : List Nat) (t : Nat) (w : World) (pe : Addr) (hS : HpS w R H L hv K) (ht : K[0]? = some t) (N : Nat) (hK : ∀ y ∈ K, y < N) (hlen : K.length ≤ 1900000)
    (hB : ∀ W, Below R w W → RsM W L N ∧ EV W pe) :
    Calls Tryd.prog 73 #[.iface 80 (.pointer (some ⟨H, 0, none⟩))] w
      fun e w' => e = .returned (.iface 85 (.agg #[.int .i64 (rvAt L t).f, .int .i64 (rvAt L t).b, .slice (rvAt L t).a (rvAt L t).P.length (rvAt L t).c, .int .i64 (rvAt L t).l, .slice (rvAt L t).d (rvAt L t).M.length (rvAt L t).e, .int .i64 t])) ∧ Below R w w' := by
  have hpos : 0 < K.length := (List.getElem?_eq_some_iff.1 ht).1
  obtain ⟨g, cap, rfl, _, hcap⟩ := OwnH.tab hS.2.2 (fun e => by rw [e] at hpos; simp at hpos)
  obtain ⟨m, hm⟩ : ∃ m, K.length = m + 1 := ⟨K.length - 1, by omega⟩
  rw [hm] at hS hcap
  obtain ⟨q, hq⟩ : ∃ q, K[m]? = some q := ⟨_, List.getElem?_eq_getElem (by omega)⟩
  have HQ := Lib.hid hq
  have HT := Lib.hid ht
  have HS := Lib.hid hS
  have HK := Lib.hid hK
  have HB := Lib.hid hB
  have hm2 : m ≤ 1900000 := by omega
  have HM := Lib.hid hm
  have hRs : R ≤ w.heap.size := by have := hS.lt; have := hS.1; omega
  have hMl := meth_len w H _ hS.cell
  have hMs := meth_swap w H _ hS.cell
  have t1 : IntKind.i64.wrap (((m + 1 : Nat) : Int) - 1) = (m : Int) := by rw [IntKind.wrap_i64]; omega
  clear hS hK hB ht hq hm hpos hlen
  go_enter Tryd.func73, Tryd.ntmps73
  go_wp2_with fail
  refine (len_is _ _ _ _).mono ?_
  rintro en w2 ⟨rfl, rfl⟩
  clear hMl
  go_wp2_with fail
  refine (swap_is R g (m + 1) cap L K 0 m t q _ HS.out.2.2 HT.out HQ.out).mono ?_
  rintro en w3 ⟨rfl, o3, g3⟩
  have HS3 := Lib.hid (HS.out.turn o3 (by simp [Value.ownBlock]) g3)
  have HW3 := Lib.hid ((Below.refl R w).grown g3 hRs (fun q e => (World.ownsRow.lt HS.out.2.2 q (by simpa [Value.ownBlock] using e)).1))
  have HT3 := Lib.hid (show ((K.set 0 q).set m t)[m]? = some t by rw [swap_at HQ.out HT.out, if_pos rfl])
  have HK3 : Hid (∀ y ∈ (K.set 0 q).set m t, y < N) := Lib.hid (fun y hy => HK.out y ((swap_mem HQ.out HT.out y).1 hy))
  clear o3 g3 hMs
  go_wp2_with fail
  refine (down_is R H L g (m + 1) cap _ m t _ pe HS3.out HT3.out N HK3.out (by omega) (fun W hW => HB.out W (HW3.out.trans hW))).mono ?_
  rintro en w4 ⟨⟨b, rfl⟩, ⟨K4, S4, T4⟩, b4⟩
  have HS4 := Lib.hid S4
  have HT4 := Lib.hid T4
  have HW4 := Lib.hid (HW3.out.trans b4)
  clear S4 T4 b4
  go_wp2_with fail
  refine (hpop_is R H L g m cap K4 t _ HS4.out HT4.out (by omega) hcap).mono ?_
  rintro en w5 ⟨rfl, b5⟩
  have HW5 := Lib.hid (HW4.out.trans b5)
  clear b5
  go_wp2_with fail
  go_ret
  exact ⟨rfl, HW5.out⟩
end Go.Proofs.YtfjfcdifnfffbaaDoor
