/-
  The law that peers make no ring: the walk.
-/
import Derived.Test.YtnljcppefnaapaaHoImp
import Derived.Test.YtnljcppefnaapaaHoDs
import Derived.Test.YtnljcppefnaapaaJ2
namespace Go.Proofs.Ytnljcppefnaapaa
open Go.RowKit
set_option linter.unusedSimpArgs false
set_option linter.unusedVariables false

/-- all are peers -/
def peerRow (n i : Nat) : List Int := (List.range n).map fun k => if k = i then 0 else 2
def peersM (n : Nat) : Mat := (List.range n).map (peerRow n)
theorem peerRow_len (n i : Nat) : (peerRow n i).length = n := by simp [peerRow]
theorem peersM_len (n : Nat) : (peersM n).length = n := by simp [peersM]
theorem peersM_at {n i : Nat} (hi : i < n) : (peersM n).getD i [] = peerRow n i := by simp [peersM, List.getD, hi]
theorem peers_mAt {n i k : Nat} (hi : i < n) (hk : k < n) : mAt (peersM n) i k = if k = i then 0 else 2 := by
  rw [mAt, peersM_at hi]; simp [peerRow, List.getD, hk]
theorem peers_good {n : Nat} (h1 : 1 ≤ n) (h5 : n ≤ 5) : RelsGood (peersM n) := by
  have hl := peersM_len n
  refine ⟨by omega, fun i hi => ?_, fun i k hi hk => ?_, fun i k hi hk => ?_, fun i hi => ?_⟩
  · rw [hl] at hi ⊢; rw [peersM_at hi, peerRow_len]
  · rw [hl] at hi hk; rw [peers_mAt hi hk]; split <;> omega
  · rw [hl] at hi hk
    rw [peers_mAt hi hk, peers_mAt hk hi]
    by_cases e : k = i
    · subst e; simp [relB]
    · rw [if_neg e, if_neg (fun q => e q.symm)]; rfl
  · rw [hl] at hi; rw [peers_mAt hi hi]; simp
def upto1 (n : Nat) : List Int := (List.range n).map (fun (i : Nat) => ((i : Int) + 1))
theorem peers_order {n : Nat} (h1 : 1 ≤ n) (h5 : n ≤ 5) : relsOrder (peersM n) = (upto1 n, true) := by
  have ho := (relsOk_iff _).2 (peers_good h1 h5)
  have hU : orderM (peersM n) = upto1 n := by
    have h := orderN_peers (M := peersM n) (fun i k hi hk => by rw [peersM_len] at hi hk; rw [peers_mAt hi hk]; split <;> omega) n (by rw [peersM_len]; exact Nat.le_refl _)
    rw [orderM, peersM_len, h]; rfl
  have hf : relsFree (peersM n) = true := by simp [relsFree, ho, hU, upto1, peersM_len]
  rw [relsOrder, if_pos hf, hU]
theorem peers_free {n : Nat} (h1 : 1 ≤ n) (h5 : n ≤ 5) : relsFree (peersM n) = true := by
  rw [← relsOrder_free, peers_order h1 h5]
theorem peers_take {n i : Nat} (hi : i < n) : (peersM n).take (i + 1) = (peersM n).take i ++ [peerRow n i] := by
  rw [List.take_add_one]; simp [peersM, hi]
theorem upto1_succ (n : Nat) : upto1 (n + 1) = upto1 n ++ [(n : Int) + 1] := by simp [upto1, List.range_succ]
/-- a row as far as it is written -/
def peerK (n i K : Nat) : List Int := (List.range n).map fun k => if k < K ∧ k ≠ i then 2 else 0
theorem peerK_0 (n i : Nat) : peerK n i 0 = List.replicate n 0 := by simp [peerK, List.map_const']
theorem peerK_len (n i K : Nat) : (peerK n i K).length = n := by simp [peerK]
theorem peerK_all (n i : Nat) : peerK n i n = peerRow n i := by
  refine List.map_congr_left fun k hk => ?_
  have := List.mem_range.1 hk
  by_cases e : k = i <;> simp [e, this]
theorem peerK_set {n i K : Nat} (h : K ≠ i) : (peerK n i K).set K 2 = peerK n i (K + 1) := by
  refine List.ext_getElem? fun j => ?_
  by_cases hj : j < n
  · by_cases e : K = j
    · subst e
      rw [List.getElem?_set_self (by rw [peerK_len]; exact hj)]
      simp [peerK, hj, h]
    · rw [List.getElem?_set_ne e]
      simp only [peerK, List.getElem?_map, List.getElem?_range hj, Option.map_some]
      congr 1
      by_cases q : j < K
      · simp [q, Nat.lt_succ_of_lt q]
      · have : ¬ j < K + 1 := by omega
        simp [q, this]
  · rw [List.getElem?_eq_none (by rw [List.length_set, peerK_len]; omega), List.getElem?_eq_none (by rw [peerK_len]; omega)]
theorem peerK_skip {n i : Nat} : peerK n i (i + 1) = peerK n i i := by
  refine List.map_congr_left fun k hk => ?_
  by_cases q : k < i
  · have h2 : k < i + 1 := by omega
    simp [q, h2]
  · by_cases e : k = i
    · simp [e]
    · have : ¬ k < i + 1 := by omega
      simp [q, this]
/-- own slices whose first numbers differ lie apart -/
theorem apart_head {w : World} {R R' : Nat} {v v' : Value} {L L' : List Int} {x y : Int} (h : OwnI w R v L) (h' : OwnI w R' v' L') (hx : L[0]? = some x) (hy : L'[0]? = some y) (hxy : x ≠ y) : v.ownBlock = none ∨ v.ownBlock ≠ v'.ownBlock := by
  rcases h.2 with ⟨e0, _⟩ | ⟨g, cap, cur, e0, _⟩
  · rw [e0]; exact .inl (by simp [Value.ownBlock])
  · refine .inr fun q => ?_
    rcases h'.2 with ⟨e2, _⟩ | ⟨g', c', cur', e2, _⟩
    · rw [e0, e2] at q; simp [Value.ownBlock] at q
    · have e3 : g = g' := by rw [e0, e2] at q; simpa [Value.ownBlock] using q
      subst e3
      have hL := (List.getElem?_eq_some_iff.1 hx)
      have hL' := (List.getElem?_eq_some_iff.1 hy)
      subst e0 e2
      have c1 := owni_cell h hL.1
      have c2 := owni_cell h' hL'.1
      rw [c1, hL.2, hL'.2] at c2
      simp at c2
      exact hxy c2
theorem MaR.keptI {W W' : World} {R : Nat} {v : Value} {L : List IR} {row : Option Nat} (h : MaR W R v L) (hg : W.grownBy W' row) (hr : ∀ x ∈ L, x.v.ownBlock = none ∨ x.v.ownBlock ≠ row) (hv : v.ownBlock = none ∨ v.ownBlock ≠ row) : MaR W' R v L :=
  ⟨World.ownsRow.kept h.row hg hv, fun x hx => World.ownsRow.kept (h.own x hx) hg (hr x hx), h.ap⟩
theorem peer_head {Q : List IR} {N I : Nat} (h : matP Q = (peersM N).take I) (h1 : 1 ≤ N) {x : IR} (hx : x ∈ Q) : ∃ r, x.P[0]? = some r ∧ r ≠ 1 := by
  have h2 : x.P ∈ (peersM N).take I := by rw [← h]; exact List.mem_map_of_mem hx
  obtain ⟨j, _, e⟩ := List.mem_map.1 (List.mem_of_mem_take h2)
  refine ⟨if 0 = j then 0 else 2, ?_, by split <;> decide⟩
  rw [← e, peerRow, List.getElem?_map, List.getElem?_range (by omega)]
  rfl
theorem upto1_head {I : Nat} (h : 1 ≤ I) : (upto1 I)[0]? = some 1 := by
  rw [upto1, List.getElem?_map, List.getElem?_range (by omega)]; rfl
theorem upto1_len (n : Nat) : (upto1 n).length = n := by simp [upto1]
set_option maxRecDepth 100000 in
set_option maxHeartbeats 8000000 in
theorem lawRelsPeers (a0 : Option Addr) (len0 cap0 : Nat) (zs0 : List Int) (a1 : Option Addr) (len1 cap1 : Nat) (zs1 : List Int) (w : World) (h0 : IsRow w a0 len0 cap0 zs0) (h1 : IsRow w a1 len1 cap1 zs1) :
    Calls Try.prog 11 #[.slice a0 len0 cap0, .slice a1 len1 cap1] w fun e w' => e = .returned (.bool true) ∧ Below w.heap.size w w' := by
  have H0 := Lib.hid h0
  clear h0 h1
  by_cases hl0 : (1048576 : Int) < (len0 : Int)
  · go_enter Try.func11, Try.ntmps11
    go_wp2_with fail
    go_ret
    exact ⟨rfl, Below.refl _ _⟩
  by_cases hl1 : (1048576 : Int) < (len1 : Int)
  · go_enter Try.func11, Try.ntmps11
    go_wp2_with fail
    go_ret
    exact ⟨rfl, Below.refl _ _⟩
  obtain ⟨i0, hi, hz0, hz1, hz2⟩ := info_parts infoI
  have HINF := Lib.hid (And.intro hi (And.intro hz0 (And.intro hz1 hz2)))
  clear hi hz0 hz1 hz2
  go_enter Try.func11, Try.ntmps11
  go_wp2_with fail
  refine (dRelsOrder_any a0 len0 cap0 zs0 _ H0.out).mono ?_
  rintro en w1 ⟨v, L, rfl, hD⟩
  obtain ⟨a, c, rfl, _⟩ := OwnM.tab hD.par.row
  have HB1 := Lib.hid hD.bel
  have Aq_1 := Lib.hid hD.par.mat
  have hlen := hD.len
  clear hD
  obtain ⟨U, x, hy⟩ : ∃ U x, relsOrder (matP L) = (U, x) := ⟨_, _, rfl⟩
  have HY := Lib.hid hy
  have hxx : (x != x) = false := by simp
  have hUl : U.length ≤ 2000000 := by
    have h1 : U.length ≤ (matP L).length := by
      unfold relsOrder at hy
      split at hy
      · simp only [Prod.mk.injEq] at hy; rw [← hy.1]; exact orderM_le _
      · simp only [Prod.mk.injEq] at hy; rw [← hy.1]; simp
    rw [matP_len] at h1; omega
  clear hy
  go_wp2_with fail
  refine (srelsorder_is L HY.out a c _ _ rfl Aq_1.out (by omega)).mono ?_
  rintro en w2 ⟨v1, rfl, hI⟩
  obtain ⟨ta1, tc1, rfl, _, _⟩ := OwnI.tab hI.1
  have HB2 := Lib.hid (next HB1.out hI.2)
  have O1 := Lib.hid hI.1
  have Aq_2 := Lib.hid (Aq_1.out.below hI.2)
  clear hI Aq_1
  go_wp2_with fail
  refine (irelsorder_is L HY.out a c _ _ rfl Aq_2.out (by omega)).mono ?_
  rintro en w3 ⟨v2, rfl, hI⟩
  obtain ⟨ta2, tc2, rfl, _, _⟩ := OwnI.tab hI.1
  have HB3 := Lib.hid (next HB2.out hI.2)
  have O2 := Lib.hid hI.1
  have O1_3 := Lib.hid (owni_later O1.out hI.2)
  clear hI Aq_2 O1
  go_wp2_with fail
  refine (lyI_is (show decide (U = U) = true from decide_eq_true rfl) ta2 ta1 tc2 tc1 _ _ _ rfl rfl (OwnI.intA O2.out).2.2 (OwnI.intA O1_3.out).2.2 (by omega) (by omega)).mono ?_
  rintro en w4 ⟨rfl, b⟩
  have HB4 := Lib.hid (next HB3.out b)
  clear b O1_3 O2
  obtain ⟨N, hN⟩ : ∃ N, 1 + len1 % 5 = N := ⟨_, rfl⟩
  have hN1 : 1 ≤ N ∧ N ≤ 5 := by omega
  have t3 : (1 : Int) + (len1 : Int) % 5 = (N : Int) := by omega
  clear hN
  have I0 := Lib.hid (mar_empty w4 w4.heap.size (Nat.le_refl _))
  have J0 := Lib.hid (owni_empty (w4.alloc (.cells #[] 33)) w4.heap.size (by simp))
  have K0 := Lib.hid (((Below.refl w4.heap.size w4).alloc (Nat.le_refl _) (.cells #[] 33)).alloc (by simp) (.cells #[] 3))
  go_wp2_with fail
  try rw [t3]
  clear t3
  have I1 : ∃ (Q : List IR) (O : List Int), Hid (matP Q = (peersM N).take 0) ∧ Hid (O = upto1 0) ∧ Hid (MaR ((w4.alloc (.cells #[] 33)).alloc (.cells #[] 3)) w4.heap.size (.slice (some ⟨w4.heap.size, 0, none⟩) 0 0) Q) ∧ Hid (OwnI ((w4.alloc (.cells #[] 33)).alloc (.cells #[] 3)) w4.heap.size (.slice (some ⟨w4.heap.size + 1, 0, none⟩) 0 0) O) ∧ Q.length ≤ 0 ∧ O.length ≤ 0 :=
    ⟨[], [], Lib.hid rfl, Lib.hid rfl, Lib.hid (I0.out.alloc _), Lib.hid (by have := J0.out; simp only [World.size_alloc] at this; exact this), Nat.le_refl _, Nat.le_refl _⟩
  clear I0 J0
  go_loopw [11, 12, 13] (fun p o i wr => ∃ I : Nat, I ≤ N ∧ i = .int .i64 I ∧ (∃ (Q : List IR) (O : List Int), Hid (matP Q = (peersM N).take I) ∧ Hid (O = upto1 I) ∧ Hid (MaR wr w4.heap.size p Q) ∧ Hid (OwnI wr w4.heap.size o O) ∧ Q.length ≤ I ∧ O.length ≤ I) ∧ Hid (Below w4.heap.size w4 wr)) (fun _ _ i _ => N - (intOf i).toNat)
  case atStart => exact ⟨0, Nat.zero_le _, rfl, I1, K0⟩
  case round =>
    clear I1 K0
    obtain ⟨I, hI, rfl, ⟨Q, O, HQ, HO, MQ, OO, lQ, lO⟩, HW⟩ := hrel
    obtain ⟨ta, tc, rfl, _⟩ := OwnM.tab MQ.out.row
    obtain ⟨oa, oc, rfl, _, _⟩ := OwnI.tab OO.out
    by_cases hlt : I < N
    · have i1 : (I : Int) < (N : Int) := by omega
      have hNg : 0 ≤ (N : Int) := by omega
      have LT := Lib.hid (MaR.lt MQ.out)
      have PLT := Lib.hid (fun k (hk : (Value.slice ta Q.length tc).ownBlock = some k) => (World.ownsRow.lt MQ.out.row k hk).2)
      have OLT := Lib.hid (fun k (hk : (Value.slice oa O.length oc).ownBlock = some k) => (OO.out.lt k hk).2)
      have hwB := HW.out.size
      go_wp2_with (refine wpList_make_full _ rfl (.tmp 58) (.tmp 58) 33 rfl wr.heap.size 3 i0 (.int .i64 0) 1 Try.underlying33 HINF.out.1 HINF.out.2.1 HINF.out.2.2.1 .i64 .i64 _ _ N rfl rfl rfl rfl (by rw [HINF.out.2.2.2]; omega) (by unfold maxLen; omega) (Nat.le_refl _) ?_)
      intro w6 own6 grow6
      have hmade := madeI N
      rw [Nat.mul_one] at hmade
      rw [hmade] at own6
      have b6 : Below wr.heap.size wr w6 := (Below.refl _ _).grown grow6 (Nat.le_refl _) (fun _ h => by cases h)
      have Y6 := Lib.hid (show OwnI w6 wr.heap.size (.slice (some ⟨wr.heap.size, 0, none⟩) N N) (peerK N I 0) by rw [OwnI, peerK_len, peerK_0]; exact own6)
      have MQ6 := Lib.hid (MQ.out.later b6)
      have OO6 := Lib.hid (owni_later OO.out b6)
      have HW6 := Lib.hid (next HW.out b6)
      clear hmade own6 grow6 b6 MQ OO HW
      generalize wr.heap.size = G at *
      go_wp2_with fail
      go_loopw [15] (fun k wr => ∃ K : Nat, K ≤ N ∧ k = .int .i64 K ∧ Hid (OwnI wr G (.slice (some ⟨G, 0, none⟩) N N) (peerK N I K)) ∧ Hid (w6.grownBy wr (some G))) (fun k _ => N - (intOf k).toNat)
      case atStart => exact ⟨0, Nat.zero_le _, rfl, Y6, Lib.hid (World.grownBy.refl _ _)⟩
      case round =>
        clear Y6
        obtain ⟨K, hK, rfl, HY, HG⟩ := hrel
        by_cases hkt : K < N
        · have k0 : (0 : Int) ≤ (K : Int) := by omega
          have k1 : (K : Int) < (N : Int) := by omega
          by_cases hki : K = I
          · have e1 : ((K : Int) != (I : Int)) = false := by simp [hki]
            have HY2 := Lib.hid (show OwnI wr G (.slice (some ⟨G, 0, none⟩) N N) (peerK N I (K + 1)) by have h := HY.out; rw [hki] at h ⊢; rw [peerK_skip]; exact h)
            clear hki
            go_wp2_with fail
            go_roundw
            case rel => exact ⟨K + 1, by omega, by go_num, HY2, HG⟩
            case measure => simp [intOf]; omega
          · have e1 : ((K : Int) != (I : Int)) = true := by simp; omega
            have HYp := Lib.hid (show OwnI wr G (.slice (some ⟨G, 0, none⟩) (peerK N I K).length N) (peerK N I K) by rw [peerK_len]; exact HY.out)
            have hkl : K < (peerK N I K).length := by rw [peerK_len]; exact hkt
            have HS := Lib.hid (peerK_set (n := N) hki)
            go_wp2_with (refine wpList_stI rfl (.tmp 70) (.const (.int .i64 2)) rfl G G N K (peerK N I K) 2 ?x5 rfl HYp.out hkl ?g5)
            try case x5 => rfl
            intro w5 o5 g5
            have HY2 := Lib.hid (show OwnI w5 G (.slice (some ⟨G, 0, none⟩) N N) (peerK N I (K + 1)) by rw [HS.out, peerK_len] at o5; exact o5)
            have HG2 := Lib.hid (only_on HG.out g5)
            clear o5 g5
            go_wp2_with fail
            go_roundw
            case rel => exact ⟨K + 1, by omega, by go_num, HY2, HG2⟩
            case measure => simp [intOf]; omega
        · obtain rfl : K = N := by omega
          have HYr := Lib.hid (show OwnI wr G (.slice (some ⟨G, 0, none⟩) K K) (peerRow K I) by rw [← peerK_all]; exact HY.out)
          have PQ := Lib.hid (show MaR wr w4.heap.size (.slice ta Q.length tc) Q from MaR.keptI MQ6.out HG.out (fun x hx => by
            cases e : x.v.ownBlock with
            | none => exact .inl rfl
            | some k => exact .inr (fun q => by have := LT.out x hx k e; simp at q; omega)) (by
            cases e : (Value.slice ta Q.length tc).ownBlock with
            | none => exact .inl rfl
            | some k => exact .inr (fun q => by have := PLT.out k e; simp at q; omega)))
          have PO := Lib.hid (show OwnI wr w4.heap.size (.slice oa O.length oc) O from World.ownsRow.kept OO6.out HG.out (by
            cases e : (Value.slice oa O.length oc).ownBlock with
            | none => exact .inl rfl
            | some k => exact .inr (fun q => by have := OLT.out k e; simp at q; omega)))
          have PW := Lib.hid (HW6.out.grown HG.out HW6.out.size (fun k hk => by cases hk; exact hwB))
          have hlq : Q.length ≤ 2000000 := by omega
          clear HY HG MQ6 OO6 HW6 PLT
          go_wp2_with (at_builtin; refine wpList_appM rfl (.tmp 71) (.tmp 73) rfl w4.heap.size (.slice ta Q.length tc) Q ?s1 ?o1 wr.heap.size ⟨some ⟨G, 0, none⟩, K, peerRow K I⟩ ?x1 ?m1 hlq ?r1 ?h1)
          try case s1 => rfl
          try case o1 => exact PQ.out.row.alloc _
          try case x1 => rfl
          try case m1 => (rw [World.cell?_alloc_new]; simp [IR.v, peerRow_len])
          try case r1 => (have := PW.out.size; simp; omega)
          intro v7 w7 own7 grow7
          have Y7 := Lib.hid (show OwnI (wr.alloc (.cells #[.slice (some ⟨G, 0, none⟩) K K] 33)) G (IR.v ⟨some ⟨G, 0, none⟩, K, peerRow K I⟩) (peerRow K I) by
            have h1 : OwnI wr G (.slice (some ⟨G, 0, none⟩) (peerRow K I).length K) (peerRow K I) := by rw [peerRow_len]; exact HYr.out
            exact World.ownsRow.alloc h1 _)
          have M7 := Lib.hid (MaR.app (PQ.out.alloc _) hwB LT.out Y7.out own7 grow7)
          have O7 := Lib.hid (World.ownsRow.kept (World.ownsRow.alloc PO.out _) grow7 (mrows_apart PO.out PQ.out.row (by decide)))
          have W7 := Lib.hid ((PW.out.alloc PW.out.size _).grown grow7 (by have := PW.out.size; simp; omega) (fun k e => (World.ownsRow.lt PQ.out.row k e).1))
          clear own7 grow7 PQ PO PW Y7 HYr
          go_wp2_with (at_builtin; refine wpList_appI rfl (.tmp 75) (.tmp 78) rfl w4.heap.size (.slice oa O.length oc) O rfl (O7.out.alloc _) _ 1 [(I : Int) + 1] rfl (pnews1 w7 _) (by simp) ?hl2 ?hR2 ?hgo2)
          case hl2 => (first | omega | (simp; omega))
          case hR2 => (have := W7.out.size; (try simp only [World.size_alloc]); omega)
          intro v8 w8 own8 grow8
          have hO8 := Lib.hid (show O ++ [(I : Int) + 1] = upto1 (I + 1) by rw [upto1_succ, HO.out])
          have hQ8 := Lib.hid (show matP (Q ++ [(⟨some ⟨G, 0, none⟩, K, peerRow K I⟩ : IR)]) = (peersM K).take (I + 1) by rw [peers_take hlt, ← HQ.out]; simp [matP])
          have O8 := Lib.hid (show OwnI w8 w4.heap.size v8 (O ++ [(I : Int) + 1]) by simpa using own8)
          have M8 := Lib.hid (MaR.keptI (M7.out.alloc _) grow8 (fun x hx => by
            rcases List.mem_append.1 hx with q | q
            · by_cases h0 : I = 0
              · exfalso
                have hq0 : Q = [] := List.eq_nil_of_length_eq_zero (by omega)
                rw [hq0] at q; cases q
              · obtain ⟨r, hr, hr1⟩ := peer_head HQ.out hN1.1 q
                exact apart_head (M7.out.own x hx) O7.out hr (by rw [HO.out]; exact upto1_head (by omega)) hr1
            · obtain rfl : x = _ := by simpa using q
              cases e : (Value.slice oa O.length oc).ownBlock with
              | none => exact .inr (by simp [IR.v, Value.ownBlock])
              | some k => exact .inr (fun q2 => by have := OLT.out k e; simp [IR.v, Value.ownBlock] at q2; omega)) (mrows_apart M7.out.row O7.out (by decide)))
          have W8 := Lib.hid ((W7.out.alloc W7.out.size _).grown grow8 (by have := W7.out.size; simp; omega) (fun k e => (O7.out.lt k e).1))
          have l8 : (Q ++ [(⟨some ⟨G, 0, none⟩, K, peerRow K I⟩ : IR)]).length ≤ I + 1 := by simp; omega
          have m8 : (O ++ [(I : Int) + 1]).length ≤ I + 1 := by simp; omega
          clear own8 grow8 M7 O7 W7
          go_wp2_with fail
          go_roundw
          case rel => exact ⟨I + 1, by omega, by go_num, ⟨_, _, hQ8, hO8, M8, O8, l8, m8⟩, W8⟩
          case measure => simp [intOf]; omega
    · obtain rfl : I = N := by omega
      have hall : (peersM I).take I = peersM I := List.take_of_length_le (by rw [peersM_len]; exact Nat.le_refl _)
      have hQall := Lib.hid (HQ.out.trans hall)
      clear hall
      have HP := Lib.hid (show relsOrder (matP Q) = (upto1 I, true) by rw [hQall.out]; exact peers_order hN1.1 hN1.2)
      have HPF := Lib.hid (show relsFree (matP Q) = true by rw [hQall.out]; exact peers_free hN1.1 hN1.2)
      have HBr := Lib.hid (next HB4.out HW.out)
      have HEQ := Lib.hid (show decide (upto1 I = O) = true by rw [HO.out]; simp)
      have lU : (upto1 I).length ≤ 2000000 := by rw [upto1_len]; omega
      have mA := Lib.hid MQ.out.mat
      have lq2 : Q.length ≤ 2000000 := by omega
      have lo2 : O.length ≤ 2000000 := by omega
      have OI := Lib.hid (OwnI.intA OO.out).2.2
      clear MQ OO HW hQall HO HQ
      go_wp2_with fail
      refine (irelsorder_is Q HP.out ta tc _ _ rfl mA.out lq2).mono ?_
      rintro en w9 ⟨v9, rfl, hI9⟩
      obtain ⟨ta9, tc9, rfl, _, _⟩ := OwnI.tab hI9.1
      have HB9 := Lib.hid (next HBr.out hI9.2)
      have O9 := Lib.hid (OwnI.intA hI9.1).2.2
      have mA9 := Lib.hid (mA.out.below hI9.2)
      have OI9 := Lib.hid (OI.out.below hI9.2)
      clear hI9
      go_wp2_with fail
      refine (lyI_is HEQ.out ta9 oa tc9 oc _ _ _ rfl rfl O9.out OI9.out (by omega) (by omega)).mono ?_
      rintro en w10 ⟨rfl, b⟩
      have HB10 := Lib.hid (next HB9.out b)
      have mA10 := Lib.hid (mA9.out.below b)
      clear b
      go_wp2_with fail
      refine (irelsfree_is Q HPF.out ta tc _ _ rfl mA10.out lq2).mono ?_
      rintro en w11 ⟨rfl, b⟩
      have HB11 := Lib.hid (next HB10.out b)
      clear b
      go_wp2_with fail
      go_ret
      exact ⟨rfl, HB11.out⟩
end Go.Proofs.Ytnljcppefnaapaa
