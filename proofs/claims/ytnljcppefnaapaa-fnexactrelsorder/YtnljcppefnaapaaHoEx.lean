/-
  What the exact laws call on matrices: sz, eq, to.
-/
import Derived.Test.YtnljcppefnaapaaHoDr
namespace Go.Proofs.Ytnljcppefnaapaa
open Go.RowKit
set_option linter.unusedSimpArgs false
set_option linter.unusedVariables false

def hszI (left : Int) (n : Nat) : Int := if left < n then -1 else left - n
theorem hszI_is {left : Int} {n : Nat} {z : Int} (h : hszI left n = z) (h0 : 0 ≤ left) (h1 : left ≤ 2000000) (hn : n ≤ 9223372036854775807) (a : Option Addr) (cap : Nat) (w : World) :
    Calls Try.prog 54 #[.slice a n cap, .int .i64 left] w fun e w' => e = .returned (.int .i64 z) ∧ w = w' := by
  by_cases hl : left < n
  · have HX := Lib.hid (show -1 = z by rw [← h, hszI, if_pos hl])
    have hlt : left - (n : Int) < 0 := by omega
    clear h
    go_enter Try.func54, Try.ntmps54
    go_wp2_with fail
    go_ret
    exact ⟨ret_int HX.out, rfl⟩
  · have HX := Lib.hid (show left - n = z by rw [← h, hszI, if_neg hl])
    have hlt : ¬ left - (n : Int) < 0 := by omega
    clear h
    go_enter Try.func54, Try.ntmps54
    go_wp2_with fail
    go_ret
    exact ⟨ret_int HX.out, rfl⟩
set_option maxRecDepth 100000 in
set_option maxHeartbeats 2000000 in
theorem szss_any (L : List IR) (a : Option Addr) (cap n : Nat) (w : World) (hn : n = L.length) (hA : MatA w a L) (hl : L.length ≤ 9223372036854775807) (hr : ∀ x ∈ L, x.P.length ≤ 9223372036854775807) :
    Calls Try.prog 34 #[.slice a n cap, .int .i64 1048576] w fun e w' => ∃ z, e = .returned (.int .i64 z) ∧ (0 ≤ z → L.length ≤ 1048576 ∧ ∀ x ∈ L, x.P.length ≤ 1048576) ∧ w = w' := by
  subst hn
  have HA := Lib.hid hA
  have HR := Lib.hid hr
  clear hA hr
  have s1 : IntKind.i64.wrap (1048576 - (L.length : Int)) = 1048576 - (L.length : Int) := by rw [IntKind.wrap_i64]; omega
  by_cases hbig : 1048576 < L.length
  · have d1 : (1048576 : Int) - (L.length : Int) < 0 := by omega
    go_enter Try.func34, Try.ntmps34
    go_wp2_with fail
    go_ret
    exact ⟨-1, rfl, fun h => by omega, rfl⟩
  · have d1 : ¬ (1048576 : Int) - (L.length : Int) < 0 := by omega
    go_enter Try.func34, Try.ntmps34
    go_wp2_with fail
    go_loopw [1, 5] (fun q i wr => ∃ (k : Nat) (z : Int), i = .int .i64 (k : Int) ∧ q = .int .i64 z ∧ k ≤ L.length ∧ 0 ≤ z ∧ z ≤ 1048576 ∧ Hid (∀ (j : Nat) v, j < k → L[j]? = some v → v.P.length ≤ 1048576) ∧ wr = w) (fun _ i _ => L.length - (intOf i).toNat)
    case atStart => exact ⟨0, _, rfl, rfl, Nat.zero_le _, by omega, by omega, Lib.hid (fun j v hj => by omega), rfl⟩
    case round =>
      obtain ⟨k, z, rfl, rfl, hk, hz0, hz1, HS, rfl⟩ := hrel
      by_cases hlt : k < L.length
      · obtain ⟨v, hv⟩ : ∃ v, L[k]? = some v := ⟨_, List.getElem?_eq_getElem hlt⟩
        have HV := Lib.hid hv
        have hrv := HR.out v (List.mem_of_getElem? hv)
        obtain ⟨va, vc, vP⟩ := v
        obtain ⟨b, off, rfl, c0, _, _⟩ := HA.out.at hv
        dsimp only at c0 hrv
        have i0 : (0 : Int) ≤ (k : Int) := by omega
        have i1 : (k : Int) < (L.length : Int) := by omega
        clear hv
        by_cases hfit : (vP.length : Int) ≤ z
        · have HZ := Lib.hid (show hszI z vP.length = z - vP.length by rw [hszI, if_neg (by omega)])
          have HS2 : Hid (∀ (j : Nat) u, j < k + 1 → L[j]? = some u → u.P.length ≤ 1048576) := Lib.hid (fun j u hj hu => by
            by_cases e : j = k
            · subst e
              rw [HV.out] at hu
              cases hu
              dsimp only
              omega
            · exact HS.out j u (by omega) hu)
          obtain ⟨y, hy⟩ : ∃ y, z - (vP.length : Int) = y := ⟨_, rfl⟩
          rw [hy] at HZ
          have hy0 : 0 ≤ y ∧ y ≤ 1048576 := by omega
          have d2 : ¬ y < 0 := by omega
          clear hy hfit
          go_wp2_with fail
          refine (hszI_is HZ.out hz0 (by omega) hrv _ _ _).mono ?_
          rintro en w3 ⟨rfl, rfl⟩
          clear c0
          go_wp2_with fail
          go_roundw
          case rel => exact ⟨k + 1, y, by go_num, rfl, by omega, hy0.1, hy0.2, HS2, by first | rfl | trivial⟩
          case measure => simp [intOf]; omega
        · have HZ := Lib.hid (show hszI z vP.length = -1 by rw [hszI, if_pos (by omega)])
          go_wp2_with fail
          refine (hszI_is HZ.out hz0 (by omega) hrv _ _ _).mono ?_
          rintro en w3 ⟨rfl, rfl⟩
          clear c0
          go_wp2_with fail
          go_ret
          exact ⟨-1, rfl, fun h => by omega, rfl⟩
      · obtain rfl : k = L.length := by omega
        go_wp2_with fail
        go_ret
        exact ⟨z, rfl, fun _ => ⟨by omega, fun v hv => by
          obtain ⟨i, hi⟩ := List.mem_iff_getElem?.1 hv
          exact HS.out i v (List.getElem?_eq_some_iff.1 hi).1 hi⟩, rfl⟩
theorem mrow_eq {L M : List IR} (h : matP L = matP M) {k : Nat} {x y : IR} (hx : L[k]? = some x) (hy : M[k]? = some y) : x.P = y.P := by
  have h1 := matP_at hx
  rw [h, matP_at hy] at h1
  exact h1.symm
set_option maxRecDepth 100000 in
set_option maxHeartbeats 2000000 in
theorem eqss_is (L M : List IR) (a a' : Option Addr) (cap cap' n m : Nat) (w : World) (hn : n = L.length) (hm : m = M.length) (hA : MatA w a L) (hB : MatA w a' M) (he : matP L = matP M) (hl : L.length ≤ 1100000) (hs : ∀ x ∈ L, x.P.length ≤ 2000000) :
    Calls Try.prog 36 #[.slice a n cap, .slice a' m cap'] w fun e w' => e = .returned (.bool true) ∧ Below w.heap.size w w' := by
  subst hn hm
  have hlen : L.length = M.length := by have := congrArg List.length he; simpa [matP] using this
  have HA := Lib.hid hA
  have HB := Lib.hid hB
  have HQ := Lib.hid he
  have HL := Lib.hid hlen
  have HS := Lib.hid hs
  have e1 : ((L.length : Int) != (M.length : Int)) = false := by rw [hlen]; simp
  clear hA hB he hlen hs
  go_enter Try.func36, Try.ntmps36
  go_wp2_with fail
  go_loopw [5] (fun i wr => ∃ (k : Nat), i = .int .i64 (k : Int) ∧ k ≤ L.length ∧ Hid (Below w.heap.size w wr)) (fun i _ => L.length - (intOf i).toNat)
  case atStart => exact ⟨0, rfl, Nat.zero_le _, Lib.hid (Below.refl _ _)⟩
  case round =>
    obtain ⟨k, rfl, hk, HW⟩ := hrel
    by_cases hlt : k < L.length
    · obtain ⟨v, hv⟩ : ∃ v, L[k]? = some v := ⟨_, List.getElem?_eq_getElem hlt⟩
      obtain ⟨u, hu⟩ : ∃ u, M[k]? = some u := ⟨_, List.getElem?_eq_getElem (by have := HL.out; omega)⟩
      have hpq := mrow_eq HQ.out hv hu
      have hsv := HS.out v (List.mem_of_getElem? hv)
      obtain ⟨va, vc, vP⟩ := v
      obtain ⟨ua, uc, uP⟩ := u
      obtain ⟨b, off, rfl, hq, hm1, _⟩ := (HA.out.below HW.out).at hv
      obtain ⟨b', off', rfl, hr, hm2, _⟩ := (HB.out.below HW.out).at hu
      dsimp only at hq hr hm1 hm2 hpq hsv
      subst hpq
      have HC := Lib.hid (And.intro hq hr)
      have HM1 := Lib.hid hm1
      have HM2 := Lib.hid hm2
      have i0 : (0 : Int) ≤ (k : Int) := by omega
      have i1 : (k : Int) < (L.length : Int) := by omega
      have i2 : (k : Int) < (M.length : Int) := by have := HL.out; omega
      clear hv hu hq hr hm1 hm2
      go_wp2_with fail
      refine wp_region_held_drew (S := fun W => (W.cell? ⟨b, off + k, none⟩ = some (.slice va vP.length vc) ∧ W.cell? ⟨b', off' + k, none⟩ = some (.slice ua vP.length uc)) ∧ Hid (Below w.heap.size w W ∧ IntA W va vP ∧ IntA W ua vP)) (by kernel_rfl) ?_ (fun hHeld => ?_)
      · exact ⟨HC.out, Lib.hid ⟨HW.out.drew, HM1.out, HM2.out⟩⟩
      refine takeH (i := 0) (v := ?_) rfl rfl (by kernel_rfl) (by kernel_rfl) (by kernel_rfl) (fun _ _ _ h => h) (by rfl) ?_ (by assumption) ?_
      rotate_left 1
      · intro w hSw
        (try dsimp only at hSw)
        go_simp
        try with_reducible rfl
      try simp only [List.setIfInBounds_toArray, List.set_cons_zero, List.set_cons_succ]
      refine takeH (i := 1) (v := ?_) rfl rfl (by kernel_rfl) (by kernel_rfl) (by kernel_rfl) (fun _ _ _ h => h) (by rfl) ?_ (by assumption) ?_
      rotate_left 1
      · intro w hSw
        (try dsimp only at hSw)
        go_simp
        try with_reducible rfl
      try simp only [List.setIfInBounds_toArray, List.set_cons_zero, List.set_cons_succ]
      refine takeH (i := 2) (v := ?_) rfl rfl (by kernel_rfl) (by kernel_rfl) (by kernel_rfl) (fun _ _ _ h => h) (by rfl) ?_ (by assumption) ?_
      rotate_left 1
      · intro w hSw
        (try dsimp only at hSw)
        go_simp
        try with_reducible rfl
      try simp only [List.setIfInBounds_toArray, List.set_cons_zero, List.set_cons_succ]
      refine takeH (i := 3) (v := ?_) rfl rfl (by kernel_rfl) (by kernel_rfl) (by kernel_rfl) (fun _ _ _ h => h) (by rfl) ?_ (by assumption) ?_
      rotate_left 1
      · intro w hSw
        (try dsimp only at hSw)
        go_simp
        try with_reducible rfl
      try simp only [List.setIfInBounds_toArray, List.set_cons_zero, List.set_cons_succ]
      refine takeH (i := 4) (v := ?_) rfl rfl (by kernel_rfl) (by kernel_rfl) (by kernel_rfl) (fun _ _ _ h => h) (by rfl) ?_ (by assumption) ?_
      rotate_left 1
      · intro w hSw
        (try dsimp only at hSw)
        go_simp
        try with_reducible rfl
      try simp only [List.setIfInBounds_toArray, List.set_cons_zero, List.set_cons_succ]
      refine takeH (i := 5) (v := ?_) rfl rfl (by kernel_rfl) (by kernel_rfl) (by kernel_rfl) (fun _ _ _ h => h) (by rfl) ?_ (by assumption) ?_
      rotate_left 1
      · intro w hSw
        (try dsimp only at hSw)
        go_simp
        try with_reducible rfl
      try simp only [List.setIfInBounds_toArray, List.set_cons_zero, List.set_cons_succ]
      refine takeH (i := 6) (v := ?_) rfl rfl (by kernel_rfl) (by kernel_rfl) (by kernel_rfl) (fun _ _ _ h => h) (by rfl) ?_ (by assumption) ?_
      rotate_left 1
      · intro w hSw
        (try dsimp only at hSw)
        go_simp
        try with_reducible rfl
      try simp only [List.setIfInBounds_toArray, List.set_cons_zero, List.set_cons_succ]
      refine takeH (i := 7) (v := ?_) rfl rfl (by kernel_rfl) (by kernel_rfl) (by kernel_rfl) (fun _ _ _ h => h) (by rfl) ?_ (by assumption) ?_
      rotate_left 1
      · intro w hSw
        (try dsimp only at hSw)
        go_simp
        try with_reducible rfl
      try simp only [List.setIfInBounds_toArray, List.set_cons_zero, List.set_cons_succ]
      refine wpAnyH_ready (rs := [8]) (by kernel_rfl) (by simp) ?_
      refine AllReadyH.cons rfl (fun K hK => ?_) (AllReadyH.nil)
      go_simp
      refine (eqI_is (show decide (vP = vP) = true from decide_eq_true rfl) va ua vc uc _ _ _ rfl rfl hHeld.2.out.2.1 hHeld.2.out.2.2 (by omega) (by omega)).mono ?_
      rintro en wc ⟨rfl, bc⟩
      go_wp2_with fail
      refine hK.out _ _ ?_ (fun hNew => ?_)
      · exact ⟨⟨cell_later bc hHeld.1.1, cell_later bc hHeld.1.2⟩, Lib.hid ⟨next hHeld.2.out.1 bc, hHeld.2.out.2.1.below bc, hHeld.2.out.2.2.below bc⟩⟩
      clear hK K hHeld
      have hHeld := hNew
      clear hNew
      try simp only [Act.put, List.setIfInBounds_toArray, List.set_cons_zero, List.set_cons_succ]
      refine takeH (i := 9) (v := ?_) rfl rfl (by kernel_rfl) (by kernel_rfl) (by kernel_rfl) (fun _ _ _ h => h) (by rfl) ?_ (by assumption) ?_
      rotate_left 1
      · intro w hSw
        (try dsimp only at hSw)
        go_simp
        try with_reducible rfl
      try simp only [List.setIfInBounds_toArray, List.set_cons_zero, List.set_cons_succ]
      refine wpAnyH_done (by kernel_rfl) ?_ _
      have HW2 := Lib.hid hHeld.2.out.1
      clear hHeld HC HW
      go_wp2_with fail
      go_roundw
      case rel => exact ⟨k + 1, by go_num, by omega, HW2⟩
      case measure => simp [intOf]; omega
    · obtain rfl : k = L.length := by omega
      go_wp2_with fail
      go_ret
      exact ⟨rfl, HW.out⟩

/-- a row is put in -/
theorem MaR.putRow {w2 w3 : World} {R g c k N : Nat} {L : List IR} {y : IR} (h : MaR w2 R (.slice (some ⟨g, 0, none⟩) L.length c) L) (hk : k < L.length) (hN : R ≤ N) (hlt : ∀ x ∈ L, ∀ b, x.v.ownBlock = some b → b < N) (hy : OwnI w2 N y.v y.P)
    (hrow : w3.ownsRow R 33 1 (.slice (some ⟨g, 0, none⟩) L.length c) L.length (cellsR (L.set k y))) (hg : w2.grownBy w3 (some g)) : MaR w3 R (.slice (some ⟨g, 0, none⟩) L.length c) (L.set k y) := by
  have keep : ∀ x : IR, OwnI w2 R x.v x.P → OwnI w3 R x.v x.P := fun x hx => World.ownsRow.kept hx hg (by have := mrows_apart hx h.row (by decide); exact this)
  refine ⟨by rw [OwnM, List.length_set]; exact hrow, fun z hz => ?_, ?_⟩
  · rcases List.mem_or_eq_of_mem_set hz with q | rfl
    · exact keep z (h.own z q)
    · exact keep z (owni_mono hy hN)
  · rw [List.pairwise_iff_getElem]
    intro i j hi hj hij
    have hi' : i < L.length := by simpa using hi
    have hj' : j < L.length := by simpa using hj
    rw [List.getElem_set, List.getElem_set]
    by_cases e1 : k = i
    · rw [if_pos e1, if_neg (by omega)]
      intro b hb hb2
      have h1 := (hy.lt b hb).1
      have h2 := hlt _ (List.getElem_mem hj') b hb2
      omega
    · rw [if_neg e1]
      by_cases e2 : k = j
      · rw [if_pos e2]
        intro b hb hb2
        have h1 := (hy.lt b hb2).1
        have h2 := hlt _ (List.getElem_mem hi') b hb
        omega
      · rw [if_neg e2]
        exact h.apAt (List.getElem?_eq_getElem hi') (List.getElem?_eq_getElem hj') (by omega)
theorem infoM1 : (Try.prog.info? 33).map (·.size) = some 1 := by kernel_rfl
/-- a cell of an own row is stored: the world behind it is a letter -/
theorem wpList_stW {P : Program} {ops : Array Oper} {rest : List Oper} {op : Oper} {a : Act} {w : World} {Q : Exit → Act → World → Prop} (hgd : op.guard = none) (ty : TypeId) (x y : Operand) (ho : op.op = .store ty x y)
    (g i : Nat) (v : Value) (hx : a.eval x = .pointer (some ⟨g, i, none⟩)) (hy : a.eval y = v) (hc : v.cells = #[v]) (h1 : v.oneCell' = true) (hi : (P.info? ty).map (·.size) = some 1)
    (R cap n z : Nat) (e : TypeId) (xs : List Value) (hO : w.ownsRow R e z (.slice (some ⟨g, 0, none⟩) n cap) n xs) (hil : i < xs.length)
    (h : ∀ w', w'.ownsRow R e z (.slice (some ⟨g, 0, none⟩) n cap) n (xs.set i v) → w.grownBy w' (some g) → wpList P ops Q rest (a.put op.dst undef) w') : wpList P ops Q (op :: rest) a w := by
  refine wpList_plain hgd fun K hK => ?_
  have q1 : w.cell? ⟨g, i, none⟩ = some xs[i] := by
    have := World.ownsRow.cells hO (g := g) rfl i _ (List.getElem?_eq_getElem hil)
    rwa [Addr.add_mid, Nat.zero_add] at this
  have q2 := World.ownsRow.frozenAt hO i
  have hr : (storeVar ty ⟨g, i, none⟩ v).run P w = .ok () (w.setCells g i [v]) := by
    have h0 : ∀ j : Nat, j < [v].length → j = 0 := fun j hj => by simpa using hj
    have := run_storeCells_cells (P := P) g i [v] 0 w (fun j hj => by rw [h0 j hj]; simp [q1]) (fun j hj => by rw [h0 j hj]; simpa using q2) (fun u hu => by simp at hu; subst hu; exact h1)
    cases hq : P.info? ty with
    | none => simp [hq] at hi
    | some q =>
      have hs : 1 = q.size := by simp [hq] at hi; omega
      simp only [Nat.add_zero] at this
      simp [storeVar, sizeOf, typeInfo, hq, hc, hs.symm, this]
  unfold Oper.wp execOp
  simp only [ho, hx, hy, Instr.storeAt, Instr.sureAddr, Sem.run_bind, Sem.run_pure, Result.andThen_ok, hr]
  exact hK _ _ (h _ (World.ownsRow.stored hO i v).1 (World.ownsRow.stored hO i v).2)
theorem hmadeM (n : Nat) : (madeCells #[Value.slice none 0 0] n).toList = cellsR (List.replicate n ⟨none, 0, []⟩) := by
  apply List.ext_getElem?
  intro i
  by_cases hi : i < n
  · rw [cellsR_at (x := ⟨none, 0, []⟩) (by rw [List.getElem?_replicate, if_pos hi]), List.getElem?_eq_getElem (by simpa [size_madeCells] using hi)]
    simp [madeCells, Nat.mod_one]
  · rw [List.getElem?_eq_none (by simp [size_madeCells]; omega), List.getElem?_eq_none (by rw [cellsR_len]; simp; omega)]
theorem mar_rep {W : World} {R g n : Nat} (h : OwnM W R (.slice (some ⟨g, 0, none⟩) (List.replicate n (⟨none, 0, []⟩ : IR)).length n) (List.replicate n ⟨none, 0, []⟩)) : MaR W R (.slice (some ⟨g, 0, none⟩) (List.replicate n (⟨none, 0, []⟩ : IR)).length n) (List.replicate n ⟨none, 0, []⟩) := by
  refine ⟨h, fun x hx => ?_, ?_⟩
  · obtain rfl := List.eq_of_mem_replicate hx
    exact owni_nil _ _
  · rw [List.pairwise_iff_getElem]
    intro i j hi hj _ b hb
    rw [List.getElem_replicate] at hb
    simp [IR.v, Value.ownBlock] at hb
theorem cellsR_set (L : List IR) (k : Nat) (y : IR) : (cellsR L).set k y.v = cellsR (L.set k y) := by simp [cellsR, List.map_set]
set_option maxRecDepth 100000 in
set_option maxHeartbeats 2000000 in
theorem toss_own (L : List IR) (a : Option Addr) (cap n : Nat) (w : World) (hn : n = L.length) (hA : MatA w a L) (hl : L.length ≤ 1048576) (hs : ∀ x ∈ L, x.P.length ≤ 1048576) :
    Calls Try.prog 35 #[.slice a n cap] w fun e w' => ∃ (N : List IR) (g c : Nat), e = .returned (.slice (some ⟨g, 0, none⟩) N.length c) ∧ MaR w' w.heap.size (.slice (some ⟨g, 0, none⟩) N.length c) N ∧ matP N = matP L ∧ Below w.heap.size w w' := by
  subst hn
  have HA := Lib.hid hA
  have HS := Lib.hid hs
  obtain ⟨i0, hi, hz0, hz1, hz2⟩ := info_parts infoM
  clear hA hs
  go_enter Try.func35, Try.ntmps35
  go_wp2_with (refine wpList_make_full _ rfl (.tmp 6) (.tmp 6) 23 rfl w.heap.size 33 i0 (.slice none 0 0) 1 Try.underlying23 hi hz0 hz1 .i64 .i64 _ _ L.length rfl rfl rfl rfl (by rw [hz2]; omega) (by unfold maxLen; omega) (Nat.le_refl _) ?_)
  intro w1 own1 grow1
  have hm := hmadeM L.length
  have HBm := Lib.hid (And.intro own1 grow1)
  have own2 := HBm.out.1
  (try rw [show (Value.slice none 0 0).cells = #[.slice none 0 0] from rfl] at own2)
  (try rw [Nat.mul_one] at own2)
  rw [hm] at own2
  have hb1 : Below w.heap.size w w1 := (Below.refl _ w).grown HBm.out.2 (Nat.le_refl _) (fun _ h => by cases h)
  have I0 : Hid (MaR w1 w.heap.size (.slice (some ⟨w.heap.size, 0, none⟩) (List.replicate L.length (⟨none, 0, []⟩ : IR)).length L.length) (List.replicate L.length ⟨none, 0, []⟩) ∧ Below w.heap.size w w1) := Lib.hid ⟨mar_rep (by rw [OwnM, List.length_replicate]; exact own2), hb1⟩
  clear own1 grow1 own2 hb1 HBm hm
  go_wp2_with fail
  go_loopw [4] (fun i wr => ∃ (k : Nat) (N : List IR), i = .int .i64 (k : Int) ∧ k ≤ L.length ∧ Hid (N.length = L.length) ∧ Hid (∀ (j : Nat) y v, j < k → N[j]? = some y → L[j]? = some v → y.P = v.P) ∧ Hid (MaR wr w.heap.size (.slice (some ⟨w.heap.size, 0, none⟩) N.length L.length) N ∧ Below w.heap.size w wr)) (fun i _ => L.length - (intOf i).toNat)
  case atStart => exact ⟨0, _, rfl, Nat.zero_le _, Lib.hid (by simp), Lib.hid (fun j y v hj => by omega), I0⟩
  case round =>
    clear I0
    obtain ⟨k, N, rfl, hk, HN, HC, HI⟩ := hrel
    by_cases hlt : k < L.length
    · obtain ⟨v, hv⟩ : ∃ v, L[k]? = some v := ⟨_, List.getElem?_eq_getElem hlt⟩
      have HV := Lib.hid hv
      have hsv := HS.out v (List.mem_of_getElem? hv)
      obtain ⟨va, vc, vP⟩ := v
      obtain ⟨b, off, rfl, c0, hI, _⟩ := (HA.out.below HI.out.2).at hv
      dsimp only at c0 hI hsv
      have i0' : (0 : Int) ≤ (k : Int) := by omega
      have i1 : (k : Int) < (L.length : Int) := by omega
      have hsz := HI.out.2.size
      have HIv := Lib.hid hI
      clear hv hI
      go_wp2_with fail
      refine (toI_any va vc vP _ HIv.out hsv).mono ?_
      rintro en w2 ⟨u, rfl, o2, b2⟩
      obtain ⟨ua, uc, rfl, _, _⟩ := OwnI.tab o2
      have HO2 := Lib.hid o2
      have hkN : k < N.length := by have := HN.out; omega
      have HP2 := Lib.hid (HI.out.1.later b2)
      have HB2 := Lib.hid (next HI.out.2 b2)
      have HLT := Lib.hid (MaR.lt HI.out.1)
      have HLr : Hid (w2.ownsRow w.heap.size 33 1 (.slice (some ⟨w.heap.size, 0, none⟩) L.length L.length) L.length (cellsR N)) := Lib.hid (by have := HP2.out.row; rw [OwnM, HN.out] at this; exact this)
      clear o2 b2 c0
      go_wp2_with (refine wpList_stW rfl 33 _ _ rfl w.heap.size k _ rfl rfl rfl rfl infoM1 w.heap.size L.length L.length 1 33 _ HLr.out (by rw [cellsR_len]; exact hkN) ?_)
      intro w3 o3 g3
      have HP3 : Hid (MaR w3 w.heap.size (.slice (some ⟨w.heap.size, 0, none⟩) N.length L.length) (N.set k ⟨ua, uc, vP⟩)) := Lib.hid (MaR.putRow HP2.out hkN hsz HLT.out HO2.out (by rw [HN.out, ← cellsR_set]; exact o3) g3)
      have HB3 := Lib.hid (below_only HB2.out g3 HB2.out.size (Nat.le_refl _))
      have HC3 : Hid (∀ (j : Nat) y v, j < k + 1 → (N.set k ⟨ua, uc, vP⟩)[j]? = some y → L[j]? = some v → y.P = v.P) := Lib.hid (fun j y v hj hy hv => by
        by_cases e : j = k
        · subst e
          rw [List.getElem?_set_self hkN] at hy
          rw [HV.out] at hv
          cases hy
          cases hv
          rfl
        · rw [List.getElem?_set_ne (fun q => e q.symm)] at hy
          exact HC.out j y v (by omega) hy hv)
      have HN3 : Hid ((N.set k (⟨ua, uc, vP⟩ : IR)).length = L.length) := Lib.hid (by rw [List.length_set]; exact HN.out)
      clear o3 g3 HP2 HB2 HLr HLT HO2 HC
      go_wp2_with fail
      go_roundw
      case rel => exact ⟨k + 1, N.set k ⟨ua, uc, vP⟩, by go_num, by omega, HN3, HC3, Lib.hid ⟨by rw [List.length_set]; exact HP3.out, HB3.out⟩⟩
      case measure => simp [intOf]; omega
    · obtain rfl : k = L.length := by omega
      have HM : Hid (matP N = matP L) := Lib.hid (List.ext_getElem? fun j => by
        simp only [matP, List.getElem?_map]
        by_cases hj : j < L.length
        · have hjN : j < N.length := by have := HN.out; omega
          have h1 : N[j]? = some N[j] := List.getElem?_eq_getElem hjN
          have h2 : L[j]? = some L[j] := List.getElem?_eq_getElem hj
          rw [h1, h2]
          simp only [Option.map_some]
          rw [HC.out j _ _ hj h1 h2]
        · rw [List.getElem?_eq_none (by have := HN.out; omega), List.getElem?_eq_none (by omega)])
      go_wp2_with fail
      go_ret
      exact ⟨N, w.heap.size, L.length, by rw [HN.out]; rfl, HI.out.1, HM.out, HI.out.2⟩
end Go.Proofs.Ytnljcppefnaapaa
