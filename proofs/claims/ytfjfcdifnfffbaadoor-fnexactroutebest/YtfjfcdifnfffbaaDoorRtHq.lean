/-
  The heap's own methods: Len, Swap, Push, Pop; a call through the interface finds them.
-/
import Derived.Test.YtfjfcdifnfffbaaDoorRtHp
namespace Go.Proofs.YtfjfcdifnfffbaaDoor
open Go.RowKit
set_option linter.unusedSimpArgs false
set_option linter.unusedVariables false

theorem meth_gen (name : String) (F : FuncId) (hf : (Array.find? (fun x => x.name == name) Tryd.t80.methods).map (fun m => (m.path, m.func)) = some (#[], some (F, false))) (w : World) (H : Nat) (hv : Value) (h : w.cell? ⟨H, 0, none⟩ = some hv) :
    (method 300 80 (.pointer (some ⟨H, 0, none⟩)) name).run Tryd.prog w = .ok (F, hv) w := by
  obtain ⟨m, hm, he⟩ := Option.map_eq_some_iff.1 hf
  have hp : m.path = #[] := congrArg Prod.fst he
  have hg : m.func = some (F, false) := congrArg Prod.snd he
  unfold method
  go_simp
  simp only [follow, Sem.run_pure, Result.andThen_ok]
  unfold receiverAt
  go_simp
  have hc : (Builtin.ssaWrapNilChk_ #[80] 80 #[.pointer (some ⟨H, 0, none⟩), strVal "", strVal ((name.splitOn ".").getLast?.getD name)]).run Tryd.prog w = .ok (.pointer (some ⟨H, 0, none⟩)) w := rfl
  simp only [Place.get, Sem.run_pure, Result.andThen_ok]
  rw [hc]
  simp [go_sem, h]
theorem meth_len (w : World) (H : Nat) (hv : Value) (h : w.cell? ⟨H, 0, none⟩ = some hv) :
    (method 300 80 (.pointer (some ⟨H, 0, none⟩)) "Len").run Tryd.prog w = .ok (158, hv) w := meth_gen "Len" _ (by kernel_rfl) w H hv h
theorem meth_less (w : World) (H : Nat) (hv : Value) (h : w.cell? ⟨H, 0, none⟩ = some hv) :
    (method 300 80 (.pointer (some ⟨H, 0, none⟩)) "Less").run Tryd.prog w = .ok (159, hv) w := meth_gen "Less" _ (by kernel_rfl) w H hv h
theorem meth_swap (w : World) (H : Nat) (hv : Value) (h : w.cell? ⟨H, 0, none⟩ = some hv) :
    (method 300 80 (.pointer (some ⟨H, 0, none⟩)) "Swap").run Tryd.prog w = .ok (162, hv) w := meth_gen "Swap" _ (by kernel_rfl) w H hv h
theorem len_is (a : Option Addr) (n cap : Nat) (w : World) : Calls Tryd.prog 158 #[.slice a n cap] w fun e w' => e = .returned (.int .i64 (n : Int)) ∧ w = w' := by
  go_enter Tryd.func158, Tryd.ntmps158
  go_wp2_with fail
  go_ret
  exact ⟨rfl, rfl⟩
theorem set_swap {K : List Nat} {i j p q : Nat} (hp : K[i]? = some p) (hq : K[j]? = some q) : (K.set j p).set i q = (K.set i q).set j p := by
  by_cases e : i = j
  · subst e
    rw [hp] at hq
    cases hq
    rfl
  · exact List.set_comm _ _ (fun h => e h.symm)
theorem grown_drew {w w' : World} {row : Option Nat} (h : w.grownBy w' row) : w.grownBy w'.drew row := ⟨h.os, h.tape, h.output, h.size, h.block⟩

theorem set_same {K : List Nat} {i j q : Nat} (hi : i < K.length) (hq : K[j]? = some q) : (K.set i q)[j]? = some q := by
  by_cases e : i = j
  · subst e; rw [List.getElem?_set_self hi]
  · rw [List.getElem?_set_ne e]; exact hq

set_option maxRecDepth 100000 in
set_option maxHeartbeats 4000000 in
theorem swap_is (R g n cap : Nat) (L : List RV) (K : List Nat) (i j p q : Nat) (w : World) (ho : OwnH w R (.slice (some ⟨g, 0, none⟩) n cap) L K) (hp : K[i]? = some p) (hq : K[j]? = some q) :
    Calls Tryd.prog 162 #[.slice (some ⟨g, 0, none⟩) n cap, .int .i64 (i : Int), .int .i64 (j : Int)] w fun e w' => e = .returned (.tuple #[]) ∧ OwnH w' R (.slice (some ⟨g, 0, none⟩) n cap) L ((K.set i q).set j p) ∧ w.grownBy w' (some g) := by
  have hi : i < K.length := (List.getElem?_eq_some_iff.1 hp).1
  have hj : j < K.length := (List.getElem?_eq_some_iff.1 hq).1
  have hl := OwnH.len ho
  have i0 : (0 : Int) ≤ (i : Int) := by omega
  have i1 : (i : Int) < (n : Int) := by omega
  have j0 : (0 : Int) ≤ (j : Int) := by omega
  have j1 : (j : Int) < (n : Int) := by omega
  have HA := Lib.hid (OwnH.at ho hp)
  have HB := Lib.hid (OwnH.at ho hq)
  have HP := Lib.hid (OwnH.put ho hi q)
  have HQ := Lib.hid (set_same hi hq)
  have hj' : j < (K.set i q).length := by rw [List.length_set]; exact hj
  clear ho hp hq hl
  go_enter Tryd.func162, Tryd.ntmps162
  go_wp2_with fail
  refine wp_region_held_drew (S := fun _ => True) (by kernel_rfl) ?_ (fun hHeld => ?_)
  · exact trivial
  refine takeH (i := 0) (v := ?_) rfl rfl (by kernel_rfl) (by kernel_rfl) (by kernel_rfl) (fun _ _ _ h => h) (by rfl) ?_ (by assumption) ?_
  rotate_left 1
  · intro w hSw
    (try dsimp only at hSw)
    go_simp
    try with_reducible rfl
  try simp only [List.setIfInBounds_toArray, List.set_cons_zero, List.set_cons_succ]
  refine takeH (i := 1) (v := ?_) rfl rfl (by kernel_rfl) (by kernel_rfl) (by kernel_rfl) (fun _ _ _ h => h) (by rfl) ?_ (by assumption) ?_
  rotate_left 1
  · intro w hSw
    (try dsimp only at hSw)
    go_simp
    try with_reducible rfl
  try simp only [List.setIfInBounds_toArray, List.set_cons_zero, List.set_cons_succ]
  refine takeH (i := 2) (v := ?_) rfl rfl (by kernel_rfl) (by kernel_rfl) (by kernel_rfl) (fun _ _ _ h => h) (by rfl) ?_ (by assumption) ?_
  rotate_left 1
  · intro w hSw
    (try dsimp only at hSw)
    go_simp
    try with_reducible rfl
  try simp only [List.setIfInBounds_toArray, List.set_cons_zero, List.set_cons_succ]
  refine takeH (i := 3) (v := ?_) rfl rfl (by kernel_rfl) (by kernel_rfl) (by kernel_rfl) (fun _ _ _ h => h) (by rfl) ?_ (by assumption) ?_
  rotate_left 1
  · intro w hSw
    (try dsimp only at hSw)
    go_simp
    try with_reducible rfl
  try simp only [List.setIfInBounds_toArray, List.set_cons_zero, List.set_cons_succ]
  refine takeH (i := 4) (v := ?_) rfl rfl (by kernel_rfl) (by kernel_rfl) (by kernel_rfl) (fun _ _ _ h => h) (by rfl) ?_ (by assumption) ?_
  rotate_left 1
  · intro w hSw
    (try dsimp only at hSw)
    go_simp
    try with_reducible rfl
  try simp only [List.setIfInBounds_toArray, List.set_cons_zero, List.set_cons_succ]
  refine takeH (i := 5) (v := ?_) rfl rfl (by kernel_rfl) (by kernel_rfl) (by kernel_rfl) (fun _ _ _ h => h) (by rfl) ?_ (by assumption) ?_
  rotate_left 1
  · intro w hSw
    (try dsimp only at hSw)
    go_simp
    try with_reducible rfl
  try simp only [List.setIfInBounds_toArray, List.set_cons_zero, List.set_cons_succ]
  refine takeH (i := 6) (v := ?_) rfl rfl (by kernel_rfl) (by kernel_rfl) (by kernel_rfl) (fun _ _ _ h => h) (by rfl) ?_ (by assumption) ?_
  rotate_left 1
  · intro w hSw
    (try dsimp only at hSw)
    go_simp
    try with_reducible rfl
  try simp only [List.setIfInBounds_toArray, List.set_cons_zero, List.set_cons_succ]
  refine takeH (i := 8) (v := ?_) rfl rfl (by kernel_rfl) (by kernel_rfl) (by kernel_rfl) (fun _ _ _ h => h) (by rfl) ?_ (by assumption) ?_
  rotate_left 1
  · intro w hSw
    (try dsimp only at hSw)
    go_simp
    try with_reducible rfl
  try simp only [List.setIfInBounds_toArray, List.set_cons_zero, List.set_cons_succ]
  refine takeH (i := 9) (v := ?_) rfl rfl (by kernel_rfl) (by kernel_rfl) (by kernel_rfl) (fun _ _ _ h => h) (by rfl) ?_ (by assumption) ?_
  rotate_left 1
  · intro w hSw
    (try dsimp only at hSw)
    go_simp
    try with_reducible rfl
  try simp only [List.setIfInBounds_toArray, List.set_cons_zero, List.set_cons_succ]
  refine takeH (i := 10) (v := ?_) rfl rfl (by kernel_rfl) (by kernel_rfl) (by kernel_rfl) (fun _ _ _ h => h) (by rfl) ?_ (by assumption) ?_
  rotate_left 1
  · intro w hSw
    (try dsimp only at hSw)
    go_simp
    try with_reducible rfl
  try simp only [List.setIfInBounds_toArray, List.set_cons_zero, List.set_cons_succ]
  refine wpAnyH_ready (rs := [7, 11]) (by kernel_rfl) (by simp) ?_
  refine AllReadyH.cons rfl (fun K hK => ?_) (AllReadyH.cons rfl (fun K hK => ?_) (AllReadyH.nil))
  · obtain ⟨⟨q0, q1, q2, q3, q4, q5⟩, _⟩ := HB.out
    go_simp
    refine hK.out _ _ ?_ (fun hNew => ?_)
    · exact trivial
    clear hK K hHeld
    have hHeld := hNew
    clear hNew
    try simp only [Act.put, List.setIfInBounds_toArray, List.set_cons_zero, List.set_cons_succ]
    refine wpAnyH_ready (rs := [11]) (by kernel_rfl) (by simp) ?_
    refine AllReadyH.cons rfl (fun K hK => ?_) (AllReadyH.nil)
    obtain ⟨⟨q0, q1, q2, q3, q4, q5⟩, _⟩ := HA.out
    go_simp
    refine hK.out _ _ ?_ (fun hNew => ?_)
    · exact trivial
    clear hK K hHeld
    have hHeld := hNew
    clear hNew
    try simp only [Act.put, List.setIfInBounds_toArray, List.set_cons_zero, List.set_cons_succ]
    refine takeH (i := 12) (v := ?_) rfl rfl (by kernel_rfl) (by kernel_rfl) (by kernel_rfl) (fun _ _ _ h => h) (by rfl) ?_ (by assumption) ?_
    rotate_left 1
    · intro w hSw
      (try dsimp only at hSw)
      go_simp
      try with_reducible rfl
    try simp only [List.setIfInBounds_toArray, List.set_cons_zero, List.set_cons_succ]
    refine wpAnyH_ready (rs := [13]) (by kernel_rfl) (by simp) ?_
    refine AllReadyH.cons rfl (fun K hK => ?_) (AllReadyH.nil)
    clear q0 q1 q2 q3 q4 q5
    obtain ⟨⟨q0, q1, q2, q3, q4, q5⟩, u0, u1, u2, u3, u4, u5⟩ := HA.out
    go_simp
    refine hK.out _ _ ?_ (fun hNew => ?_)
    · exact trivial
    clear hK K hHeld
    have hHeld := hNew
    clear hNew
    try simp only [Act.put, List.setIfInBounds_toArray, List.set_cons_zero, List.set_cons_succ]
    refine takeH (i := 14) (v := ?_) rfl rfl (by kernel_rfl) (by kernel_rfl) (by kernel_rfl) (fun _ _ _ h => h) (by rfl) ?_ (by assumption) ?_
    rotate_left 1
    · intro w hSw
      (try dsimp only at hSw)
      go_simp
      try with_reducible rfl
    try simp only [List.setIfInBounds_toArray, List.set_cons_zero, List.set_cons_succ]
    refine wpAnyH_ready (rs := [15]) (by kernel_rfl) (by simp) ?_
    refine AllReadyH.cons rfl (fun K hK => ?_) (AllReadyH.nil)
    clear q0 q1 q2 q3 q4 q5 u0 u1 u2 u3 u4 u5
    generalize hX : set6 w g (i * 6) (rvAt L q) q = w2 at HP
    unfold set6 at hX
    rw [hX]
    have HP2 := Lib.hid (OwnH.put HP.out.1 hj' p)
    have HC := Lib.hid (OwnH.at HP.out.1 HQ.out)
    obtain ⟨⟨q0, q1, q2, q3, q4, q5⟩, u0, u1, u2, u3, u4, u5⟩ := HC.out
    go_simp
    refine hK.out _ _ ?_ (fun hNew => ?_)
    · exact trivial
    clear hK K hHeld
    have hHeld := hNew
    clear hNew
    try simp only [Act.put, List.setIfInBounds_toArray, List.set_cons_zero, List.set_cons_succ]
    refine wpAnyH_done (by kernel_rfl) ?_ _
    clear q0 q1 q2 q3 q4 q5 u0 u1 u2 u3 u4 u5
    generalize hY : set6 w2 g (j * 6) (rvAt L p) p = w3 at HP2
    unfold set6 at hY
    go_wp2_with fail
    rw [hY]
    go_end0
    exact ⟨rfl, HP2.out.1, grown_drew (only_on HP.out.2 HP2.out.2)⟩
  · obtain ⟨⟨q0, q1, q2, q3, q4, q5⟩, _⟩ := HA.out
    go_simp
    refine hK.out _ _ ?_ (fun hNew => ?_)
    · exact trivial
    clear hK K hHeld
    have hHeld := hNew
    clear hNew
    try simp only [Act.put, List.setIfInBounds_toArray, List.set_cons_zero, List.set_cons_succ]
    refine wpAnyH_ready (rs := [7]) (by kernel_rfl) (by simp) ?_
    refine AllReadyH.cons rfl (fun K hK => ?_) (AllReadyH.nil)
    obtain ⟨⟨q0, q1, q2, q3, q4, q5⟩, _⟩ := HB.out
    go_simp
    refine hK.out _ _ ?_ (fun hNew => ?_)
    · exact trivial
    clear hK K hHeld
    have hHeld := hNew
    clear hNew
    try simp only [Act.put, List.setIfInBounds_toArray, List.set_cons_zero, List.set_cons_succ]
    refine takeH (i := 12) (v := ?_) rfl rfl (by kernel_rfl) (by kernel_rfl) (by kernel_rfl) (fun _ _ _ h => h) (by rfl) ?_ (by assumption) ?_
    rotate_left 1
    · intro w hSw
      (try dsimp only at hSw)
      go_simp
      try with_reducible rfl
    try simp only [List.setIfInBounds_toArray, List.set_cons_zero, List.set_cons_succ]
    refine wpAnyH_ready (rs := [13]) (by kernel_rfl) (by simp) ?_
    refine AllReadyH.cons rfl (fun K hK => ?_) (AllReadyH.nil)
    clear q0 q1 q2 q3 q4 q5
    obtain ⟨⟨q0, q1, q2, q3, q4, q5⟩, u0, u1, u2, u3, u4, u5⟩ := HA.out
    go_simp
    refine hK.out _ _ ?_ (fun hNew => ?_)
    · exact trivial
    clear hK K hHeld
    have hHeld := hNew
    clear hNew
    try simp only [Act.put, List.setIfInBounds_toArray, List.set_cons_zero, List.set_cons_succ]
    refine takeH (i := 14) (v := ?_) rfl rfl (by kernel_rfl) (by kernel_rfl) (by kernel_rfl) (fun _ _ _ h => h) (by rfl) ?_ (by assumption) ?_
    rotate_left 1
    · intro w hSw
      (try dsimp only at hSw)
      go_simp
      try with_reducible rfl
    try simp only [List.setIfInBounds_toArray, List.set_cons_zero, List.set_cons_succ]
    refine wpAnyH_ready (rs := [15]) (by kernel_rfl) (by simp) ?_
    refine AllReadyH.cons rfl (fun K hK => ?_) (AllReadyH.nil)
    clear q0 q1 q2 q3 q4 q5 u0 u1 u2 u3 u4 u5
    generalize hX : set6 w g (i * 6) (rvAt L q) q = w2 at HP
    unfold set6 at hX
    rw [hX]
    have HP2 := Lib.hid (OwnH.put HP.out.1 hj' p)
    have HC := Lib.hid (OwnH.at HP.out.1 HQ.out)
    obtain ⟨⟨q0, q1, q2, q3, q4, q5⟩, u0, u1, u2, u3, u4, u5⟩ := HC.out
    go_simp
    refine hK.out _ _ ?_ (fun hNew => ?_)
    · exact trivial
    clear hK K hHeld
    have hHeld := hNew
    clear hNew
    try simp only [Act.put, List.setIfInBounds_toArray, List.set_cons_zero, List.set_cons_succ]
    refine wpAnyH_done (by kernel_rfl) ?_ _
    clear q0 q1 q2 q3 q4 q5 u0 u1 u2 u3 u4 u5
    generalize hY : set6 w2 g (j * 6) (rvAt L p) p = w3 at HP2
    unfold set6 at hY
    go_wp2_with fail
    rw [hY]
    go_end0
    exact ⟨rfl, HP2.out.1, grown_drew (only_on HP.out.2 HP2.out.2)⟩
end Go.Proofs.YtfjfcdifnfffbaaDoor
