/-
  Marks into a matrix of one's own: row behind row; what they leave alone.
-/
import Derived.Test.YtnljcppefnaapaaHoEx
namespace Go.Proofs.Ytnljcppefnaapaa
open Go.RowKit
set_option linter.unusedSimpArgs false
set_option linter.unusedVariables false

def hmarkG (s n : Nat) : List Int := (List.range n).map fun (i : Nat) => ((s + i : Nat) : Int)
theorem hmarkG_len (s n : Nat) : (hmarkG s n).length = n := by simp [hmarkG]
theorem hmarkG_at {s n k : Nat} (h : k < n) : (hmarkG s n)[k]? = some ((s + k : Nat) : Int) := by simp [hmarkG, h]
theorem hmarkG_all {s n : Nat} {M : List Int} (hM : M.length = n) (h : ∀ j, j < n → M[j]? = (hmarkG s n)[j]?) : M = hmarkG s n := List.ext_getElem? fun j => by
  by_cases e : j < n
  · exact h j e
  · rw [List.getElem?_eq_none (by omega), List.getElem?_eq_none (by rw [hmarkG_len]; omega)]

set_option maxRecDepth 100000 in
set_option maxHeartbeats 2000000 in
theorem hmark_own (s g cap : Nat) (L : List Int) (R : Nat) (w : World) (ho : OwnI w R (.slice (some ⟨g, 0, none⟩) L.length cap) L) (hl : L.length ≤ 2000000) (hs : s ≤ 4000000000000000) :
    Calls Try.prog 39 #[.slice (some ⟨g, 0, none⟩) L.length cap, .int .i64 (s : Int)] w fun e w' => e = .returned (.int .i64 ((s + L.length : Nat) : Int)) ∧ OwnI w' R (.slice (some ⟨g, 0, none⟩) L.length cap) (hmarkG s L.length) ∧ w.grownBy w' (some g) := by
  have HO := Lib.hid ho
  clear ho
  go_enter Try.func39, Try.ntmps39
  go_wp2_with fail
  go_loopw [1, 5] (fun q i wr => ∃ (k : Nat) (M : List Int), k ≤ L.length ∧ i = .int .i64 k ∧ q = .int .i64 ((s + k : Nat) : Int) ∧ Hid (M.length = L.length) ∧ (∀ j, j < k → M[j]? = (hmarkG s L.length)[j]?) ∧ OwnI wr R (.slice (some ⟨g, 0, none⟩) M.length cap) M ∧ w.grownBy wr (some g)) (fun _ i _ => L.length - (intOf i).toNat)
  case atStart => exact ⟨0, L, Nat.zero_le _, rfl, by simp, Lib.hid rfl, fun _ h => by omega, HO.out, World.grownBy.refl _ _⟩
  case round =>
    obtain ⟨k, M, hk, rfl, rfl, hM, hj, ho, hg⟩ := hrel
    clear HO
    by_cases hlt : k < L.length
    · have hkM : k < M.length := by rw [hM.out]; exact hlt
      have HP := Lib.hid (owni_put (k := k) ho ((s + k : Nat) : Int))
      have d0 := owni_cell ho hkM
      have f0 := World.ownsRow.frozenAt ho k
      have HJ := Lib.hid hj
      have HG := Lib.hid hg
      have HM := Lib.hid (hmarkG_at (s := s) hlt)
      have j0 : (0 : Int) ≤ (k : Int) := by omega
      have j1 : (k : Int) < (L.length : Int) := by omega
      generalize hq : s + k = q at *
      generalize M[k] = m at *
      clear ho hj hg
      go_wp2_with fail
      go_roundw
      case rel =>
        refine ⟨k + 1, M.set k (q : Int), by omega, by go_num, by rw [← Nat.add_assoc, hq]; go_num, Lib.hid (by rw [List.length_set]; exact hM.out), fun j hj => ?_, by rw [List.length_set]; exact HP.out.1, only_on HG.out HP.out.2⟩
        by_cases e : j = k
        · subst e; rw [List.getElem?_set_self hkM]; exact HM.out.symm
        · rw [List.getElem?_set_ne (fun h => e h.symm)]; exact HJ.out j (by omega)
      case measure => simp [intOf]; omega
    · obtain rfl : k = L.length := by omega
      have hML := hmarkG_all hM.out hj
      have R := Lib.hid (And.intro ho hg)
      rw [hML, hmarkG_len] at R
      clear ho hg hj hML
      go_wp2_with fail
      go_ret
      exact ⟨rfl, R.out.1, R.out.2⟩
theorem hmark_any (s : Nat) (v : Value) (L : List Int) (R : Nat) (w : World) (ho : OwnI w R v L) (hl : L.length ≤ 2000000) (hs : s ≤ 4000000000000000) :
    Calls Try.prog 39 #[v, .int .i64 (s : Int)] w fun e w' => e = .returned (.int .i64 ((s + L.length : Nat) : Int)) ∧ OwnI w' R v (hmarkG s L.length) ∧ w.grownBy w' v.ownBlock := by
  obtain ⟨_, h2⟩ := id ho
  rcases h2 with ⟨rfl, h0⟩ | ⟨g, cap, cur, rfl, _⟩
  · have hL : L = [] := List.eq_nil_of_length_eq_zero h0
    subst hL
    have HO := Lib.hid (show OwnI w R (.slice none 0 0) (hmarkG s 0) from ho)
    clear ho
    go_enter Try.func39, Try.ntmps39
    go_wp2_with fail
    refine wp_loop_rounds 1 ?_
    rw [rounds_succ]
    go_wp2_with fail
    go_ret
    exact ⟨by simp, HO.out, World.grownBy.refl _ _⟩
  · exact hmark_own s g cap L R w ho hl hs

structure TchX (S : Nat → Prop) (w w' : World) : Prop where
  os : w'.os = w.os
  tape : w'.tape = w.tape
  output : w'.output = w.output
  size : w.heap.size ≤ w'.heap.size
  block : ∀ k, k < w.heap.size → ¬ S k → w'.heap[k]? = w.heap[k]?
theorem TchX.refl (S : Nat → Prop) (w : World) : TchX S w w := ⟨rfl, rfl, rfl, Nat.le_refl _, fun _ _ _ => rfl⟩
theorem TchX.of {S : Nat → Prop} {w w' : World} {row : Option Nat} (h : w.grownBy w' row) (hr : ∀ k, row = some k → S k) : TchX S w w' := ⟨h.os, h.tape, h.output, h.size, fun k hk hs => h.block k hk (fun e => hs (hr k e.symm))⟩
theorem TchX.trans {S : Nat → Prop} {a b c : World} (h : TchX S a b) (k : TchX S b c) : TchX S a c :=
  ⟨k.os.trans h.os, k.tape.trans h.tape, k.output.trans h.output, Nat.le_trans h.size k.size, fun i hi hs => (k.block i (Nat.lt_of_lt_of_le hi h.size) hs).trans (h.block i hi hs)⟩
theorem TchX.mono {S T : Nat → Prop} {w w' : World} (h : TchX S w w') (k : ∀ i, S i → T i) : TchX T w w' := ⟨h.os, h.tape, h.output, h.size, fun i hi ht => h.block i hi (fun hs => ht (k i hs))⟩
theorem TchX.own {S : Nat → Prop} {w w' : World} {R z n : Nat} {e : TypeId} {v : Value} {xs : List Value} (h : w.ownsRow R e z v n xs) (k : TchX S w w') (hn : ∀ b, v.ownBlock = some b → ¬ S b) : w'.ownsRow R e z v n xs := by
  refine ⟨h.1, ?_⟩
  rcases h.2 with h2 | ⟨g, cap, cur, rfl, hb, hg, rest⟩
  · exact .inl h2
  · refine .inr ⟨g, cap, cur, rfl, hb, ?_, rest⟩
    rw [k.block g (Array.getElem?_eq_some_iff.1 hg).1 (hn g (by simp [Value.ownBlock]))]
    exact hg
theorem TchX.below {S : Nat → Prop} {w w' : World} {A : Nat} (k : TchX S w w') (hA : A ≤ w.heap.size) (hS : ∀ i, S i → A ≤ i) : Below A w w' := ⟨k.os, k.tape, k.output, k.size, fun i hi => k.block i (by omega) (fun hs => by have := hS i hs; omega)⟩


set_option maxRecDepth 100000 in
set_option maxHeartbeats 2000000 in
theorem markss_any (N : List IR) (R g c : Nat) (w : World) (h : MaR w R (.slice (some ⟨g, 0, none⟩) N.length c) N) (hl : N.length ≤ 1048576) (hs : ∀ x ∈ N, x.P.length ≤ 1048576) :
    Calls Try.prog 38 #[.slice (some ⟨g, 0, none⟩) N.length c, .int .i64 1] w fun e w' => ∃ k : Int, e = .returned (.int .i64 k) ∧ 0 ≤ k ∧ TchX (fun b => ∃ x ∈ N, x.v.ownBlock = some b) w w' := by
  have HM := Lib.hid h
  have HS := Lib.hid hs
  clear h hs
  go_enter Try.func38, Try.ntmps38
  go_wp2_with fail
  go_loopw [1, 5] (fun q i wr => ∃ (K s : Nat), K ≤ N.length ∧ i = .int .i64 K ∧ q = .int .i64 (s : Int) ∧ s ≤ 1 + K * 1048576 ∧ Hid (TchX (fun b => ∃ x ∈ N.take K, x.v.ownBlock = some b) w wr)) (fun _ i _ => N.length - (intOf i).toNat)
  case atStart => exact ⟨0, 1, Nat.zero_le _, rfl, rfl, by omega, Lib.hid (TchX.refl _ _)⟩
  case round =>
    obtain ⟨K, s, hK, rfl, rfl, hs1, HT⟩ := hrel
    by_cases hlt : K < N.length
    · obtain ⟨x, hx⟩ : ∃ x, N[K]? = some x := ⟨_, List.getElem?_eq_getElem hlt⟩
      have hxm := List.mem_of_getElem? hx
      have hxl := HS.out x hxm
      have HO := Lib.hid (TchX.own (HM.out.own x hxm) HT.out (fun b hb hq => by
        obtain ⟨y, hy, hyb⟩ := hq
        obtain ⟨j, hj⟩ := List.mem_iff_getElem?.1 hy
        have hjK : j < K := by have := (List.getElem?_eq_some_iff.1 hj).1; rw [List.length_take] at this; omega
        rw [List.getElem?_take, if_pos hjK] at hj
        exact HM.out.apAt hx hj (by omega) b hb hyb))
      have HR := Lib.hid (TchX.own HM.out.row HT.out (fun b hb hq => by
        obtain ⟨y, hy, hyb⟩ := hq
        rcases mrows_apart (HM.out.own y (List.mem_of_mem_take hy)) HM.out.row (by decide) with q | q
        · rw [q] at hyb; cases hyb
        · exact q (hyb.trans hb.symm)))
      have HTk : Hid (∀ b, (∃ y ∈ N.take K, y.v.ownBlock = some b) → ∃ y ∈ N.take (K + 1), y.v.ownBlock = some b) := Lib.hid (fun b hb => by
        obtain ⟨y, hy, hyb⟩ := hb
        exact ⟨y, by rw [List.take_add_one]; exact List.mem_append_left _ hy, hyb⟩)
      have HXk : Hid (∀ b, x.v.ownBlock = some b → ∃ y ∈ N.take (K + 1), y.v.ownBlock = some b) := Lib.hid (fun b hb => ⟨x, by rw [List.take_add_one, hx]; simp, hb⟩)
      obtain ⟨xa, xc, xP⟩ := x
      have c0 : wr.cell? ⟨g, K, none⟩ = some (.slice xa xP.length xc) := by
        have := World.ownsRow.cells HR.out (g := g) rfl K _ (cellsR_at hx)
        rw [Addr.add_mid] at this
        simpa using this
      have i0 : (0 : Int) ≤ (K : Int) := by omega
      have i1 : (K : Int) < (N.length : Int) := by omega
      dsimp only at hxl
      clear hx hxm
      go_wp2_with fail
      refine (hmark_any s (.slice xa xP.length xc) xP R _ HO.out (by omega) (by omega)).mono ?_
      rintro e w5 ⟨rfl, o5, g5⟩
      have HT5 := Lib.hid ((HT.out.mono HTk.out).trans (TchX.of g5 HXk.out))
      clear o5 g5 c0
      go_wp2_with fail
      go_roundw
      case rel => exact ⟨K + 1, s + xP.length, by omega, by go_num, rfl, by omega, HT5⟩
      case measure => simp [intOf]; omega
    · obtain rfl : K = N.length := by omega
      have HT2 := HT.out
      rw [List.take_length] at HT2
      have HT3 := Lib.hid HT2
      clear HT2
      go_wp2_with fail
      go_ret
      exact ⟨_, rfl, by omega, HT3.out⟩
end Go.Proofs.Ytnljcppefnaapaa
