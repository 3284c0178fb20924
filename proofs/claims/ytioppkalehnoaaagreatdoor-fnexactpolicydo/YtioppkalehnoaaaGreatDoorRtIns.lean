/-
  slices.Insert of one int into a slice of ints of the call's own.
-/
import Derived.Test.YtioppkalehnoaaaGreatDoorRtSl
namespace Go.Proofs.YtioppkalehnoaaaGreatDoor
open Go.RowKit
set_option linter.unusedSimpArgs false
set_option linter.unusedVariables false

/-- a row that has just been made, with room behind -/
theorem own_fresh (W : World) (R G n : Nat) (cs : List Value) (hR : R ≤ W.heap.size) (hn : cs.length = n) (hG : n ≤ G) (hm : G ≤ maxLen) :
    (W.drew.alloc (.cells (cs.toArray ++ Builtin.zeroCells (Value.int .i64 0).cells (G - n)) 3)).ownsRow R 3 1 (.slice (some ⟨W.heap.size, 0, none⟩) n G) n cs := by
  refine ⟨by omega, .inr ⟨W.heap.size, G, cs.toArray ++ Builtin.zeroCells (Value.int .i64 0).cells (G - n), rfl, hR, heap_alloc_new W.drew _, hG, hm, ?_, ?_⟩⟩
  · simp [Builtin.zeroCells, Value.cells]; omega
  · simp [hn]
theorem grown_fresh (W : World) (o : Obj) (row : Option Nat) : W.grownBy (W.drew.alloc o) row := only_alloc (only_drew (World.grownBy.refl W row)) o
theorem grown_weak {a b : World} {row : Option Nat} (h : a.grownBy b none) : a.grownBy b row := ⟨h.os, h.tape, h.output, h.size, fun k hk _ => h.block k hk (by simp)⟩
theorem cells_ins (M : List Int) (i : Nat) (x : Int) : cellsI (M.take i ++ x :: M.drop i) = (cellsI M).take i ++ .int .i64 x :: (cellsI M).drop i := by simp [cellsI, List.map_take, List.map_drop]

theorem ins_list1 {zs cs : List Value} {i n cap : Nat} {x : Value} (hz : zs.length = cap) (hc : cs.length = n) (hi : i ≤ n) (hr : n + 1 ≤ cap) (hp : zs.take i = cs.take i) :
    (((zs.take i ++ [x] ++ zs.drop (i + 1)).take (i + 1) ++ cs.drop i ++ (zs.take i ++ [x] ++ zs.drop (i + 1)).drop (i + 1 + (cs.drop i).length)).take (n + 1)) = cs.take i ++ x :: cs.drop i := by
  have l1 : (zs.take i ++ [x]).length = i + 1 := by simp; omega
  rw [List.take_left' l1, List.append_assoc (zs.take i ++ [x]), ← List.append_assoc (zs.take i ++ [x]) (cs.drop i), List.take_left' (by simp; omega), hp]
  simp
theorem ins_list2 {zs cs : List Value} {i n cap : Nat} {x : Value} (hz : zs.length = cap) (hc : cs.length = n) (hi : i ≤ n) (hr : n + 1 ≤ cap) (hp : zs.take i = cs.take i) :
    (((zs.take (i + 1) ++ cs.drop i ++ zs.drop (i + 1 + (cs.drop i).length)).take i ++ [x] ++ (zs.take (i + 1) ++ cs.drop i ++ zs.drop (i + 1 + (cs.drop i).length)).drop (i + 1)).take (n + 1)) = cs.take i ++ x :: cs.drop i := by
  have e1 : (zs.take (i + 1) ++ cs.drop i ++ zs.drop (i + 1 + (cs.drop i).length)).take i = cs.take i := by
    rw [List.append_assoc, List.take_append_of_le_length (by simp; omega), List.take_take, Nat.min_eq_left (by omega), hp]
  have e2 : (zs.take (i + 1) ++ cs.drop i ++ zs.drop (i + 1 + (cs.drop i).length)).drop (i + 1) = cs.drop i ++ zs.drop (i + 1 + (cs.drop i).length) := by
    rw [List.append_assoc, List.drop_left' (by simp; omega)]
  rw [e1, e2, ← List.append_assoc, List.take_left' (by simp; omega)]
  simp
theorem own_part {w : World} {R g n cap i : Nat} {zs xs : List Value} (h : zs.take (n * 1) = xs) (hi : i ≤ n) : zs.take i = xs.take i := by
  rw [← h, List.take_take, Nat.mul_one, Nat.min_eq_left hi]

theorem insert_is {M : List Int} {i : Nat} {x : Int} (v : Value) (R : Nat) (w : World) (ho : OwnI w R v M) (hi : i ≤ M.length) (hl : M.length ≤ 2000000) (hR : R ≤ w.heap.size) :
    Calls Tryz.prog 95 #[v, .int .i64 (i : Int), .slice (some ⟨w.heap.size, 0, none⟩) 1 1] (w.alloc (.cells #[.int .i64 x] 3)) fun e w' =>
      ∃ v', e = .returned v' ∧ OwnI w' R v' (M.take i ++ x :: M.drop i) ∧ (w.alloc (.cells #[.int .i64 x] 3)).grownBy w' v.ownBlock ∧ ∀ k, v'.ownBlock = some k → v.ownBlock = some k ∨ (w.alloc (.cells #[.int .i64 x] 3)).heap.size ≤ k := by
  have hlen : (M.take i ++ x :: M.drop i).length = M.length + 1 := by simp; omega
  have hcl : (cellsI M).length = M.length := cellsI_len M
  have hvs : ∀ (j : Nat) (u : Value), [Value.int .i64 x][j]? = some u → (w.alloc (.cells #[.int .i64 x] 3)).cell? ⟨w.heap.size, 0 + j, none⟩ = some u := fun j u hj => by
    match j, hj with
    | 0, hj => simp at hj; subst hj; simp
    | j + 1, hj => simp at hj
  have h1v : ∀ u ∈ [Value.int .i64 x], u.oneCell' = true := fun u hu => by simp at hu; subst hu; rfl
  have hW : (w.alloc (.cells #[.int .i64 x] 3)).heap.size = w.heap.size + 1 := by simp
  have hvb : (w.alloc (.cells #[.int .i64 x] 3)).heap[w.heap.size]? = some (.cells #[.int .i64 x] 3) := heap_alloc_new w _
  have hoW := ho.alloc (.cells #[.int .i64 x] 3)
  have hlt := ho.lt
  generalize (w.alloc (.cells #[.int .i64 x] 3)) = W at *
  rcases hoW.2 with ⟨rfl, h0⟩ | ⟨g, cap, cur, rfl, hb, hg, hn, hm, hs, ht⟩
  · obtain rfl : M = [] := List.eq_nil_of_length_eq_zero h0
    obtain rfl : i = 0 := by simpa using hi
    refine (Any2.slices_Insert_int_end_grow Tryz.laysNm221 none 0 0 w.heap.size 0 1 1 [] [.int .i64 x] W (by omega) (by omega) (by omega) (by omega) rfl rfl (fun _ => rfl) (fun a e => by cases e) hvs h1v).mono ?_
    rintro e w' ⟨rfl, rfl⟩
    refine ⟨_, rfl, ?_, grown_fresh W _ _, fun k e => .inr (by simp [Value.ownBlock] at e; omega)⟩
    exact own_fresh W R _ 1 [.int .i64 x] (by omega) rfl (grownCap_ge W _ _ _) (grownCap_le_maxLen W _ _ _ (by unfold maxLen; omega))
  · have hgW : g < W.heap.size := (hoW.lt g rfl).2
    have hgw : g < w.heap.size := (hlt g rfl).2
    have hcs : ∀ (j : Nat) (u : Value), (cellsI M)[j]? = some u → W.cell? ⟨g, 0 + j, none⟩ = some u := fun j u hj => by
      rw [Nat.zero_add]
      have hj' := (List.getElem?_eq_some_iff.1 hj).1
      rw [hoW.cellAt j (by omega)]; exact hj
    have h1c := oneI M
    have hmx : cap ≤ 9223372036854775807 := by unfold maxLen at hm; omega
    by_cases hroom : M.length + 1 ≤ cap
    · obtain ⟨zs, z1, z2, _, _, hF⟩ := own_full hoW
      rw [Nat.mul_one] at z1
      have hsp : ∀ j, j < M.length + 1 → (W.cell? ⟨g, 0 + j, none⟩).isSome = true := fun j hj => by
        rw [Nat.zero_add, hF.cellAt j (by omega), List.getElem?_eq_getElem (by omega)]; rfl
      have hfz : ∀ j, j < M.length + 1 → W.frozen? ⟨g, 0 + j, none⟩ = false := fun j hj => by rw [Nat.zero_add]; exact hoW.frozenAt j
      by_cases hin : i < M.length
      · refine (Any2.slices_Insert_int_shift Tryz.laysNm221 g 0 M.length cap i w.heap.size 0 1 1 (cellsI M) [.int .i64 x] W hin (by omega) hroom hmx (by omega) hcl rfl hcs hsp hfz hvs h1c h1v 3 3 1 cap (by simp [World.shape?, hvb]) (by simp [World.shape?, hg, hs]) (by omega) (by simp [World.frozen?, hvb]) (by simp [World.frozen?, hvb])).mono ?_
        rintro e w' ⟨rfl, rfl⟩
        obtain ⟨f1, g1⟩ := own_cells ((cellsI M).drop i) W.drew zs (i + 1) hF (by rw [List.length_drop, hcl]; omega)
        obtain ⟨f2, g2⟩ := own_cells [.int .i64 x] _ _ i f1 (by simp [hcl]; omega)
        refine ⟨_, rfl, ?_, ?_, fun k e => .inl e⟩
        · have := own_cut f2 (k := M.length + 1) hroom
          rw [Nat.mul_one, show [Value.int .i64 x].length = 1 from rfl, ins_list2 z1 hcl hi hroom (own_part (w := w) (R := R) (g := g) (cap := cap) z2 hi), ← cells_ins] at this
          rw [OwnI, hlen]
          simpa only [Nat.zero_add] using this
        · have := only_on (only_on (only_drew (World.grownBy.refl W (some g))) g1) g2
          simpa only [Nat.zero_add, Value.ownBlock] using this
      · obtain rfl : i = M.length := by omega
        refine (Any2.slices_Insert_int_end_room Tryz.laysNm221 g 0 M.length cap w.heap.size 0 1 1 [.int .i64 x] W (by omega) hroom hmx rfl (fun j hj => by have := hsp (M.length + j) (by omega); rwa [← Nat.add_assoc] at this) (fun j hj => by have := hfz (M.length + j) (by omega); rwa [← Nat.add_assoc] at this) hvs h1v).mono ?_
        rintro e w' ⟨rfl, rfl⟩
        obtain ⟨f1, g1⟩ := own_cells [.int .i64 x] W zs M.length hF (by simp; omega)
        refine ⟨_, rfl, ?_, by simpa only [Nat.zero_add, Value.ownBlock] using g1, fun k e => .inl e⟩
        have := own_cut f1 (k := M.length + 1) hroom
        rw [Nat.mul_one, show zs.take M.length = cellsI M by simpa using z2, List.take_left' (by simp [hcl])] at this
        rw [OwnI, hlen, cells_ins, List.take_of_length_le (by omega), List.drop_eq_nil_of_le (by omega)]
        simpa only [Nat.zero_add] using this
    · by_cases hin : i < M.length
      · refine (Any2.slices_Insert_int_grow Tryz.laysNm221 g 0 M.length cap i w.heap.size 0 1 1 (cellsI M) [.int .i64 x] W hin (by omega) hn (by omega) (by omega) hcl rfl hcs hvs h1c h1v).mono ?_
        rintro e w' ⟨rfl, rfl⟩
        have hG1 := grownCap_ge W (M.length + 1) cap 3
        have hG2 := grownCap_le_maxLen W (M.length + 1) cap 3 (by unfold maxLen; omega)
        generalize hROW : ((cellsI M).take i).toArray ++ Builtin.zeroCells (Value.int .i64 0).cells (M.length + 1 - i) ++ Builtin.zeroCells (Value.int .i64 0).cells (grownCap W (M.length + 1) cap 3 - (M.length + 1)) = ROW
        have hrl : ROW.toList.length = grownCap W (M.length + 1) cap 3 := by rw [← hROW]; simp [Builtin.zeroCells, Value.cells, hcl]; omega
        have hrt : ROW.toList.take i = (cellsI M).take i := by
          rw [← hROW, Array.toList_append, Array.toList_append, List.append_assoc, List.take_left' (by simp [hcl]; omega)]
        have hF0 : (W.alloc (.cells ROW 3)).ownsRow R 3 1 (.slice (some ⟨W.heap.size, 0, none⟩) (grownCap W (M.length + 1) cap 3) (grownCap W (M.length + 1) cap 3)) (grownCap W (M.length + 1) cap 3) ROW.toList :=
          ⟨by rw [hrl, Nat.mul_one], .inr ⟨W.heap.size, _, ROW, rfl, by omega, heap_alloc_new W _, Nat.le_refl _, hG2, by rw [Nat.mul_one, ← hrl]; simp, List.take_of_length_le (by rw [hrl, Nat.mul_one]; exact Nat.le_refl _)⟩⟩
        obtain ⟨f1, g1⟩ := own_cells [.int .i64 x] (W.alloc (.cells ROW 3)).drew ROW.toList i hF0 (by rw [hrl]; simp; omega)
        obtain ⟨f2, g2⟩ := own_cells ((cellsI M).drop i) ((W.alloc (.cells ROW 3)).drew.setCells W.heap.size i [.int .i64 x]).drew _ (i + 1) f1 (by simp only [List.length_append, List.length_take, List.length_drop, List.length_cons, List.length_nil, hrl, hcl]; omega)
        refine ⟨_, rfl, ?_, ?_, fun k e => .inr (by simp [Value.ownBlock] at e; omega)⟩
        · have := own_cut f2 (k := M.length + 1) hG1
          rw [Nat.mul_one, show [Value.int .i64 x].length = 1 from rfl, ins_list1 hrl hcl hi hG1 hrt, ← cells_ins] at this
          rw [OwnI, hlen]
          subst hROW
          exact this
        · have h1 : W.grownBy (((W.alloc (.cells ROW 3)).drew.setCells W.heap.size i [.int .i64 x]).drew.setCells W.heap.size (i + 1) ((cellsI M).drop i)) none := by
            have a1 : W.grownBy (W.alloc (.cells ROW 3)).drew none := only_drew (only_alloc (World.grownBy.refl W none) _)
            refine ⟨g2.os.trans (g1.os.trans a1.os), g2.tape.trans (g1.tape.trans a1.tape), g2.output.trans (g1.output.trans a1.output), Nat.le_trans a1.size (Nat.le_trans g1.size g2.size), fun k hk _ => ?_⟩
            have hne : some k ≠ some W.heap.size := by simp; omega
            have s1 := a1.size
            have s2 := g1.size
            exact (g2.block k (by simp only [World.size_drew] at *; omega) hne).trans ((g1.block k (by omega) hne).trans (a1.block k hk (by simp)))
          subst hROW
          exact grown_weak h1
      · obtain rfl : i = M.length := by omega
        refine (Any2.slices_Insert_int_end_grow Tryz.laysNm221 (some ⟨g, 0, none⟩) M.length cap w.heap.size 0 1 1 (cellsI M) [.int .i64 x] W (by omega) hn (by omega) (by omega) hcl rfl (fun e => by cases e) (fun a e j u hj => by cases e; rw [Addr.add_lit]; exact hcs j u hj) hvs h1v).mono ?_
        rintro e w' ⟨rfl, rfl⟩
        refine ⟨_, rfl, ?_, grown_fresh W _ _, fun k e => .inr (by simp [Value.ownBlock] at e; omega)⟩
        have := own_fresh W R (grownCap W (M.length + 1) cap 3) (M.length + 1) (cellsI M ++ [.int .i64 x]) (by omega) (by simp [hcl]) (grownCap_ge W _ _ _) (grownCap_le_maxLen W _ _ _ (by unfold maxLen; omega))
        rw [OwnI, hlen, cells_ins, List.take_of_length_le (by omega), List.drop_eq_nil_of_le (by omega)]
        exact this
end Go.Proofs.YtioppkalehnoaaaGreatDoor
