/-
  The program's keys and sets of seals: key, add, has, sealsIn.
-/
import Derived.Test.YtnnmgbgkgnejlaaDoorSlKy
import Derived.Test.YtnnmgbgkgnejlaaDoorSlAt
import Derived.Test.YtnnmgbgkgnejlaaDoorShelf
import Derived.Lib.SmallJoins
import Derived.Lib.AppendIntMem
import Derived.Lib.BufferRead
namespace Go.Proofs.YtnnmgbgkgnejlaaDoor
open Go.RowKit
open Go.Maps (Keyed)
set_option linter.unusedSimpArgs false
set_option linter.unusedVariables false

/-- the table of powers of ten that strconv reads -/
abbrev PowS (w : World) : Prop := Lib.TabIs Tryd.prog w "internal/strconv.uint64pow10" .u64 Lib.pow10Tab
theorem gPowS : Tryd.prog.globalNamed "internal/strconv.uint64pow10" = some 1 := by kernel_rfl
theorem PowS.on {w w' : World} {B : Nat} (h : PowS w) (hb : Below B w w') (hB : w.heap.size ≤ B) : PowS w' := Joins.tab_stays gPowS h hb hB
theorem PowS.next {w w' : World} (h : PowS w) (hb : Below w.heap.size w w') : PowS w' := h.on hb (Nat.le_refl _)

/-- own bytes -/
abbrev OwnB (w : World) (R : Nat) (v : Value) (L : List UInt8) : Prop := w.ownsRow R 5 1 v L.length (Lib.byteCells L)
theorem conv_own {w : World} {R : Nat} {v : Value} {L : List UInt8} (h : OwnB w R v L) : (convert 22 9 v).run Tryd.prog w = .ok (.string ⟨L.toArray⟩) w := by
  obtain ⟨hl, h2⟩ := id h
  rcases h2 with ⟨rfl, h0⟩ | ⟨g, cap, cur, rfl, hb, hg, rest⟩
  · have hL : L = [] := List.eq_nil_of_length_eq_zero h0
    subst hL
    exact Lib.run_convert_nil_bytes w _ _ _ 0 Tryd.underlying22 Tryd.underlying5 Tryd.underlying9
  · exact run_convert_bytes_back w _ _ 5 ⟨g, 0, none⟩ cap L Tryd.underlying22 Tryd.underlying5 Tryd.underlying9 (fun j hj => World.ownsRow.cells h (g := g) rfl j _ (by simp [Lib.byteCells, hj]))
theorem infoU8 : (Tryd.prog.info? 5).map (fun i => (i.zero, i.size, i.bytes)) = some (some (.int .u8 0), 1, 1) := by kernel_rfl
theorem oneU8 (l : List UInt8) : ∀ u ∈ Lib.byteCells l, u.oneCell' = true := fun u hu => by
  obtain ⟨b, _, rfl⟩ := List.mem_map.1 hu; rfl
/-- a byte behind own bytes -/
theorem wpList_appB {ops : Array Oper} {rest : List Oper} {o : Oper} {act : Act} {w : World} {Q : Exit → Act → World → Prop} (hgd : o.guard = none) (s x : Operand)
    (hop : o.op = .call { callee := .builtin .append, args := #[s, x], argTypes := #[22, 22] })
    (R : Nat) (v : Value) (L : List UInt8) (hs : act.eval s = v) (hown : OwnB w R v L)
    (D c : Nat) (y : UInt8) (hx : act.eval x = .slice (some ⟨D, 0, none⟩) 1 c) (hM : w.cell? ⟨D, 0, none⟩ = some (.int .u8 (y.toNat : Int))) (hlen : L.length ≤ 100000000) (hR : R ≤ w.heap.size)
    (h : ∀ v' w', OwnB w' R v' (L ++ [y]) → w.grownBy w' v.ownBlock → wpList Tryd.prog ops Q rest (act.put o.dst v') w') : wpList Tryd.prog ops Q (o :: rest) act w := by
  obtain ⟨i0, hi, hz0, hz1, hz2⟩ := info_parts infoU8
  refine wpList_append_own w hgd s x 22 hop R 5 i0 (.int .u8 0) 1 1 Tryd.underlying22 hi hz0 hz1 hz2 rfl (by decide) v L.length (Lib.byteCells L) hs hown ⟨D, 0, none⟩ 1 c (Lib.byteCells [y]) hx rfl ?_ (oneU8 [y]) (by unfold maxLen; omega) (by omega) hR ?_
  · intro j u hu
    match j, hu with
    | 0, hu =>
      simp [Lib.byteCells] at hu
      subst hu
      rw [Addr.add_lit]
      exact hM
  · intro v' w' h2 h3 _
    exact h v' w' (by rw [OwnB, List.length_append]; rw [show Lib.byteCells (L ++ [y]) = Lib.byteCells L ++ Lib.byteCells [y] by simp [Lib.byteCells]]; exact h2) h3

/-- while a path is written -/
structure KyI (w0 wr : World) (P : List Int) (k : Nat) (v : Value) : Prop where
  own : OwnB wr w0.heap.size v (pkey (P.take k))
  bel : Below w0.heap.size w0 wr

set_option maxRecDepth 100000 in
set_option maxHeartbeats 4000000 in
theorem ikey_at (y t f b : Int) (a : Option Addr) (c : Nat) (P : List Int) (hw : SpW ⟨y, t, f, b, P⟩) (w : World) (hs : IntA w a P ∧ P.length ≤ c ∧ P.length ≤ 2000000) (ht : PowS w) :
    Calls Tryd.prog 63 #[.agg #[.int .i64 y, .int .i64 t, .int .i64 f, .int .i64 b, .slice a P.length c]] w fun e w' => e = .returned (.agg #[.int .i64 y, .int .i64 t, .int .i64 f, .int .i64 b, .string (pathB P)]) ∧ Below w.heap.size w w' := by
  have hPl := hs.2.2
  obtain ⟨W, hW⟩ : ∃ W, (w.alloc (.cells #[.int .i64 y, .int .i64 t, .int .i64 f, .int .i64 b, .slice a P.length c] 34)).alloc (.cells #[.int .i64 0, .int .i64 0, .int .i64 0, .int .i64 0, .string ⟨#[]⟩] 92) = W := ⟨_, rfl⟩
  have hb : Below w.heap.size w W := by rw [← hW]; exact ((Below.refl _ _).alloc (Nat.le_refl _) _).alloc (by simp) _
  have HWs := Lib.hid (show W.heap.size = w.heap.size + 2 by rw [← hW]; simp)
  have BX := Lib.hid (show AtY W w.heap.size [.int .i64 y, .int .i64 t, .int .i64 f, .int .i64 b, .slice a P.length c] by rw [← hW]; exact (AtY.new5 w _ _ _ _ _ _).below ((Below.refl _ _).alloc (Nat.le_refl _) _))
  have BR := Lib.hid (show AtY W (w.heap.size + 1) [.int .i64 0, .int .i64 0, .int .i64 0, .int .i64 0, .string ⟨#[]⟩] by
    rw [← hW]
    have h1 := AtY.new5 (w.alloc (.cells #[.int .i64 y, .int .i64 t, .int .i64 f, .int .i64 b, .slice a P.length c] 34)) (.int .i64 0) (.int .i64 0) (.int .i64 0) (.int .i64 0) (.string ⟨#[]⟩) 92
    simp only [World.size_alloc] at h1
    exact h1)
  have HM := Lib.hid (hs.1.below hb)
  have HT := Lib.hid (Lib.tabBelow_of_tabIs (ht.next hb))
  have HB := Lib.hid hb
  have HW := Lib.hid hw
  clear hs ht hb hw
  go_enter Tryd.func63, Tryd.ntmps63
  obtain ⟨q0, q1, q2, q3, q4⟩ := BX.out.five
  go_wp2_with fail
  clear q4
  go_loopw [3, 9] (fun v i wr => ∃ (k : Nat), k ≤ P.length ∧ i = .int .i64 (k : Int) ∧ Hid (KyI W wr P k v)) (fun _ i _ => P.length - (intOf i).toNat)
  case atStart => exact ⟨0, Nat.zero_le _, rfl, Lib.hid ⟨World.ownsRow_nil _ _ _ _, Below.refl _ _⟩⟩
  case round =>
    clear q0 q1 q2 q3
    obtain ⟨k, hk, rfl, HI⟩ := hrel
    by_cases hlt : k < P.length
    · obtain ⟨pb, po, x, rfl, hx, c0⟩ := (HM.out.below HI.out.bel).at hlt
      have HXx := Lib.hid hx
      have j0 : (0 : Int) ≤ (k : Int) := by omega
      have j1 : (k : Int) < (P.length : Int) := by omega
      have hxw : Iv x := HW.out.P x (List.mem_of_getElem? hx)
      have htk : P.take (k + 1) = P.take k ++ [x] := by rw [List.take_add_one, hx]; rfl
      have hln : (pkey (P.take k)).length ≤ 44000000 := by
        have h1 := pkey_len (P.take k) (fun y hy => HW.out.P y (List.mem_of_mem_take hy))
        rw [List.length_take] at h1; omega
      have hli : (Lib.itoa x).length ≤ 21 := Lib.itoa_length_le x hxw.1 hxw.2
      have HTK := Lib.hid htk
      clear hx htk
      go_wp2_with fail
      refine (Tryd.strconv_AppendInt_10 W.heap.size _ x hxw.1 hxw.2 _ _ _ HI.out.own HI.out.bel.size (by omega) (HT.out.on HI.out.bel)).mono ?_
      rintro en w1 ⟨v1, rfl, o1, b1, _⟩
      have HO1 := Lib.hid (show OwnB w1 W.heap.size v1 (pkey (P.take k) ++ Lib.itoa x) by
        rw [OwnB, List.length_append, show Lib.byteCells (pkey (P.take k) ++ Lib.itoa x) = Lib.byteCells (pkey (P.take k)) ++ Lib.byteCells (Lib.itoa x) by simp [Lib.byteCells]]; exact o1)
      have HB1 := Lib.hid (HI.out.bel.trans b1)
      clear o1 b1 c0
      go_wp2_with (refine wpList_appB rfl _ _ rfl W.heap.size v1 (pkey (P.take k) ++ Lib.itoa x) rfl (World.ownsRow.alloc HO1.out _) w1.heap.size 1 32 ?x1 ?c1 (by rw [List.length_append]; omega) (by have := HB1.out.size; simp; omega) ?g1)
      try case x1 => simp [Act.eval]
      try case c1 => simp
      intro v2 w2 o2 g2
      have HI2 := Lib.hid (show KyI W w2 P (k + 1) v2 from ⟨by rw [HTK.out, pkey_snoc]; first | exact o2 | (rw [← List.append_assoc]; exact o2), (HB1.out.alloc HB1.out.size _).grown g2 (by have := HB1.out.size; simp; omega) (fun k hk => ((World.ownsRow.lt HO1.out) k hk).1)⟩)
      clear o2 g2
      go_wp2_with fail
      go_roundw
      case rel => exact ⟨k + 1, by omega, by go_num, HI2⟩
      case measure => simp [intOf]; omega
    · obtain rfl : k = P.length := by omega
      have HO := Lib.hid HI.out.own
      rw [List.take_length] at HO
      have hcv := conv_own HO.out
      obtain ⟨q0, q1, q2, q3, q4⟩ := (BX.out.below HI.out.bel).five
      have HR := Lib.hid (BR.out.below HI.out.bel)
      have HBb := Lib.hid (HB.out.trans (HI.out.bel.mono HB.out.size))
      clear q4
      go_wp2_with (refine wpList_stY rfl 92 _ _ rfl (w.heap.size + 1) #[.int .i64 y, .int .i64 t, .int .i64 f, .int .i64 b, .string ⟨(pkey P).toArray⟩] ?x2 ?y2 ?o2 ?i2 _ HR.out rfl ?g2)
      try case x2 => simp [Act.eval]
      try case y2 => simp [Act.eval]
      try case o2 => simp [Value.oneCell']
      try case i2 => rfl
      intro w2 a2 g2
      obtain ⟨r0, r1, r2, r3, r4⟩ := a2.five
      have HE := Lib.hid (HBb.out.grown g2 HBb.out.size (fun k hk => by cases hk; omega))
      clear a2 g2 q0 q1 q2 q3
      go_wp2_with fail
      exact bodyPost_ret (v := .agg #[.int .i64 y, .int .i64 t, .int .i64 f, .int .i64 b, .string (pathB P)]) (by simp [results, Tryd.results63, go_sem, r0, r1, r2, r3, r4, pathB]) rfl ⟨rfl, HE.out⟩
theorem ikey_is (s : SV) (hw : SpW s.p) (w : World) (hs : s.m w) (ht : PowS w) :
    Calls Tryd.prog 63 #[slV s] w fun e w' => e = .returned (KS s.p) ∧ Below w.heap.size w w' := ikey_at s.y s.t s.f s.b s.a s.c s.P hw w hs ht
end Go.Proofs.YtnnmgbgkgnejlaaDoor
