/-
  The door seat: cutting a text at its first stroke; reading a number by the library.
-/
import Derived.Test.YtglmoacgaacmeaaDoorDoorB
import Derived.Test.YtglmoacgaacmeaaDoorBox
import Derived.Test.YtglmoacgaacmeaaDoorDoorM
import Derived.Lib.AtoiTie
namespace Go.Proofs.YtglmoacgaacmeaaDoor
open Go.RowKit
set_option linter.unusedSimpArgs false

theorem ix_no : ∀ {l : List UInt8}, (47 : UInt8) ∉ l → Lib.indexByte l 47 = -1
  | [], _ => rfl
  | x :: l, h => by
    have h1 : ¬ x = 47 := fun e => h (by simp [e])
    have h2 : (47 : UInt8) ∉ l := fun e => h (by simp [e])
    simp [Lib.indexByte, h1, ix_no h2]
theorem ix_yes : ∀ {p q : List UInt8}, (47 : UInt8) ∉ p → Lib.indexByte (p ++ 47 :: q) 47 = p.length
  | [], q, _ => by simp [Lib.indexByte]
  | x :: p, q, h => by
    have h1 : ¬ x = 47 := fun e => h (by simp [e])
    have h2 : (47 : UInt8) ∉ p := fun e => h (by simp [e])
    have := ix_yes (p := p) (q := q) h2
    simp only [List.cons_append, Lib.indexByte, this]
    simp [h1]

set_option maxHeartbeats 400000 in
theorem lcut_no (s : ByteArray) (w : World) (h : (47 : UInt8) ∉ s.data.toList) :
    Calls Tryd.prog 39 #[.string s, .string ⟨#[47]⟩] w fun e w' => e = .returned (.tuple #[.string s, .string ⟨#[]⟩, .bool false]) ∧ ∃ n, w' = w.drewN n := by
  go_enter Tryd.func39, Tryd.ntmps39
  go_wp2_with fail
  have := Tryd.stringslite_Index_one s 47 w
  rw [ix_no h] at this
  refine this.mono ?_
  rintro e w' ⟨rfl, rfl⟩
  go_wp2
  go_returns
  exact ⟨rfl, 0, rfl⟩

set_option maxHeartbeats 400000 in
theorem cut_no (s : ByteArray) (w : World) (h : (47 : UInt8) ∉ s.data.toList) :
    Calls Tryd.prog 25 #[.string s, .string ⟨#[47]⟩] w fun e w' => e = .returned (.tuple #[.string s, .string ⟨#[]⟩, .bool false]) ∧ ∃ n, w' = w.drewN n := by
  go_enter Tryd.func25, Tryd.ntmps25
  go_wp2_with fail
  refine (lcut_no s w h).mono ?_
  rintro e w' ⟨rfl, n, rfl⟩
  go_wp2
  go_returns
  exact ⟨rfl, n, rfl⟩

theorem ext_pre {s : ByteArray} {p q : List UInt8} (hs : s.data.toList = p ++ q) : s.extract 0 p.length = ⟨p.toArray⟩ := by
  apply ByteArray.ext
  apply Array.toList_inj.1
  rw [ByteArray.data_extract, Array.toList_extract, hs]
  simp [List.extract]
theorem ext_suf {s : ByteArray} {p q : List UInt8} {n : Nat} (hs : s.data.toList = p ++ q) (hn : n = p.length) : s.extract n (n + q.length) = ⟨q.toArray⟩ := by
  subst hn
  apply ByteArray.ext
  apply Array.toList_inj.1
  rw [ByteArray.data_extract, Array.toList_extract, hs]
  simp [List.extract]

set_option maxHeartbeats 400000 in
theorem lcut_yes (s : ByteArray) (p q : List UInt8) (w : World) (hs : s.data.toList = p ++ 47 :: q) (h : (47 : UInt8) ∉ p) (hz : s.size ≤ 1048576) :
    Calls Tryd.prog 39 #[.string s, .string ⟨#[47]⟩] w fun e w' => e = .returned (.tuple #[.string ⟨p.toArray⟩, .string ⟨q.toArray⟩, .bool true]) ∧ ∃ n, w' = w.drewN n := by
  have hsz : s.size = p.length + 1 + q.length := by
    show s.data.size = _
    rw [← Array.length_toList, hs, List.length_append, List.length_cons]
    omega
  have HS := Lib.hid hs
  clear hs
  go_enter Tryd.func39, Tryd.ntmps39
  go_wp2_with fail
  have k := Tryd.stringslite_Index_one s 47 w
  rw [HS.out, ix_yes h] at k
  refine k.mono ?_
  rintro e w' ⟨rfl, rfl⟩
  clear k
  go_wp2_with fail
  go_quiet (fail)
  go_wp2
  go_returns
  refine ⟨?_, _, rfl⟩
  have e1 : s.extract 0 p.length = ⟨p.toArray⟩ := ext_pre HS.out
  have e2 : s.extract (p.length + 1) (p.length + 1 + q.length) = ⟨q.toArray⟩ := ext_suf (p := p ++ [47]) (by simpa using HS.out) (by simp)
  rw [e1, e2]; rfl

set_option maxHeartbeats 400000 in
theorem cut_yes (s : ByteArray) (p q : List UInt8) (w : World) (hs : s.data.toList = p ++ 47 :: q) (h : (47 : UInt8) ∉ p) (hz : s.size ≤ 1048576) :
    Calls Tryd.prog 25 #[.string s, .string ⟨#[47]⟩] w fun e w' => e = .returned (.tuple #[.string ⟨p.toArray⟩, .string ⟨q.toArray⟩, .bool true]) ∧ ∃ n, w' = w.drewN n := by
  go_enter Tryd.func25, Tryd.ntmps25
  go_wp2_with fail
  refine (lcut_yes s p q w hs h hz).mono ?_
  rintro e w' ⟨rfl, n, rfl⟩
  go_wp2
  go_returns
  exact ⟨rfl, n, rfl⟩

/-- the two sentinels' variables hold an error each -/
def Errs (w : World) : Prop := (∃ t p, w.var? Tryd.prog "strconv.ErrSyntax" = some #[.iface t p]) ∧ ∃ t p, w.var? Tryd.prog "strconv.ErrRange" = some #[.iface t p]
theorem gSyn : Tryd.prog.globalNamed "strconv.ErrSyntax" = some 1 := by kernel_rfl
theorem gRng : Tryd.prog.globalNamed "strconv.ErrRange" = some 2 := by kernel_rfl
theorem Errs.on {w w' : World} {B : Nat} (h : Errs w) (hb : Below B w w') (hB : w.heap.size ≤ B) : Errs w' := by
  obtain ⟨⟨t1, p1, h1⟩, t2, p2, h2⟩ := h
  exact ⟨⟨t1, p1, Joins.var_stays gSyn h1 hb hB⟩, t2, p2, Joins.var_stays gRng h2 hb hB⟩
theorem atoi_ok (s : ByteArray) (v : Int) (w : World) (hz : s.size ≤ 1048576) (h : Lib.atoiAll s.data.toList = .ok v) :
    Calls Tryd.prog 26 #[.string s] w fun e w' => e = .returned (.tuple #[.int .i64 v, .nilIface]) ∧ Below w.heap.size w w' := by
  refine (Tryd.strconv_Atoi_ok s (by omega) v h w).mono ?_
  rintro e w' ⟨rfl, rfl | ⟨t, rfl⟩⟩
  · exact ⟨rfl, Below.refl _ _⟩
  · exact ⟨rfl, Joins.below_bytesWorld _ _ _ _ (Nat.le_refl _)⟩
def isErr (v : Value) : Prop := ∃ t p, v = .iface t p
theorem atoi_any (s : ByteArray) (w : World) (hz : s.size ≤ 1048576) (he : Errs w) :
    Calls Tryd.prog 26 #[.string s] w fun e w' => (∃ n v, e = .returned (.tuple #[.int .i64 n, v]) ∧ (v = .nilIface ∨ isErr v)) ∧ Below w.heap.size w w' := by
  obtain ⟨⟨t1, p1, h1⟩, t2, p2, h2⟩ := he
  cases h : Lib.atoiAll s.data.toList with
  | ok v =>
    refine (atoi_ok s v w hz h).mono ?_
    rintro e w' ⟨rfl, hb⟩
    exact ⟨⟨_, _, rfl, .inl rfl⟩, hb⟩
  | «syntax» =>
    refine (Tryd.strconv_Atoi_syntax_var s (by omega) h t1 p1 w h1).mono ?_
    rintro e w' ⟨N, rfl, _, _, hb⟩
    exact ⟨⟨_, _, rfl, .inr ⟨_, _, rfl⟩⟩, hb⟩
  | range =>
    refine (Tryd.strconv_Atoi_range_var s (by omega) h t2 p2 w h2).mono ?_
    rintro e w' ⟨N, rfl, _, _, hb⟩
    exact ⟨⟨_, _, rfl, .inr ⟨_, _, rfl⟩⟩, hb⟩

set_option maxRecDepth 4000 in
set_option maxHeartbeats 1000000 in
/-- what the program reads of a text that no range has: nothing -/
theorem iread_no (s : ByteArray) (w : World) (hz : s.size ≤ 1048576) (he : Errs w) (ht : Pow w) (hno : ∀ f b, okB f b = true → s ≠ txt f b) :
    Calls Tryd.prog 12 #[.string s] w fun e w' => e = .returned (.tuple #[.agg #[.int .i64 0, .int .i64 0], .bool false]) ∧ Below w.heap.size w w' := by
  have HN := Lib.hid hno
  clear hno
  by_cases hs : (47 : UInt8) ∈ s.data.toList
  · obtain ⟨p, q, hpq, hp⟩ : ∃ p q, s.data.toList = p ++ 47 :: q ∧ (47 : UInt8) ∉ p := by
      obtain ⟨p, q, h1, h2⟩ := List.eq_append_cons_of_mem hs
      exact ⟨p, q, h1, h2⟩
    have hsz : s.size = p.length + 1 + q.length := by
      show s.data.size = _
      rw [← Array.length_toList, hpq, List.length_append, List.length_cons]
      omega
    have hpz : (⟨p.toArray⟩ : ByteArray).size ≤ 1048576 := by
      show p.toArray.size ≤ _
      rw [List.size_toArray]; omega
    have hqz : (⟨q.toArray⟩ : ByteArray).size ≤ 1048576 := by
      show q.toArray.size ≤ _
      rw [List.size_toArray]; omega
    clear hsz
    have HP := Lib.hid (And.intro hpq hp)
    clear hpq hp
    go_enter Tryd.func12, Tryd.ntmps12
    go_wp2_with fail
    refine (cut_yes s p q _ HP.out.1 HP.out.2 hz).mono ?_
    rintro e w1 ⟨rfl, n, rfl⟩
    have B1 : Below w.heap.size w ((w.alloc (.cells #[.int .i64 0, .int .i64 0] 25)).drewN n) := below_drewN ((Below.refl _ _).alloc (Nat.le_refl _) _) _
    have r0 := (At.new w 0 0 25).drewN n
    go_wp2_with fail
    generalize (w.alloc (.cells #[.int .i64 0, .int .i64 0] 25)).drewN n = W1 at *
    refine (atoi_any _ _ hpz (he.on B1 (Nat.le_refl _))).mono ?_
    rintro e w2 ⟨⟨n1, v1, rfl, hv1⟩, hb⟩
    replace r0 := r0.below hb
    replace B1 := next B1 hb
    clear hb
    go_wp2_with fail
    refine (atoi_any _ _ hqz (he.on B1 (Nat.le_refl _))).mono ?_
    rintro e w3 ⟨⟨n2, v2, rfl, hv2⟩, hb⟩
    replace r0 := r0.below hb
    replace B1 := next B1 hb
    clear hb
    obtain ⟨a0, a1, b0, b1⟩ := id r0
    rcases hv1 with rfl | ⟨t1, p1, rfl⟩
    · rcases hv2 with rfl | ⟨t2, p2, rfl⟩
      · go_wp2_with fail
        refine (itext_any n1 n2 _ ((ht.on B1 (Nat.le_refl _)).on ((Below.refl _ _).alloc (Nat.le_refl _) _) (Nat.le_refl _))).mono ?_
        rintro e w4 ⟨rfl, hb⟩
        replace r0 := (r0.alloc (.cells #[.int .i64 n1, .int .i64 n2] 25)).below hb
        replace B1 := next B1 (below_box hb (by simp))
        clear hb a0 a1 b0 b1
        obtain ⟨a0, a1, b0, b1⟩ := id r0
        have hne : ((rtext n1 n2).toList == s.toList) = false := by
          rw [beq_eq_false_iff_ne]
          intro k
          have k' : rtext n1 n2 = s := ByteArray.ext (by simpa [ByteArray.toList_eq] using k)
          by_cases ho : okB n1 n2 = true
          · rw [rtext, if_pos ho] at k'
            exact HN.out _ _ ho k'.symm
          · rw [rtext, if_neg ho] at k'
            subst k'
            simp at hs
        go_wp2
        have r1 := r0.put 0 0
        have B2 := below_set2 B1 (.int .i64 0) (.int .i64 0) (Nat.le_refl _)
        obtain ⟨d0, d1, _, _⟩ := r1
        exact bodyPost_ret (v := .tuple #[.agg #[.int .i64 0, .int .i64 0], .bool false]) (by simp [results, Tryd.results12, go_sem, d0, d1]) rfl ⟨rfl, B2⟩
      · go_wp2
        have r1 := r0.put 0 0
        have B2 := below_set2 B1 (.int .i64 0) (.int .i64 0) (Nat.le_refl _)
        obtain ⟨d0, d1, _, _⟩ := r1
        exact bodyPost_ret (v := .tuple #[.agg #[.int .i64 0, .int .i64 0], .bool false]) (by simp [results, Tryd.results12, go_sem, d0, d1]) rfl ⟨rfl, B2⟩
    · go_wp2
      have r1 := r0.put 0 0
      have B2 := below_set2 B1 (.int .i64 0) (.int .i64 0) (Nat.le_refl _)
      obtain ⟨d0, d1, _, _⟩ := r1
      exact bodyPost_ret (v := .tuple #[.agg #[.int .i64 0, .int .i64 0], .bool false]) (by simp [results, Tryd.results12, go_sem, d0, d1]) rfl ⟨rfl, B2⟩
  · go_enter Tryd.func12, Tryd.ntmps12
    go_wp2_with fail
    refine (cut_no s _ hs).mono ?_
    rintro e w' ⟨rfl, n, rfl⟩
    go_wp2
    go_returns
    exact ⟨rfl, below_set2 (below_drewN ((Below.refl _ _).alloc (Nat.le_refl _) _) _) _ _ (Nat.le_refl _)⟩
theorem txt_data (f b : Int) : (txt f b).data.toList = Lib.decDigits f.toNat ++ 47 :: Lib.decDigits b.toNat := by
  simp [txt, dig, ByteArray.data_append]
theorem no47 {n : Nat} (h : n < 256) : (47 : UInt8) ∉ Lib.decDigits n := by
  rw [dec3 (by omega)]
  have := (dig3_ok n h).2
  intro k
  have := List.all_eq_true.1 this _ k
  simp at this
theorem atoi_dig : ∀ n, n < 256 → Lib.atoiAll (dig3 n) = .ok (n : Int) := by decide +kernel

set_option maxRecDepth 4000 in
set_option maxHeartbeats 1000000 in
/-- what the program reads of a range's text: the range -/
theorem iread_yes (f b : Int) (w : World) (ht : Pow w) (ho : okB f b = true) :
    Calls Tryd.prog 12 #[.string (txt f b)] w fun e w' => e = .returned (.tuple #[.agg #[.int .i64 f, .int .i64 b], .bool true]) ∧ Below w.heap.size w w' := by
  obtain ⟨f0, f1, b0, b8⟩ := okB_in ho
  have hsz : (txt f b).size ≤ 1048576 := by
    have h1 := dec_len (n := f.toNat) (by omega); have h2 := dec_len (n := b.toNat) (by omega)
    show (txt f b).data.size ≤ _
    rw [← Array.length_toList, txt_data, List.length_append, List.length_cons]
    omega
  have E : rtext f b = txt f b := by rw [rtext, if_pos ho]
  have hp1 : (⟨(Lib.decDigits f.toNat).toArray⟩ : ByteArray).size ≤ 1048576 := by
    have h1 := dec_len (n := f.toNat) (by omega)
    show (Lib.decDigits f.toNat).toArray.size ≤ _
    rw [List.size_toArray]; omega
  have hp2 : (⟨(Lib.decDigits b.toNat).toArray⟩ : ByteArray).size ≤ 1048576 := by
    have h1 := dec_len (n := b.toNat) (by omega)
    show (Lib.decDigits b.toNat).toArray.size ≤ _
    rw [List.size_toArray]; omega
  have A1 : Lib.atoiAll (Lib.decDigits f.toNat).toArray.toList = .ok f := by
    have := atoi_dig f.toNat (by omega)
    rw [← dec3 (by omega), Int.toNat_of_nonneg f0] at this
    simpa using this
  have A2 : Lib.atoiAll (Lib.decDigits b.toNat).toArray.toList = .ok b := by
    have := atoi_dig b.toNat (by omega)
    rw [← dec3 (by omega), Int.toNat_of_nonneg b0] at this
    simpa using this
  have C := cut_yes (txt f b) (Lib.decDigits f.toNat) (Lib.decDigits b.toNat) (w.alloc (.cells #[.int .i64 0, .int .i64 0] 25)) (txt_data f b) (no47 (by omega)) hsz
  have T1 := Lib.hid (And.intro hp1 A1)
  have T2 := Lib.hid (And.intro hp2 A2)
  have T3 := Lib.hid C
  have T4 := Lib.hid E
  clear hp1 A1 hp2 A2 C E
  generalize hd1 : (⟨(Lib.decDigits f.toNat).toArray⟩ : ByteArray) = d1 at *
  generalize hd2 : (⟨(Lib.decDigits b.toNat).toArray⟩ : ByteArray) = d2 at *
  go_enter Tryd.func12, Tryd.ntmps12
  go_wp2_with fail
  refine T3.out.mono ?_
  rintro e w1 ⟨rfl, n, rfl⟩
  have B1 : Below w.heap.size w ((w.alloc (.cells #[.int .i64 0, .int .i64 0] 25)).drewN n) := below_drewN ((Below.refl _ _).alloc (Nat.le_refl _) _) _
  have r0 := (At.new w 0 0 25).drewN n
  go_wp2_with fail
  generalize (w.alloc (.cells #[.int .i64 0, .int .i64 0] 25)).drewN n = W1 at *
  refine (atoi_ok _ f _ T1.out.1 (by subst hd1; exact T1.out.2)).mono ?_
  rintro e w2 ⟨rfl, hb⟩
  replace r0 := r0.below hb
  replace B1 := next B1 hb
  clear hb
  go_wp2_with fail
  refine (atoi_ok _ b _ T2.out.1 (by subst hd2; exact T2.out.2)).mono ?_
  rintro e w3 ⟨rfl, hb⟩
  replace r0 := r0.below hb
  replace B1 := next B1 hb
  clear hb
  obtain ⟨a0, a1, g0, g1⟩ := id r0
  go_wp2_with fail
  refine (itext_any f b _ ((ht.on B1 (Nat.le_refl _)).on ((Below.refl _ _).alloc (Nat.le_refl _) _) (Nat.le_refl _))).mono ?_
  rintro e w4 ⟨rfl, hb⟩
  have q0 := cell_later (a := ⟨w3.heap.size, 0, none⟩) (v := .int .i64 f) hb (by simp)
  have q1 := cell_later (a := ⟨w3.heap.size, 1, none⟩) (v := .int .i64 b) hb (by simp)
  replace r0 := (r0.alloc (.cells #[.int .i64 f, .int .i64 b] 25)).below hb
  replace B1 := next B1 (below_box hb (by simp))
  clear hb a0 a1 g0 g1
  obtain ⟨a0, a1, g0, g1⟩ := id r0
  rw [T4.out]
  go_wp2
  have r1 := r0.put f b
  have B2 := below_set2 B1 (.int .i64 f) (.int .i64 b) (Nat.le_refl _)
  obtain ⟨d0, d1, _, _⟩ := r1
  exact bodyPost_ret (v := .tuple #[.agg #[.int .i64 f, .int .i64 b], .bool true]) (by simp [results, Tryd.results12, go_sem, d0, d1]) rfl ⟨rfl, B2⟩
end Go.Proofs.YtglmoacgaacmeaaDoor
