/-
  The law that clauses are a policy, if they are not too many: the walk.
-/
import Derived.Test.YthkaaamgkmmeeaaClDt
namespace Go.Proofs.Ythkaaamgkmmeeaa
open Go.RowKit
set_option linter.unusedSimpArgs false
set_option linter.unusedVariables false

theorem CsA.take {w : World} {a : Option Addr} {L : List CL} (h : CsA w a L) (k : Nat) : CsA w a (L.take k) := by
  rcases h with rfl | ⟨b, off, e, h⟩
  · exact .inl (by simp)
  · refine .inr ⟨b, off, e, fun i v hi => ?_⟩
    rw [List.getElem?_take] at hi
    split at hi
    · exact h i v hi
    · cases hi
theorem CsA.drop {w : World} {b off : Nat} {L : List CL} (h : CsA w (some ⟨b, off, none⟩) L) (k : Nat) : CsA w (some ⟨b, off + k * 8, none⟩) (L.drop k) := by
  rcases h with rfl | ⟨b', off', e, h⟩
  · exact .inl (by simp)
  · cases e
    refine .inr ⟨b, off + k * 8, rfl, fun i v hi => ?_⟩
    rw [List.getElem?_drop] at hi
    have := h (k + i) v hi
    rw [show off + (k + i) * 8 = off + k * 8 + i * 8 by omega] at this
    exact this
theorem polOk_take {L : List CL} (h : polOk L = true) (k : Nat) : polOk (L.take k) = true := by
  rw [polOk_iff] at h ⊢
  exact ⟨by have := h.1; rw [List.length_take]; omega, fun c hc => h.2 c (List.mem_of_mem_take hc)⟩
theorem polOk_drop {L : List CL} (h : polOk L = true) (k : Nat) : polOk (L.drop k) = true := by
  rw [polOk_iff] at h ⊢
  exact ⟨by have := h.1; rw [List.length_drop]; omega, fun c hc => h.2 c (List.mem_of_mem_drop hc)⟩
theorem polOk_z {L : List CL} : polOk (L ++ [zCL]) = false := polOk_bad (c := zCL) (by simp) (by simp [clOk, condOk, zCL])

/-- 'append(own, xs...)' under a guard that says yes -/
theorem wpListG_appC {ops : Array Oper} {rest : List Oper} {o : Oper} {act : Act} {w : World} {Q : Exit → Act → World → Prop} (hw : Region.wanted o (yielded ops act.tmps) = true) (s x : Operand)
    (hop : o.op = .call { callee := .builtin .append, args := #[s, x], argTypes := #[30, 30] })
    (R : Nat) (v : Value) (L : List CL) (hs : act.eval s = v) (hown : OwnC w R v L)
    (a : Option Addr) (m c : Nat) (M : List CL) (hm : m = M.length) (hx : act.eval x = .slice a m c) (hM : CsA w a M) (hlen : L.length + M.length ≤ 2000000) (hR : R ≤ w.heap.size)
    (h : ∀ v' w', OwnC w' R v' (L ++ M) → w.grownBy w' v.ownBlock → wpList Try.prog ops Q rest (act.put o.dst v') w') : wpList Try.prog ops Q (o :: rest) act w := by
  unfold wpList
  rw [if_pos hw]
  exact .inl (wp_appC s x hop R v L hs hown a m c M hm hx hM hlen hR h)

set_option maxRecDepth 100000 in
set_option maxHeartbeats 4000000 in
theorem lawPolicyForm (a0 : Option Addr) (len0 cap0 : Nat) (zs0 : List Int) (a1 : Option Addr) (len1 cap1 : Nat) (zs1 : List Int) (w : World) (h0 : IsRow w a0 len0 cap0 zs0) (h1 : IsRow w a1 len1 cap1 zs1) :
    Calls Try.prog 4 #[.slice a0 len0 cap0, .slice a1 len1 cap1] w fun e w' => e = .returned (.bool true) ∧ Below w.heap.size w w' := by
  have H0 := Lib.hid h0
  clear h0 h1
  by_cases hl0 : (1048576 : Int) < (len0 : Int)
  · go_enter Try.func4, Try.ntmps4
    go_wp2_with fail
    go_ret
    exact ⟨rfl, Below.refl _ _⟩
  by_cases hl1 : (1048576 : Int) < (len1 : Int)
  · go_enter Try.func4, Try.ntmps4
    go_wp2_with fail
    go_ret
    exact ⟨rfl, Below.refl _ _⟩
  go_enter Try.func4, Try.ntmps4
  go_wp2_with fail
  refine (dPolicyOk_any a0 len0 cap0 zs0 _ H0.out).mono ?_
  rintro en w1 ⟨v, L, rfl, hl, o1, b1⟩
  have hsh : (v = .slice none 0 0 ∧ L = []) ∨ ∃ g cap, v = .slice (some ⟨g, 0, none⟩) L.length cap ∧ L.length ≤ cap ∧ cap ≤ 9223372036854775807 := by
    rcases o1.2 with ⟨e0, e1⟩ | ⟨g, cap, cur, e0, _, _, hn, hm, _⟩
    · exact .inl ⟨e0, List.eq_nil_of_length_eq_zero e1⟩
    · exact .inr ⟨g, cap, e0, hn, by unfold maxLen at hm; omega⟩
  have HO1 := Lib.hid o1
  have HB1 := Lib.hid b1
  clear o1 b1
  obtain ⟨u, hu⟩ : ∃ u, polOk L = u := ⟨_, rfl⟩
  have HU := Lib.hid hu
  have huu : (u != u) = false := by simp
  have hue : (u == u) = true := by simp
  clear hu
  rcases hsh with ⟨rfl, rfl⟩ | ⟨g, cap, rfl, hc, hcm⟩
  · go_wp2_with fail
    refine (ipolok_is [] HU.out none 0 0 _ rfl (.inl rfl) (by simp)).mono ?_
    rintro en w2 ⟨rfl, b2⟩
    have HB2 := Lib.hid (next HB1.out b2)
    clear b2 HB1
    go_wp2_with fail
    refine (spolok_is [] HU.out none 0 0 _ rfl (.inl rfl) (by simp)).mono ?_
    rintro en w3 ⟨rfl, b3⟩
    have HB3 := Lib.hid (next HB2.out b3)
    clear b3 HB2
    have hut : u = true := by rw [← HU.out]; rfl
    subst hut
    have hmod : (len1 : Int).tmod 1 = 0 := Int.tmod_one _
    go_wp2_with fail
    refine (ipolok_is [] HU.out none 0 0 _ rfl (.inl rfl) (by simp)).mono ?_
    rintro en w4 ⟨rfl, b4⟩
    have HB4 := Lib.hid (next HB3.out b4)
    clear b4 HB3
    go_wp2_with fail
    refine (ipolok_is [] HU.out none 0 0 _ rfl (.inl rfl) (by simp)).mono ?_
    rintro en w5 ⟨rfl, b5⟩
    have HB5 := Lib.hid (next HB4.out b5)
    have hs5 := HB5.out.size
    clear b5 HB4
    go_wp2_with (at_builtin; refine wpListG_appC ?w1c (.tmp 49) (.tmp 52) rfl w5.heap.size (.slice (some ⟨w5.heap.size, 0, none⟩) 0 0) [] ?s1c ?o1c none 0 0 [] ?m1c ?x1c ?c1c ?l1c ?r1c ?h1c)
    try case w1c => rfl
    case s1c => rfl
    case o1c => exact ownc_empty w5 w5.heap.size (Nat.le_refl _)
    case m1c => rfl
    case x1c => rfl
    case c1c => exact .inl rfl
    case l1c => simp
    case r1c => simp
    intro v6 w6 own6 grow6
    replace own6 : OwnC w6 w5.heap.size v6 [] := own6
    have HB6 := Lib.hid (((HB5.out.alloc hs5 _).grown grow6 (by simp; omega) (fun j e => by simp [Value.ownBlock] at e; omega)))
    have HO6 := Lib.hid own6
    have hs6 : w5.heap.size ≤ w6.heap.size := by have := grow6.size; simp at this; omega
    clear own6 grow6
    go_wp2_with (at_builtin; refine wpListG_appC ?w2c (.tmp 53) (.tmp 55) rfl w5.heap.size v6 [] ?s2c ?o2c (some ⟨w6.heap.size, 0, none⟩) 1 1 [zCL] ?m2c ?x2c ?c2c ?l2c ?r2c ?h2c)
    try case w2c => rfl
    case s2c => rfl
    case o2c => exact World.ownsRow.alloc HO6.out _
    case m2c => rfl
    case x2c => rfl
    case c2c => exact news8 w6 zCL
    case l2c => simp
    case r2c => (simp; omega)
    intro v7 w7 own7 grow7
    have HB7 := Lib.hid ((HB6.out.alloc HB6.out.size _).grown grow7 (by have := HB6.out.size; simp; omega) (fun j e => by have := OwnC.lt' HO6.out j e; omega))
    replace own7 : OwnC w7 w5.heap.size v7 [zCL] := own7
    obtain ⟨M7, hM7⟩ : ∃ M, M = [zCL] := ⟨_, rfl⟩
    rw [← hM7] at own7
    have HZ7 : Hid (polOk M7 = false ∧ M7.length ≤ 2000000) := Lib.hid (by rw [hM7]; exact ⟨polOk_z (L := []), by simp⟩)
    clear hM7
    obtain ⟨a7, c7, rfl, _, t7⟩ := OwnC.tab own7
    have HT7 := Lib.hid t7
    clear own7 grow7 t7 HO6 HB6
    go_wp2_with fail
    refine (ipolok_is M7 HZ7.out.1 a7 c7 _ _ rfl HT7.out HZ7.out.2).mono ?_
    rintro en w8 ⟨rfl, b8⟩
    have HB8 := Lib.hid (next HB7.out b8)
    clear b8 HB7 HT7
    go_wp2_with fail
    go_ret
    exact ⟨rfl, HB8.out⟩
  · obtain ⟨_, _, e, _, t1⟩ := OwnC.tab HO1.out
    injection e with e1 _ e2
    subst e1 e2
    have HT1 := Lib.hid t1
    clear t1
    go_wp2_with fail
    refine (ipolok_is L HU.out _ _ _ _ rfl HT1.out (by omega)).mono ?_
    rintro en w2 ⟨rfl, b2⟩
    have HB2 := Lib.hid (next HB1.out b2)
    have HT2 := Lib.hid (HT1.out.below b2)
    clear b2 HB1 HT1
    go_wp2_with fail
    refine (spolok_is L HU.out _ _ _ _ rfl HT2.out (by omega)).mono ?_
    rintro en w3 ⟨rfl, b3⟩
    have HB3 := Lib.hid (next HB2.out b3)
    have HT3 := Lib.hid (HT2.out.below b3)
    clear b3 HB2 HT2
    cases u with
    | false =>
      go_wp2_with fail
      refine (spolok_is L HU.out _ _ _ _ rfl HT3.out (by omega)).mono ?_
      rintro en w4 ⟨rfl, b4⟩
      have HB4 := Lib.hid (next HB3.out b4)
      clear b4
      go_wp2_with fail
      go_ret
      exact ⟨rfl, HB4.out⟩
    | true =>
      have i1 : IntKind.i64.wrap ((L.length : Int) + 1) = (L.length : Int) + 1 := by rw [IntKind.wrap_i64]; omega
      have hmod : (len1 : Int).tmod ((L.length : Int) + 1) = ((len1 % (L.length + 1) : Nat) : Int) := by rw [Int.tmod_eq_emod_of_nonneg (by omega)]; simp
      have hk : len1 % (L.length + 1) ≤ L.length := by have := Nat.mod_lt len1 (show 0 < L.length + 1 by omega); omega
      have hne : ¬ ((L.length : Int) + 1 = 0) := by omega
      generalize len1 % (L.length + 1) = k at *
      have k0 : (0 : Int) ≤ (k : Int) := by omega
      have k1 : (k : Int) ≤ (cap : Int) := by omega
      have k2 : (k : Int) ≤ (L.length : Int) := by omega
      have k3 : ((L.length : Nat) : Int) - (k : Int) = ((L.length - k : Nat) : Int) := by omega
      go_wp2_with fail
      refine (ipolok_is (L.take k) (polOk_take HU.out k) (some ⟨g, 0, none⟩) cap k _ (by rw [List.length_take]; omega) (HT3.out.take k) (by rw [List.length_take]; omega)).mono ?_
      rintro en w4 ⟨rfl, b4⟩
      have HB4 := Lib.hid (next HB3.out b4)
      have HT4 := Lib.hid (HT3.out.below b4)
      clear b4 HB3 HT3
      by_cases hck : cap - k = 0
      · have hck2 : (cap : Int) - (k : Int) = 0 := by omega
        go_wp2_with fail
        refine (ipolok_is (L.drop k) (polOk_drop HU.out k) (some ⟨g, 0, none⟩) 0 (L.length - k) _ (by rw [List.length_drop]) (.inl (by simp; omega)) (by rw [List.length_drop]; omega)).mono ?_
        rintro en w5 ⟨rfl, b5⟩
        have HB5 := Lib.hid (next HB4.out b5)
        have HT5 := Lib.hid (HT4.out.below b5)
        have hs5 := HB5.out.size
        clear b5 HB4 HT4
        go_wp2_with (at_builtin; refine wpListG_appC ?w1a (.tmp 49) (.tmp 52) rfl w5.heap.size (.slice (some ⟨w5.heap.size, 0, none⟩) 0 0) [] ?s1a ?o1a (some ⟨g, 0, none⟩) k cap (L.take k) ?m1a ?x1a ?c1a ?l1a ?r1a ?h1a)
        try case w1a => rfl
        case s1a => rfl
        case o1a => exact ownc_empty w5 w5.heap.size (Nat.le_refl _)
        case m1a => rw [List.length_take]; omega
        case x1a => rfl
        case c1a => exact (HT5.out.take k).alloc _
        case l1a => (simp; omega)
        case r1a => simp
        intro v6 w6 own6 grow6
        replace own6 : OwnC w6 w5.heap.size v6 (L.take k) := own6
        have HB6 := Lib.hid (((HB5.out.alloc hs5 _).grown grow6 (by simp; omega) (fun j e => by simp [Value.ownBlock] at e; omega)))
        have HO6 := Lib.hid own6
        have hs6 : w5.heap.size ≤ w6.heap.size := by have := grow6.size; simp at this; omega
        clear own6 grow6
        go_wp2_with (at_builtin; refine wpListG_appC ?w2a (.tmp 53) (.tmp 55) rfl w5.heap.size v6 (L.take k) ?s2a ?o2a (some ⟨w6.heap.size, 0, none⟩) 1 1 [zCL] ?m2a ?x2a ?c2a ?l2a ?r2a ?h2a)
        try case w2a => rfl
        case s2a => rfl
        case o2a => exact World.ownsRow.alloc HO6.out _
        case m2a => rfl
        case x2a => rfl
        case c2a => exact news8 w6 zCL
        case l2a => (simp; omega)
        case r2a => (simp; omega)
        intro v7 w7 own7 grow7
        have HB7 := Lib.hid ((HB6.out.alloc HB6.out.size _).grown grow7 (by have := HB6.out.size; simp; omega) (fun j e => by have := OwnC.lt' HO6.out j e; omega))
        obtain ⟨M7, hM7⟩ : ∃ M, M = L.take k ++ [zCL] := ⟨_, rfl⟩
        rw [← hM7] at own7
        have HZ7 : Hid (polOk M7 = false ∧ M7.length ≤ 2000000) := Lib.hid (by rw [hM7]; exact ⟨polOk_z, by simp; omega⟩)
        clear hM7
        obtain ⟨a7, c7, rfl, _, t7⟩ := OwnC.tab own7
        have HT7 := Lib.hid t7
        clear own7 grow7 t7 HO6 HB6
        go_wp2_with fail
        refine (ipolok_is M7 HZ7.out.1 a7 c7 _ _ rfl HT7.out HZ7.out.2).mono ?_
        rintro en w8 ⟨rfl, b8⟩
        have HB8 := Lib.hid (next HB7.out b8)
        clear b8 HB7 HT7
        have hl5 : (L.length : Int) ≤ 5 := by have := ((polOk_iff L).1 HU.out).1; omega
        go_wp2_with fail
        go_ret
        exact ⟨rfl, HB8.out⟩
      · have hck2 : ¬ (cap : Int) - (k : Int) = 0 := by omega
        go_wp2_with fail
        refine (ipolok_is (L.drop k) (polOk_drop HU.out k) (some ⟨g, k * 8, none⟩) (cap - k) (L.length - k) _ (by rw [List.length_drop]) (by have := HT4.out.drop k; rwa [Nat.zero_add] at this) (by rw [List.length_drop]; omega)).mono ?_
        rintro en w5 ⟨rfl, b5⟩
        have HB5 := Lib.hid (next HB4.out b5)
        have HT5 := Lib.hid (HT4.out.below b5)
        have hs5 := HB5.out.size
        clear b5 HB4 HT4
        go_wp2_with (at_builtin; refine wpListG_appC ?w1b (.tmp 49) (.tmp 52) rfl w5.heap.size (.slice (some ⟨w5.heap.size, 0, none⟩) 0 0) [] ?s1b ?o1b (some ⟨g, 0, none⟩) k cap (L.take k) ?m1b ?x1b ?c1b ?l1b ?r1b ?h1b)
        try case w1b => rfl
        case s1b => rfl
        case o1b => exact ownc_empty w5 w5.heap.size (Nat.le_refl _)
        case m1b => rw [List.length_take]; omega
        case x1b => rfl
        case c1b => exact (HT5.out.take k).alloc _
        case l1b => (simp; omega)
        case r1b => simp
        intro v6 w6 own6 grow6
        replace own6 : OwnC w6 w5.heap.size v6 (L.take k) := own6
        have HB6 := Lib.hid (((HB5.out.alloc hs5 _).grown grow6 (by simp; omega) (fun j e => by simp [Value.ownBlock] at e; omega)))
        have HO6 := Lib.hid own6
        have hs6 : w5.heap.size ≤ w6.heap.size := by have := grow6.size; simp at this; omega
        clear own6 grow6
        go_wp2_with (at_builtin; refine wpListG_appC ?w2b (.tmp 53) (.tmp 55) rfl w5.heap.size v6 (L.take k) ?s2b ?o2b (some ⟨w6.heap.size, 0, none⟩) 1 1 [zCL] ?m2b ?x2b ?c2b ?l2b ?r2b ?h2b)
        try case w2b => rfl
        case s2b => rfl
        case o2b => exact World.ownsRow.alloc HO6.out _
        case m2b => rfl
        case x2b => rfl
        case c2b => exact news8 w6 zCL
        case l2b => (simp; omega)
        case r2b => (simp; omega)
        intro v7 w7 own7 grow7
        have HB7 := Lib.hid ((HB6.out.alloc HB6.out.size _).grown grow7 (by have := HB6.out.size; simp; omega) (fun j e => by have := OwnC.lt' HO6.out j e; omega))
        obtain ⟨M7, hM7⟩ : ∃ M, M = L.take k ++ [zCL] := ⟨_, rfl⟩
        rw [← hM7] at own7
        have HZ7 : Hid (polOk M7 = false ∧ M7.length ≤ 2000000) := Lib.hid (by rw [hM7]; exact ⟨polOk_z, by simp; omega⟩)
        clear hM7
        obtain ⟨a7, c7, rfl, _, t7⟩ := OwnC.tab own7
        have HT7 := Lib.hid t7
        clear own7 grow7 t7 HO6 HB6
        go_wp2_with fail
        refine (ipolok_is M7 HZ7.out.1 a7 c7 _ _ rfl HT7.out HZ7.out.2).mono ?_
        rintro en w8 ⟨rfl, b8⟩
        have HB8 := Lib.hid (next HB7.out b8)
        clear b8 HB7 HT7
        have hl5 : (L.length : Int) ≤ 5 := by have := ((polOk_iff L).1 HU.out).1; omega
        go_wp2_with fail
        go_ret
        exact ⟨rfl, HB8.out⟩
end Go.Proofs.Ythkaaamgkmmeeaa
