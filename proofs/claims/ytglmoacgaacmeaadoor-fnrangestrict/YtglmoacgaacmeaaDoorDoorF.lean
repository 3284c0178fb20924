/-
  The door seat: the model reads a number of at most three figures, and a range.
-/
import Derived.Test.YtglmoacgaacmeaaDoorDoorB
import Derived.Test.YtglmoacgaacmeaaDoorDoorM
import Derived.Test.YtglmoacgaacmeaaDoorBox
namespace Go.Proofs.YtglmoacgaacmeaaDoor
open Go.RowKit
set_option linter.unusedSimpArgs false

def isDig (d : UInt8) : Bool := decide (48 ≤ d.toNat ∧ d.toNat ≤ 57)
def num (l : List UInt8) : Int := if 1 ≤ l.length ∧ l.length ≤ 3 ∧ l.all isDig = true then (val l : Int) else -1

theorem val_snoc (l : List UInt8) (d : UInt8) : val (l ++ [d]) = 10 * val l + (d.toNat - 48) := by simp [val]
theorem at_byte (s : ByteArray) (k : Nat) (h : k < s.size) : s.data.toList[k]? = some (s[k]'h) := by
  rw [List.getElem?_eq_getElem (by simpa using h)]; rfl
theorem take_next (s : ByteArray) (k : Nat) (h : k < s.size) : s.data.toList.take (k + 1) = s.data.toList.take k ++ [s[k]'h] := by
  rw [List.take_add_one, at_byte s k h]; rfl
theorem num_bad (s : ByteArray) (k : Nat) (h : k < s.size) (hb : isDig (s[k]'h) = false) : num s.data.toList = -1 := by
  rw [num, if_neg]
  rintro ⟨_, _, h3⟩
  have := List.all_eq_true.1 h3 _ (List.mem_of_getElem? (at_byte s k h))
  rw [hb] at this; cases this

set_option maxRecDepth 4000 in
set_option maxHeartbeats 1000000 in
theorem l1num (s : ByteArray) (w : World) (hz : s.size ≤ 1048576) :
    Calls Tryd.prog 24 #[.string s] w fun e w' => e = .returned (.int .i64 (num s.data.toList)) ∧ w = w' := by
  by_cases hl : 1 ≤ s.size ∧ s.size ≤ 3
  · have hi := inR_yes (n := (s.size : Int)) (lo := 1) (hi := 3) (by omega) (by omega)
    go_enter Tryd.func24, Tryd.ntmps24
    go_wp2_with fail
    refine (in_is hi _).mono ?_
    rintro e w1 ⟨rfl, rfl⟩
    clear hi
    have hlen : s.data.toList.length = s.size := by simp
    go_wp2_with fail
    go_loop [3, 4] (fun v i => ∃ k : Nat, k ≤ s.size ∧ i = .int .i64 k ∧ v = .int .i64 (val (s.data.toList.take k) : Int) ∧ (s.data.toList.take k).all isDig = true ∧ val (s.data.toList.take k) < 10 ^ k) (fun _ i => s.size - (intOf i).toNat)
    case atStart => exact ⟨0, Nat.zero_le _, rfl, rfl, rfl, by simp [val]⟩
    case round =>
      obtain ⟨k, hk, rfl, rfl, hall, hv⟩ := hrel
      by_cases hlt : k < s.size
      · have hp : 10 ^ k ≤ 10 ^ 2 := Nat.pow_le_pow_right (by decide) (by omega)
        have HV := Lib.hid (And.intro hall hv)
        have hv' : val (s.data.toList.take k) ≤ 100 := by omega
        clear hall hv hp
        have TN := Lib.hid (take_next s k hlt)
        generalize hx : val (s.data.toList.take k) = x at *
        have HX := Lib.hid hx
        clear hx
        by_cases h1 : (s[k]'hlt).toNat < 48
        · have HB := Lib.hid (num_bad s k hlt (by simp [isDig]; omega))
          go_wp2
          go_ret
          exact ⟨ret_int HB.out.symm, rfl⟩
        by_cases h2 : 57 < (s[k]'hlt).toNat
        · have HB := Lib.hid (num_bad s k hlt (by simp [isDig]; omega))
          go_wp2
          go_ret
          exact ⟨ret_int HB.out.symm, rfl⟩
        have hdig : isDig (s[k]'hlt) = true := by simp [isDig]; omega
        go_wp2
        go_round
        case rel =>
          refine ⟨k + 1, by omega, by go_num, ?_, ?_, ?_⟩
          · rw [TN.out, val_snoc, HX.out]
            congr 1
            omega
          · rw [TN.out, List.all_append, HV.out.1]
            simp [hdig]
          · rw [TN.out, val_snoc, HX.out, Nat.pow_succ]
            have := HV.out.2
            omega
        case measure => simp [intOf]; omega
      · go_wp2
        go_ret
        have : k = s.size := by omega
        subst this
        rw [← hlen, List.take_length] at hall ⊢
        exact ⟨ret_int (by rw [num, if_pos ⟨by omega, by omega, hall⟩]), rfl⟩
  · have hi := inR_no (n := (s.size : Int)) (lo := 1) (hi := 3) (by omega)
    go_enter Tryd.func24, Tryd.ntmps24
    go_wp2_with fail
    refine (in_is hi _).mono ?_
    rintro e w1 ⟨rfl, rfl⟩
    go_wp2
    go_ret
    refine ⟨ret_int ?_, rfl⟩
    rw [num, if_neg]
    rintro ⟨h1, h2, _⟩
    exact hl ⟨by simpa using h1, by simpa using h2⟩
/-- no range is read of this text -/
def Bad (s : ByteArray) : Prop := 5 < s.size ∨ (47 : UInt8) ∉ s.data.toList ∨ ∃ p q, s.data.toList = p ++ 47 :: q ∧ (47 : UInt8) ∉ p ∧ rtext (num p) (num q) ≠ s
def Rd3 (s : ByteArray) (w : World) (e : Ending) (w' : World) : Prop := ∃ f b, ∃ u : Bool, e = .returned (.tuple #[.agg #[.int .i64 f, .int .i64 b], .bool u]) ∧ Below w.heap.size w w' ∧ ((u = false ∧ f = 0 ∧ b = 0 ∧ Bad s) ∨ (u = true ∧ okB f b = true ∧ s = txt f b))

theorem fin_read (s : ByteArray) (n1 n2 : Int) (p q : List UInt8) (hs : s.data.toList = p ++ 47 :: q) (hp : (47 : UInt8) ∉ p) (h1 : num p = n1) (h2 : num q = n2) :
    (rtext n1 n2 = s ∧ okB n1 n2 = true ∧ s = txt n1 n2) ∨ (((rtext n1 n2).toList == s.toList) = false ∧ Bad s) := by
  subst h1 h2
  by_cases hE : rtext (num p) (num q) = s
  · refine .inl ⟨hE, ?_⟩
    by_cases ho : okB (num p) (num q) = true
    · rw [rtext, if_pos ho] at hE
      exact ⟨ho, hE.symm⟩
    · rw [rtext, if_neg ho] at hE
      subst hE
      simp at hs
  · refine .inr ⟨?_, .inr (.inr ⟨p, q, hs, hp, hE⟩)⟩
    rw [beq_eq_false_iff_ne]
    intro k
    exact hE (ByteArray.ext (by simpa [ByteArray.toList_eq] using k))

set_option maxRecDepth 4000 in
set_option maxHeartbeats 1000000 in
theorem sread (s : ByteArray) (w : World) : Calls Tryd.prog 11 #[.string s] w (Rd3 s w) := by
  have r0 := At.new w 0 0 25
  have B1 : Below w.heap.size w (w.alloc (.cells #[.int .i64 0, .int .i64 0] 25)) := (Below.refl _ _).alloc (Nat.le_refl _) _
  by_cases hl : 5 < s.size
  · go_enter Tryd.func11, Tryd.ntmps11
    go_wp2
    obtain ⟨d0, d1, _, _⟩ := r0
    exact bodyPost_ret (v := .tuple #[.agg #[.int .i64 0, .int .i64 0], .bool false]) (by simp [results, Tryd.results11, go_sem, d0, d1]) rfl ⟨0, 0, false, rfl, B1, .inl ⟨rfl, rfl, rfl, .inl hl⟩⟩
  have hlen : s.data.toList.length = s.size := by simp
  go_enter Tryd.func11, Tryd.ntmps11
  go_wp2_with fail
  generalize (w.alloc (.cells #[.int .i64 0, .int .i64 0] 25)) = W at *
  obtain ⟨a0, a1, g0, g1⟩ := id r0
  go_loop [4] (fun i => ∃ k : Nat, k ≤ s.size ∧ i = .int .i64 k ∧ (47 : UInt8) ∉ s.data.toList.take k) (fun i => s.size - (intOf i).toNat)
  case atStart => exact ⟨0, Nat.zero_le _, rfl, by simp⟩
  case round =>
    obtain ⟨k, hk, rfl, hfree⟩ := hrel
    have HF := Lib.hid hfree
    clear hfree
    by_cases hlt : k < s.size
    · have TN := Lib.hid (take_next s k hlt)
      by_cases h1 : (s[k]'hlt).toNat = 47
      · have h47 : s[k]'hlt = 47 := UInt8.toNat_inj.1 h1
        have hsp : s.data.toList = s.data.toList.take k ++ 47 :: s.data.toList.drop (k + 1) := by
          have := (List.take_append_drop (k + 1) s.data.toList).symm
          rw [TN.out, h47, List.append_assoc] at this
          exact this
        have HS := Lib.hid hsp
        clear hsp
        have hz1 : (s.extract 0 k).size ≤ 1048576 := by simp; omega
        have hz2 : ∀ m n, (s.extract m n).size ≤ 1048576 := by intro m n; simp; omega
        have hq : List.take (s.size - (k + 1)) (List.drop (k + 1) s.data.toList) = List.drop (k + 1) s.data.toList := List.take_of_length_le (by rw [List.length_drop, hlen]; exact Nat.le_refl _)
        have HQ := Lib.hid hq
        clear hq
        go_wp2_with fail
        refine wp_region_held_drew (S := fun w' => At w' w.heap.size 0 0 ∧ Below w.heap.size w w') (by kernel_rfl) ?_ (fun hHeld => ?_)
        · exact ⟨r0, B1.drew⟩
        refine takeH (i := 0) (v := ?_) rfl rfl (by kernel_rfl) (by kernel_rfl) (by kernel_rfl) (fun _ _ _ h => h) (by rfl) ?_ (by assumption) ?_
        rotate_left 1
        · intro w hSw
          (try dsimp only at hSw)
          go_simp
          try with_reducible rfl
        try simp only [List.setIfInBounds_toArray, List.set_cons_zero, List.set_cons_succ]
        refine takeH (i := 1) (v := ?_) rfl rfl (by kernel_rfl) (by kernel_rfl) (by kernel_rfl) (fun _ _ _ h => h) (by rfl) ?_ (by assumption) ?_
        rotate_left 1
        · intro w hSw
          (try dsimp only at hSw)
          go_simp
          try with_reducible rfl
        try simp only [List.setIfInBounds_toArray, List.set_cons_zero, List.set_cons_succ]
        refine takeH (i := 2) (v := ?_) rfl rfl (by kernel_rfl) (by kernel_rfl) (by kernel_rfl) (fun _ _ _ h => h) (by rfl) ?_ (by assumption) ?_
        rotate_left 1
        · intro w hSw
          (try dsimp only at hSw)
          go_simp
          try with_reducible rfl
        try simp only [List.setIfInBounds_toArray, List.set_cons_zero, List.set_cons_succ]
        refine takeH (i := 4) (v := ?_) rfl rfl (by kernel_rfl) (by kernel_rfl) (by kernel_rfl) (fun _ _ _ h => h) (by rfl) ?_ (by assumption) ?_
        rotate_left 1
        · intro w hSw
          (try dsimp only at hSw)
          go_simp
          try with_reducible rfl
        try simp only [List.setIfInBounds_toArray, List.set_cons_zero, List.set_cons_succ]
        refine takeH (i := 5) (v := ?_) rfl rfl (by kernel_rfl) (by kernel_rfl) (by kernel_rfl) (fun _ _ _ h => h) (by rfl) ?_ (by assumption) ?_
        rotate_left 1
        · intro w hSw
          (try dsimp only at hSw)
          go_simp
          try with_reducible rfl
        try simp only [List.setIfInBounds_toArray, List.set_cons_zero, List.set_cons_succ]
        refine takeH (i := 6) (v := ?_) rfl rfl (by kernel_rfl) (by kernel_rfl) (by kernel_rfl) (fun _ _ _ h => h) (by rfl) ?_ (by assumption) ?_
        rotate_left 1
        · intro w hSw
          (try dsimp only at hSw)
          go_simp
          try with_reducible rfl
        try simp only [List.setIfInBounds_toArray, List.set_cons_zero, List.set_cons_succ]
        refine takeH (i := 7) (v := ?_) rfl rfl (by kernel_rfl) (by kernel_rfl) (by kernel_rfl) (fun _ _ _ h => h) (by rfl) ?_ (by assumption) ?_
        rotate_left 1
        · intro w hSw
          (try dsimp only at hSw)
          go_simp
          rw [IntWalk.i64_in _ (by omega), if_pos (by omega)]
          try with_reducible rfl
        try simp only [List.setIfInBounds_toArray, List.set_cons_zero, List.set_cons_succ]
        refine wpAnyH_ready (rs := [3, 10]) (by kernel_rfl) (by simp) ?_
        refine AllReadyH.cons rfl (fun K hK => ?_) (AllReadyH.cons rfl (fun K hK => ?_) (AllReadyH.nil))
        · go_simp
          refine (l1num _ _ hz1).mono ?_
          rintro e w1 ⟨rfl, rfl⟩
          go_wp2_with fail
          refine hK.out _ _ ?_ (fun hNew => ?_)
          · exact hHeld
          clear hK K hHeld
          have hHeld := hNew
          clear hNew
          try simp only [Act.put, List.setIfInBounds_toArray, List.set_cons_zero, List.set_cons_succ]
          refine wpAnyH_ready (rs := [8, 10]) (by kernel_rfl) (by simp) ?_
          refine AllReadyH.cons rfl (fun K hK => ?_) (AllReadyH.cons rfl (fun K hK => ?_) (AllReadyH.nil))
          · go_simp
            refine (l1num _ _ (hz2 _ _)).mono ?_
            rintro e w2 ⟨rfl, rfl⟩
            go_wp2_with fail
            refine hK.out _ _ ?_ (fun hNew => ?_)
            · exact hHeld
            clear hK K hHeld
            have hHeld := hNew
            clear hNew
            try simp only [Act.put, List.setIfInBounds_toArray, List.set_cons_zero, List.set_cons_succ]
            refine takeH (i := 9) (v := ?_) rfl rfl (by kernel_rfl) (by kernel_rfl) (by kernel_rfl) (fun _ _ _ h => h) (by rfl) ?_ (by assumption) ?_
            rotate_left 1
            · intro w hSw
              (try dsimp only at hSw)
              go_simp
              try with_reducible rfl
            try simp only [List.setIfInBounds_toArray, List.set_cons_zero, List.set_cons_succ]
            refine wpAnyH_ready (rs := [10]) (by kernel_rfl) (by simp) ?_
            refine AllReadyH.cons rfl (fun K hK => ?_) (AllReadyH.nil)
            go_simp
            refine hK.out _ _ ?_ (fun hNew => ?_)
            · exact ⟨hHeld.1.alloc _, hHeld.2.alloc hHeld.2.size _⟩
            clear hK K hHeld
            have hHeld := hNew
            clear hNew
            try simp only [Act.put, List.setIfInBounds_toArray, List.set_cons_zero, List.set_cons_succ]
            refine wpAnyH_ready (rs := [11]) (by kernel_rfl) (by simp) ?_
            refine AllReadyH.cons rfl (fun K hK => ?_) (AllReadyH.nil)
            go_simp
            refine hK.out _ _ ?_ (fun hNew => ?_)
            · exact ⟨r0.alloc _, (B1.alloc B1.size _).drew⟩
            clear hK K hHeld
            have hHeld := hNew
            clear hNew
            try simp only [Act.put, List.setIfInBounds_toArray, List.set_cons_zero, List.set_cons_succ]
            refine wpAnyH_done (by kernel_rfl) ?_ _
            try simp only [HQ.out]
            try simp only [HQ.out] at hHeld
            generalize hn1 : num (List.take k s.data.toList) = n1 at *
            generalize hn2 : num (List.drop (k + 1) s.data.toList) = n2 at *
            have r2 : At (W.alloc (.cells #[.int .i64 n1, .int .i64 n2] 25)).drew W.heap.size n1 n2 := At.new W n1 n2 25
            have rr := hHeld.1
            have BB := hHeld.2
            clear hHeld
            generalize (W.alloc (.cells #[.int .i64 n1, .int .i64 n2] 25)).drew = X at *
            obtain ⟨x0, x1, _, _⟩ := id r2
            go_wp2_with fail
            refine (stext_any n1 n2 _).mono ?_
            rintro e w4 ⟨rfl, hb⟩
            replace r2 := r2.below hb
            replace rr := rr.below hb
            replace BB := next BB hb
            clear hb x0 x1
            obtain ⟨x0, x1, _, _⟩ := id r2
            obtain ⟨y0, y1, yf, yg⟩ := id rr
            refine (fin_read s n1 n2 (List.take k s.data.toList) (List.drop (k + 1) s.data.toList) HS.out HF.out hn1 hn2).elim (fun hE => ?_) (fun hE => ?_)
            · have hE4 : ((rtext n1 n2).toList == s.toList) = true := by rw [hE.1]; simp
              have HE := Lib.hid hE
              clear hE
              go_wp2
              have r1 := rr.put n1 n2
              have B2 := below_set2 BB (.int .i64 n1) (.int .i64 n2) (Nat.le_refl _)
              obtain ⟨d0, d1, _, _⟩ := r1
              exact bodyPost_ret (v := .tuple #[.agg #[.int .i64 n1, .int .i64 n2], .bool true]) (by simp [results, Tryd.results11, go_sem, d0, d1]) rfl ⟨n1, n2, true, rfl, B2, .inr ⟨rfl, HE.out.2⟩⟩
            · obtain ⟨hE1, hE2⟩ := hE
              go_wp2
              have r1 := rr.put 0 0
              have B2 := below_set2 BB (.int .i64 0) (.int .i64 0) (Nat.le_refl _)
              obtain ⟨d0, d1, _, _⟩ := r1
              exact bodyPost_ret (v := .tuple #[.agg #[.int .i64 0, .int .i64 0], .bool false]) (by simp [results, Tryd.results11, go_sem, d0, d1]) rfl ⟨0, 0, false, rfl, B2, .inl ⟨rfl, rfl, rfl, hE2⟩⟩
          · go_simp
            refine hK.out _ _ ?_ (fun hNew => ?_)
            · exact ⟨hHeld.1.alloc _, hHeld.2.alloc hHeld.2.size _⟩
            clear hK K hHeld
            have hHeld := hNew
            clear hNew
            try simp only [Act.put, List.setIfInBounds_toArray, List.set_cons_zero, List.set_cons_succ]
            refine wpAnyH_ready (rs := [8]) (by kernel_rfl) (by simp) ?_
            refine AllReadyH.cons rfl (fun K hK => ?_) (AllReadyH.nil)
            go_simp
            refine (l1num _ _ (hz2 _ _)).mono ?_
            rintro e w2 ⟨rfl, rfl⟩
            go_wp2_with fail
            refine hK.out _ _ ?_ (fun hNew => ?_)
            · exact hHeld
            clear hK K hHeld
            have hHeld := hNew
            clear hNew
            try simp only [Act.put, List.setIfInBounds_toArray, List.set_cons_zero, List.set_cons_succ]
            refine takeH (i := 9) (v := ?_) rfl rfl (by kernel_rfl) (by kernel_rfl) (by kernel_rfl) (fun _ _ _ h => h) (by rfl) ?_ (by assumption) ?_
            rotate_left 1
            · intro w hSw
              (try dsimp only at hSw)
              go_simp
              try with_reducible rfl
            try simp only [List.setIfInBounds_toArray, List.set_cons_zero, List.set_cons_succ]
            refine wpAnyH_ready (rs := [11]) (by kernel_rfl) (by simp) ?_
            refine AllReadyH.cons rfl (fun K hK => ?_) (AllReadyH.nil)
            go_simp
            refine hK.out _ _ ?_ (fun hNew => ?_)
            · exact ⟨r0.alloc _, (B1.alloc B1.size _).drew⟩
            clear hK K hHeld
            have hHeld := hNew
            clear hNew
            try simp only [Act.put, List.setIfInBounds_toArray, List.set_cons_zero, List.set_cons_succ]
            refine wpAnyH_done (by kernel_rfl) ?_ _
            try simp only [HQ.out]
            try simp only [HQ.out] at hHeld
            generalize hn1 : num (List.take k s.data.toList) = n1 at *
            generalize hn2 : num (List.drop (k + 1) s.data.toList) = n2 at *
            have r2 : At (W.alloc (.cells #[.int .i64 n1, .int .i64 n2] 25)).drew W.heap.size n1 n2 := At.new W n1 n2 25
            have rr := hHeld.1
            have BB := hHeld.2
            clear hHeld
            generalize (W.alloc (.cells #[.int .i64 n1, .int .i64 n2] 25)).drew = X at *
            obtain ⟨x0, x1, _, _⟩ := id r2
            go_wp2_with fail
            refine (stext_any n1 n2 _).mono ?_
            rintro e w4 ⟨rfl, hb⟩
            replace r2 := r2.below hb
            replace rr := rr.below hb
            replace BB := next BB hb
            clear hb x0 x1
            obtain ⟨x0, x1, _, _⟩ := id r2
            obtain ⟨y0, y1, yf, yg⟩ := id rr
            refine (fin_read s n1 n2 (List.take k s.data.toList) (List.drop (k + 1) s.data.toList) HS.out HF.out hn1 hn2).elim (fun hE => ?_) (fun hE => ?_)
            · have hE4 : ((rtext n1 n2).toList == s.toList) = true := by rw [hE.1]; simp
              have HE := Lib.hid hE
              clear hE
              go_wp2
              have r1 := rr.put n1 n2
              have B2 := below_set2 BB (.int .i64 n1) (.int .i64 n2) (Nat.le_refl _)
              obtain ⟨d0, d1, _, _⟩ := r1
              exact bodyPost_ret (v := .tuple #[.agg #[.int .i64 n1, .int .i64 n2], .bool true]) (by simp [results, Tryd.results11, go_sem, d0, d1]) rfl ⟨n1, n2, true, rfl, B2, .inr ⟨rfl, HE.out.2⟩⟩
            · obtain ⟨hE1, hE2⟩ := hE
              go_wp2
              have r1 := rr.put 0 0
              have B2 := below_set2 BB (.int .i64 0) (.int .i64 0) (Nat.le_refl _)
              obtain ⟨d0, d1, _, _⟩ := r1
              exact bodyPost_ret (v := .tuple #[.agg #[.int .i64 0, .int .i64 0], .bool false]) (by simp [results, Tryd.results11, go_sem, d0, d1]) rfl ⟨0, 0, false, rfl, B2, .inl ⟨rfl, rfl, rfl, hE2⟩⟩
        · go_simp
          refine hK.out _ _ ?_ (fun hNew => ?_)
          · exact ⟨hHeld.1.alloc _, hHeld.2.alloc hHeld.2.size _⟩
          clear hK K hHeld
          have hHeld := hNew
          clear hNew
          try simp only [Act.put, List.setIfInBounds_toArray, List.set_cons_zero, List.set_cons_succ]
          refine wpAnyH_ready (rs := [3]) (by kernel_rfl) (by simp) ?_
          refine AllReadyH.cons rfl (fun K hK => ?_) (AllReadyH.nil)
          go_simp
          refine (l1num _ _ hz1).mono ?_
          rintro e w1 ⟨rfl, rfl⟩
          go_wp2_with fail
          refine hK.out _ _ ?_ (fun hNew => ?_)
          · exact hHeld
          clear hK K hHeld
          have hHeld := hNew
          clear hNew
          try simp only [Act.put, List.setIfInBounds_toArray, List.set_cons_zero, List.set_cons_succ]
          refine wpAnyH_ready (rs := [8]) (by kernel_rfl) (by simp) ?_
          refine AllReadyH.cons rfl (fun K hK => ?_) (AllReadyH.nil)
          go_simp
          refine (l1num _ _ (hz2 _ _)).mono ?_
          rintro e w2 ⟨rfl, rfl⟩
          go_wp2_with fail
          refine hK.out _ _ ?_ (fun hNew => ?_)
          · exact hHeld
          clear hK K hHeld
          have hHeld := hNew
          clear hNew
          try simp only [Act.put, List.setIfInBounds_toArray, List.set_cons_zero, List.set_cons_succ]
          refine takeH (i := 9) (v := ?_) rfl rfl (by kernel_rfl) (by kernel_rfl) (by kernel_rfl) (fun _ _ _ h => h) (by rfl) ?_ (by assumption) ?_
          rotate_left 1
          · intro w hSw
            (try dsimp only at hSw)
            go_simp
            try with_reducible rfl
          try simp only [List.setIfInBounds_toArray, List.set_cons_zero, List.set_cons_succ]
          refine wpAnyH_ready (rs := [11]) (by kernel_rfl) (by simp) ?_
          refine AllReadyH.cons rfl (fun K hK => ?_) (AllReadyH.nil)
          go_simp
          refine hK.out _ _ ?_ (fun hNew => ?_)
          · exact ⟨r0.alloc _, (B1.alloc B1.size _).drew⟩
          clear hK K hHeld
          have hHeld := hNew
          clear hNew
          try simp only [Act.put, List.setIfInBounds_toArray, List.set_cons_zero, List.set_cons_succ]
          refine wpAnyH_done (by kernel_rfl) ?_ _
          try simp only [HQ.out]
          try simp only [HQ.out] at hHeld
          generalize hn1 : num (List.take k s.data.toList) = n1 at *
          generalize hn2 : num (List.drop (k + 1) s.data.toList) = n2 at *
          have r2 : At (W.alloc (.cells #[.int .i64 n1, .int .i64 n2] 25)).drew W.heap.size n1 n2 := At.new W n1 n2 25
          have rr := hHeld.1
          have BB := hHeld.2
          clear hHeld
          generalize (W.alloc (.cells #[.int .i64 n1, .int .i64 n2] 25)).drew = X at *
          obtain ⟨x0, x1, _, _⟩ := id r2
          go_wp2_with fail
          refine (stext_any n1 n2 _).mono ?_
          rintro e w4 ⟨rfl, hb⟩
          replace r2 := r2.below hb
          replace rr := rr.below hb
          replace BB := next BB hb
          clear hb x0 x1
          obtain ⟨x0, x1, _, _⟩ := id r2
          obtain ⟨y0, y1, yf, yg⟩ := id rr
          refine (fin_read s n1 n2 (List.take k s.data.toList) (List.drop (k + 1) s.data.toList) HS.out HF.out hn1 hn2).elim (fun hE => ?_) (fun hE => ?_)
          · have hE4 : ((rtext n1 n2).toList == s.toList) = true := by rw [hE.1]; simp
            have HE := Lib.hid hE
            clear hE
            go_wp2
            have r1 := rr.put n1 n2
            have B2 := below_set2 BB (.int .i64 n1) (.int .i64 n2) (Nat.le_refl _)
            obtain ⟨d0, d1, _, _⟩ := r1
            exact bodyPost_ret (v := .tuple #[.agg #[.int .i64 n1, .int .i64 n2], .bool true]) (by simp [results, Tryd.results11, go_sem, d0, d1]) rfl ⟨n1, n2, true, rfl, B2, .inr ⟨rfl, HE.out.2⟩⟩
          · obtain ⟨hE1, hE2⟩ := hE
            go_wp2
            have r1 := rr.put 0 0
            have B2 := below_set2 BB (.int .i64 0) (.int .i64 0) (Nat.le_refl _)
            obtain ⟨d0, d1, _, _⟩ := r1
            exact bodyPost_ret (v := .tuple #[.agg #[.int .i64 0, .int .i64 0], .bool false]) (by simp [results, Tryd.results11, go_sem, d0, d1]) rfl ⟨0, 0, false, rfl, B2, .inl ⟨rfl, rfl, rfl, hE2⟩⟩
      · go_wp2
        go_round
        case rel =>
          refine ⟨k + 1, by omega, by go_num, ?_⟩
          rw [TN.out]
          intro hm
          rcases List.mem_append.1 hm with h | h
          · exact HF.out h
          · simp at h; exact h1 (by rw [← h]; rfl)
        case measure => simp [intOf]; omega
    · have hke : k = s.size := by omega
      subst hke
      go_wp2
      have r1 := r0.put 0 0
      have B2 := below_set2 B1 (.int .i64 0) (.int .i64 0) (Nat.le_refl _)
      obtain ⟨d0, d1, _, _⟩ := r1
      refine bodyPost_ret (v := .tuple #[.agg #[.int .i64 0, .int .i64 0], .bool false]) (by simp [results, Tryd.results11, go_sem, d0, d1]) rfl ⟨0, 0, false, rfl, B2, .inl ⟨rfl, rfl, rfl, .inr (.inl ?_)⟩⟩
      have := HF.out
      rwa [← hlen, List.take_length] at this
end Go.Proofs.YtglmoacgaacmeaaDoor
