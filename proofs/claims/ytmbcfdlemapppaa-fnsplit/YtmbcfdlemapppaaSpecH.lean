/-
  What the model's TablePut, TableDrop, TableLess answer.
-/
import Derived.Test.YtmbcfdlemapppaaSpecG
namespace Go.Proofs.Ytmbcfdlemapppaa
open Go.RowKit
set_option linter.unusedSimpArgs false

set_option maxHeartbeats 1000000 in
theorem sput_no1 (a : Option Addr) (cap : Nat) (T : List E) (f b v : Int) (w : World) (hT : TabA w a T) (hl : T.length ≤ 2000000) (ho : tabOk T = false) :
    Calls Try.prog 26 #[.slice a T.length cap, .agg #[.int .i64 f, .int .i64 b, .int .i64 v]] w (OwnB w [] false) := by
  have HT := Lib.hid (hT.alloc (.cells #[.int .i64 f, .int .i64 b, .int .i64 v] 37))
  clear hT
  go_enter Try.func26, Try.ntmps26
  go_wp2_with fail
  refine (stok_is ho _ HT.out hl).mono ?_
  rintro e w1 ⟨rfl, hb1⟩
  have HB1 := Lib.hid (below_box hb1 (by simp))
  clear hb1
  have HO := Lib.hid (owns_empty w1 w.heap.size HB1.out.size)
  go_wp2_with fail
  go_ret2
  exact ⟨_, rfl, HO.out, HB1.out.alloc HB1.out.size _⟩

set_option maxHeartbeats 1000000 in
theorem sput_no2 (a : Option Addr) (cap : Nat) (T : List E) (f b v : Int) (w : World) (hT : TabA w a T) (hl : T.length ≤ 2000000) (ho : tabOk T = true) (he : entOk (f, b, v) = false) :
    Calls Try.prog 26 #[.slice a T.length cap, .agg #[.int .i64 f, .int .i64 b, .int .i64 v]] w (OwnB w [] false) := by
  have HT := Lib.hid (hT.alloc (.cells #[.int .i64 f, .int .i64 b, .int .i64 v] 37))
  have HA := Lib.hid (At3.new w f b v 37)
  clear hT
  go_enter Try.func26, Try.ntmps26
  go_wp2_with fail
  refine (stok_is ho _ HT.out hl).mono ?_
  rintro e w1 ⟨rfl, hb1⟩
  obtain ⟨c0, c1, c2⟩ := HA.out.below hb1
  have HB1 := Lib.hid (below_box hb1 (by simp))
  clear hb1
  go_wp2_with fail
  refine (sent_is he _).mono ?_
  rintro e w2 ⟨rfl, hb2⟩
  have HB2 := Lib.hid (next HB1.out hb2)
  have HO := Lib.hid (owns_empty w2 w.heap.size HB2.out.size)
  clear hb2 c0 c1 c2
  go_wp2_with fail
  go_ret2
  exact ⟨_, rfl, HO.out, HB2.out.alloc HB2.out.size _⟩

set_option maxHeartbeats 2000000 in
theorem sput_yes (a : Option Addr) (cap : Nat) (T : List E) (f b v : Int) (w : World) (hT : TabA w a T) (ho : tabOk T = true) (he : entOk (f, b, v) = true) (L : List E) (ok : Bool)
    (h1 : (putM T (f, b, v)).length ≤ 12 → L = putM T (f, b, v) ∧ ok = true) (h2 : ¬ (putM T (f, b, v)).length ≤ 12 → L = T ∧ ok = false) :
    Calls Try.prog 26 #[.slice a T.length cap, .agg #[.int .i64 f, .int .i64 b, .int .i64 v]] w (OwnB w L ok) := by
  have HL := Lib.hid (And.intro h1 h2)
  clear h1 h2
  obtain ⟨hg, h12⟩ := tab_good ho
  have hpl := put_len hg (f, b, v)
  have HT := Lib.hid (hT.alloc (.cells #[.int .i64 f, .int .i64 b, .int .i64 v] 37))
  have HA := Lib.hid (At3.new w f b v 37)
  obtain ⟨i0, hi, hz0, hz1, hz2⟩ := info_parts infoE
  clear hT hg
  go_enter Try.func26, Try.ntmps26
  go_wp2_with fail
  refine (stok_is ho _ HT.out (by omega)).mono ?_
  rintro e w1 ⟨rfl, hb1⟩
  have HA1' := Lib.hid (HA.out.below hb1)
  obtain ⟨c0, c1, c2⟩ := HA.out.below hb1
  have HT1 := Lib.hid (HT.out.below hb1)
  have HB1 := Lib.hid (below_box hb1 (by simp))
  clear hb1
  go_wp2_with fail
  refine (sent_is he _).mono ?_
  rintro e w2 ⟨rfl, hb2⟩
  clear c0 c1 c2
  obtain ⟨c0, c1, c2⟩ := HA1'.out.below hb2
  have HT2 := Lib.hid (HT1.out.below hb2)
  have HB2 := Lib.hid (next HB1.out hb2)
  clear hb2 HA1' HT1 HB1
  go_wp2_with fail
  refine (lput_any a cap T f b v _ HT2.out h12).mono ?_
  rintro e w3 ⟨x, rfl, ho3, hb3⟩
  clear c0 c1 c2
  obtain ⟨ax, capx, rfl, tx⟩ := Owns.tab ho3
  have HO3 := Lib.hid (owns_mono ho3 HB2.out.size)
  have HB3 := Lib.hid (next HB2.out hb3)
  have HT3 := Lib.hid (HT2.out.below hb3)
  clear ho3 hb3 HB2 HT2 tx
  generalize hU : putM T (f, b, v) = U at *
  clear hU
  by_cases hlen : U.length ≤ 12
  · go_wp2_with fail
    go_ret2
    obtain ⟨e1, e2⟩ := HL.out.1 hlen
    exact ⟨_, by rw [e2]; rfl, by rw [e1]; exact HO3.out, HB3.out⟩
  · obtain ⟨b', off', g, d, u, rfl, _, _, _, _⟩ := HT3.out.at (show 0 < T.length by omega)
    have HE := Lib.hid (owns_empty w3 w.heap.size HB3.out.size)
    have hs3 := HB3.out.size
    have HT4 := Lib.hid (HT3.out.alloc (.cells #[] 37))
    go_wp2_with (first | (at_builtin; refine wpList_append_own _ rfl (.tmp 22) (.tmp 23) 25 rfl w.heap.size 37 i0 (.agg #[.int .i64 0, .int .i64 0, .int .i64 0]) 3 24 Try.underlying25 hi hz0 hz1 hz2 rfl (by decide) _ 0 [] rfl HE.out ⟨b', off', none⟩ T.length cap (cellsT T) rfl (cellsT_len T) HT4.out.cells (oneT _) (by unfold maxLen; omega) (by omega) (by simp only [World.size_alloc]; omega) ?_; intro v5 w5 own5 grow5 _; have HO5 := Lib.hid own5; have HB5 := Lib.hid ((HB3.out.alloc (by omega) _).trans (app_below (L := []) HE.out grow5 (by simp only [World.size_alloc]; omega))); clear own5 grow5))
    go_ret2
    obtain ⟨e1, e2⟩ := HL.out.2 hlen
    exact ⟨_, by rw [e2]; rfl, by rw [e1]; have := HO5.out; simpa [Owns] using this, HB5.out⟩

theorem sput_any (a : Option Addr) (cap : Nat) (T : List E) (f b v : Int) (w : World) (hT : TabA w a T) (hl : T.length ≤ 2000000) :
    Calls Try.prog 26 #[.slice a T.length cap, .agg #[.int .i64 f, .int .i64 b, .int .i64 v]] w (OwnB w (tputM T (f, b, v)).1 (tputM T (f, b, v)).2) := by
  by_cases ho : tabOk T = true
  · by_cases he : entOk (f, b, v) = true
    · refine sput_yes a cap T f b v w hT ho he _ _ (fun h => ?_) (fun h => ?_)
      · simp [tputM, ho, he, h]
      · simp [tputM, ho, he, h]
    · have he' : entOk (f, b, v) = false := by simpa using he
      have e : tputM T (f, b, v) = ([], false) := by simp [tputM, he']
      rw [e]; exact sput_no2 a cap T f b v w hT hl ho he'
  · have ho' : tabOk T = false := by simpa using ho
    have e : tputM T (f, b, v) = ([], false) := by simp [tputM, ho']
    rw [e]; exact sput_no1 a cap T f b v w hT hl ho'

set_option maxHeartbeats 1000000 in
theorem sdrop_any (a : Option Addr) (cap : Nat) (T : List E) (f b : Int) (w : World) (hT : TabA w a T) (hl : T.length ≤ 2000000) :
    Calls Try.prog 31 #[.slice a T.length cap, .agg #[.int .i64 f, .int .i64 b]] w (OwnB w (tdropM T f b).1 (tdropM T f b).2) := by
  have HT := Lib.hid (hT.alloc (.cells #[.int .i64 f, .int .i64 b] 35))
  have HA := Lib.hid (At.new w f b 35)
  clear hT
  by_cases ho : tabOk T = true
  · obtain ⟨hg, h12⟩ := tab_good ho
    clear hg
    cases he : okB f b with
    | true =>
      have e : tdropM T f b = (dropM T f b, decide ((dropM T f b).length < T.length)) := by simp [tdropM, ho, he]
      rw [e]
      clear e
      generalize hz : decide ((dropM T f b).length < T.length) = z at *
      have HD := Lib.hid hz
      clear hz
      go_enter Try.func31, Try.ntmps31
      go_wp2_with fail
      refine (stok_is ho _ HT.out hl).mono ?_
      rintro e w1 ⟨rfl, hb1⟩
      have HA1 := Lib.hid (HA.out.below hb1)
      obtain ⟨c0, c1, _, _⟩ := HA.out.below hb1
      have HT1 := Lib.hid (HT.out.below hb1)
      have HB1 := Lib.hid (below_box hb1 (by simp))
      clear hb1
      go_wp2_with fail
      refine (sok_is he _).mono ?_
      rintro e w2 ⟨rfl, hb2⟩
      clear c0 c1
      obtain ⟨c0, c1, _, _⟩ := HA1.out.below hb2
      have HT2 := Lib.hid (HT1.out.below hb2)
      have HB2 := Lib.hid (next HB1.out hb2)
      clear hb2 HA1 HT1 HB1
      go_wp2_with fail
      refine (ldrop_any a cap T f b _ HT2.out (by omega)).mono ?_
      rintro e w3 ⟨x, rfl, ho3, hb3⟩
      clear c0 c1
      obtain ⟨ax, capx, rfl, tx⟩ := Owns.tab ho3
      have HO3 := Lib.hid (owns_mono ho3 HB2.out.size)
      have HB3 := Lib.hid (next HB2.out hb3)
      clear ho3 hb3 tx
      go_wp2_with fail
      go_ret2
      exact ⟨_, by rw [← HD.out]; rfl, HO3.out, HB3.out⟩
    | false =>
      have e : tdropM T f b = ([], false) := by simp [tdropM, he]
      rw [e]
      clear e
      go_enter Try.func31, Try.ntmps31
      go_wp2_with fail
      refine (stok_is ho _ HT.out hl).mono ?_
      rintro e w1 ⟨rfl, hb1⟩
      obtain ⟨c0, c1, _, _⟩ := HA.out.below hb1
      have HB1 := Lib.hid (below_box hb1 (by simp))
      clear hb1
      go_wp2_with fail
      refine (sok_is he _).mono ?_
      rintro e w2 ⟨rfl, hb2⟩
      have HB2 := Lib.hid (next HB1.out hb2)
      have HO := Lib.hid (owns_empty w2 w.heap.size HB2.out.size)
      clear hb2 c0 c1
      go_wp2_with fail
      go_ret2
      exact ⟨_, rfl, HO.out, HB2.out.alloc HB2.out.size _⟩
  · have ho' : tabOk T = false := by simpa using ho
    have e : tdropM T f b = ([], false) := by simp [tdropM, ho']
    rw [e]
    clear e ho
    go_enter Try.func31, Try.ntmps31
    go_wp2_with fail
    refine (stok_is ho' _ HT.out hl).mono ?_
    rintro e w1 ⟨rfl, hb1⟩
    have HB1 := Lib.hid (below_box hb1 (by simp))
    have HO := Lib.hid (owns_empty w1 w.heap.size HB1.out.size)
    clear hb1
    go_wp2_with fail
    go_ret2
    exact ⟨_, rfl, HO.out, HB1.out.alloc HB1.out.size _⟩

/-- what the rounds of the model's TableLess keep -/
def LessS (w : World) (T : List E) (k : Nat) (v : Value) (W : World) : Prop := Owns W w.heap.size v (outK T k) ∧ Below w.heap.size w W

theorem TabA.cellsA {w : World} {ad : Addr} {T : List E} (h : TabA w (some ad) T) (j : Nat) (u : Value) (hj : (cellsT T)[j]? = some u) : w.cell? (ad.add j) = some u := by
  rcases id h with rfl | ⟨b, off, e, _⟩
  · simp [cellsT] at hj
  · obtain rfl : ad = ⟨b, off, none⟩ := by simpa using e
    exact h.cells j u hj

set_option maxRecDepth 100000 in
set_option maxHeartbeats 4000000 in
theorem sless_yes (a : Option Addr) (cap : Nat) (T : List E) (w : World) (hT : TabA w a T) (hcap : a = none → cap = 0) (ho : tabOk T = true) :
    Calls Try.prog 38 #[.slice a T.length cap] w (Own1 w (lessM T)) := by
  obtain ⟨hg, h12⟩ := tab_good ho
  have HG := Lib.hid hg
  have HT := Lib.hid hT
  have HL := Lib.hid (outK_len T)
  obtain ⟨i0, hi, hz0, hz1, hz2⟩ := info_parts infoE
  clear hT hg
  cases a with
  | some ad =>
    clear hcap
    go_enter Try.func38, Try.ntmps38
    go_wp2_with fail
    refine (stok_is ho _ HT.out (by omega)).mono ?_
    rintro e w1 ⟨rfl, hb1⟩
    have HB1 := Lib.hid hb1
    have HE1 := Lib.hid (owns_empty w1 w.heap.size hb1.size)
    have HT2 := Lib.hid ((HT.out.below hb1).alloc (.cells #[] 37))
    have hs1 := hb1.size
    clear hb1
    go_wp2_with (first | (at_builtin; refine wpList_append_own _ rfl (.tmp 10) (.tmp 11) 25 rfl w.heap.size 37 i0 (.agg #[.int .i64 0, .int .i64 0, .int .i64 0]) 3 24 Try.underlying25 hi hz0 hz1 hz2 rfl (by decide) _ 0 [] rfl HE1.out ad T.length cap (cellsT T) rfl (cellsT_len T) HT2.out.cellsA (oneT _) (by unfold maxLen; omega) (by omega) (by simp only [World.size_alloc]; omega) ?_; intro v5 w5 own5 grow5 _; have HO5 : Hid (Owns w5 w.heap.size v5 (outK T 0)) := Lib.hid (by simpa [Owns, outK] using own5); have HB5 := Lib.hid ((HB1.out.alloc (by omega) _).trans (app_below (L := []) HE1.out grow5 (by simp only [World.size_alloc]; omega))); clear own5 grow5))
    go_loopw [3, 4] (fun v' i wr => ∃ k : Nat, k ≤ T.length ∧ i = .int .i64 k ∧ LessS w T k v' wr) (fun _ i _ => T.length - (intOf i).toNat)
    case atStart => exact ⟨0, Nat.zero_le _, rfl, HO5.out, HB5.out⟩
    case round =>
      obtain ⟨k, hk, rfl, ho2, hb2⟩ := hrel
      clear HO5 HB5
      have hlk := HL.out k
      have gk := outK_good HG.out k
      obtain ⟨ax, capx, rfl, tx⟩ := Owns.tab ho2
      have HO2 := Lib.hid ho2
      have HTX := Lib.hid tx
      have HB2 := Lib.hid hb2
      have HGK := Lib.hid (And.intro gk (good_drop gk))
      by_cases hlt : k < T.length
      · obtain ⟨b', off', f, c, u, e', hTk, c0, c1, c2⟩ := (HT.out.below hb2).at hlt
        obtain rfl : ad = ⟨b', off', none⟩ := by simpa using e'
        have HE := Lib.hid (outK_succ hTk)
        have hdl := drop_len (outK T k) f c
        clear ho2 tx hb2 gk hTk c2
        go_wp2_with fail
        refine (ldrop_any ax capx (outK T k) f c _ HTX.out (by omega)).mono ?_
        rintro e w3 ⟨x3, rfl, ho3, hb3⟩
        clear c0 c1
        obtain ⟨ay, capy, rfl, ty⟩ := Owns.tab ho3
        have HO3 := Lib.hid (owns_mono ho3 HB2.out.size)
        have HB3 := Lib.hid (next HB2.out hb3)
        have HTX3 := Lib.hid (HTX.out.below hb3)
        have HOX3 := Lib.hid (owns_later HO2.out hb3)
        have HTY3 := Lib.hid ty
        clear ho3 hb3 ty HB2 HTX HO2
        go_wp2_with fail
        refine (lsame_any ay ax capy capx (dropM (outK T k) f c) (outK T k) _ HTY3.out HTX3.out (by omega) (by omega) (fun _ h => (HGK.out.2 f c).ok h) (fun _ h => HGK.out.1.ok h)).mono ?_
        rintro e w4 ⟨rfl, hb4⟩
        have HO4 := Lib.hid (owns_later HO3.out hb4)
        have HOX4 := Lib.hid (owns_later HOX3.out hb4)
        have HB4 := Lib.hid (next HB3.out hb4)
        clear hb4 HO3 HOX3 HB3 HTX3 HTY3
        cases hs : sameM (dropM (outK T k) f c) (outK T k) with
        | true =>
          have HS := Lib.hid hs
          go_wp2_with fail
          go_roundw
          case rel => exact ⟨k + 1, by omega, by go_num, by rw [HE.out]; simp only [lessStep]; rw [if_pos HS.out]; exact HO4.out, HB4.out⟩
          case measure => simp [intOf]; omega
        | false =>
          have HS := Lib.hid hs
          go_wp2_with fail
          go_roundw
          case rel => exact ⟨k + 1, by omega, by go_num, by rw [HE.out]; simp only [lessStep]; rw [if_neg (by rw [HS.out]; simp)]; exact HOX4.out, HB4.out⟩
          case measure => simp [intOf]; omega
      · obtain rfl : k = T.length := by omega
        have HE := Lib.hid (outK_all T)
        clear ho2 tx hb2 gk
        go_wp2_with fail
        go_ret
        exact ⟨_, rfl, by rw [← HE.out]; exact HO2.out, HB2.out⟩
  | none =>
    obtain rfl := hcap rfl
    have hT0 : T = [] := by
      rcases HT.out with h | ⟨b, off, e, _⟩
      · exact h
      · cases e
    have hl0 : T.length = 0 := by rw [hT0]; rfl
    have HE0 := Lib.hid (show lessM T = [] by rw [hT0]; rfl)
    rw [hl0]
    clear hT0
    go_enter Try.func38, Try.ntmps38
    have HST := Lib.hid (fun w hT => stok_is (a := none) (cap := 0) ho w hT (by omega))
    rw [hl0] at HST
    go_wp2_with fail
    refine (HST.out _ HT.out).mono ?_
    rintro e w1 ⟨rfl, hb1⟩
    have HB1 := Lib.hid hb1
    have HE1 := Lib.hid (owns_empty w1 w.heap.size hb1.size)
    have hs1 := hb1.size
    clear hb1
    go_wp2_with (first | (at_builtin; refine wpList_append_own_none rfl (.tmp 10) (.tmp 11) 25 rfl w.heap.size 37 i0 3 Try.underlying25 hi _ 0 [] rfl HE1.out rfl ?_))
    refine wp_loop_rounds 1 ?_
    rw [rounds_succ]
    go_wp2_with fail
    go_ret
    exact ⟨_, rfl, by rw [HE0.out]; exact HE1.out, HB1.out.alloc HB1.out.size _⟩

theorem sless_no (a : Option Addr) (cap : Nat) (T : List E) (w : World) (hT : TabA w a T) (hl : T.length ≤ 2000000) (ho : tabOk T = false) :
    Calls Try.prog 38 #[.slice a T.length cap] w (Own1 w []) := by
  have HT := Lib.hid hT
  clear hT
  go_enter Try.func38, Try.ntmps38
  go_wp2_with fail
  refine (stok_is ho _ HT.out hl).mono ?_
  rintro e w1 ⟨rfl, hb1⟩
  have HB1 := Lib.hid hb1
  have HO := Lib.hid (owns_empty w1 w.heap.size hb1.size)
  clear hb1
  go_wp2_with fail
  go_ret
  exact ⟨_, rfl, HO.out, HB1.out.alloc HB1.out.size _⟩

theorem sless_any (a : Option Addr) (cap : Nat) (T : List E) (w : World) (hT : TabA w a T) (hcap : a = none → cap = 0) (hl : T.length ≤ 2000000) :
    Calls Try.prog 38 #[.slice a T.length cap] w (Own1 w (tlessM T)) := by
  by_cases ho : tabOk T = true
  · have e : tlessM T = lessM T := by simp [tlessM, ho]
    rw [e]; exact sless_yes a cap T w hT hcap ho
  · have ho' : tabOk T = false := by simpa using ho
    have e : tlessM T = [] := by simp [tlessM, ho']
    rw [e]; exact sless_no a cap T w hT hl ho'

end Go.Proofs.Ytmbcfdlemapppaa
