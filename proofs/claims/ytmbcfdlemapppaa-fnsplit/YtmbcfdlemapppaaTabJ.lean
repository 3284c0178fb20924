/-
  What the program's functions on tables answer: put, drop.
-/
import Derived.Test.YtmbcfdlemapppaaTabI
namespace Go.Proofs.Ytmbcfdlemapppaa
open Go.RowKit
set_option linter.unusedSimpArgs false

theorem owns_mono {w : World} {R R' : Nat} {v : Value} {T : List E} (h : Owns w R v T) (hR : R' ≤ R) : Owns w R' v T := by
  refine ⟨h.1, ?_⟩
  rcases h.2 with h2 | ⟨g, cap, cur, h1, hb, r⟩
  · exact .inl h2
  · exact .inr ⟨g, cap, cur, h1, by omega, r⟩
/-- a new slice of entries, and whether -/
def OwnB (w : World) (L : List E) (ok : Bool) (e : Ending) (w' : World) : Prop := ∃ x, e = .returned (.tuple #[x, .bool ok]) ∧ Owns w' w.heap.size x L ∧ Below w.heap.size w w'

/-- what TablePut answers -/
def tputM (T : List E) (e : E) : List E × Bool := if tabOk T = true ∧ entOk e = true then (if (putM T e).length ≤ 12 then (putM T e, true) else (T, false)) else ([], false)

set_option maxHeartbeats 1000000 in
theorem tput_no1 (a : Option Addr) (cap : Nat) (T : List E) (f b v : Int) (w : World) (hT : TabA w a T) (hl : T.length ≤ 2000000) (ho : tabOk T = false) :
    Calls Try.prog 28 #[.slice a T.length cap, .agg #[.int .i64 f, .int .i64 b, .int .i64 v]] w (OwnB w [] false) := by
  have HT := Lib.hid (hT.alloc (.cells #[.int .i64 f, .int .i64 b, .int .i64 v] 37))
  clear hT
  go_enter Try.func28, Try.ntmps28
  go_wp2_with fail
  refine (tok_is ho _ HT.out hl).mono ?_
  rintro e w1 ⟨rfl, hb1⟩
  have HB1 := Lib.hid (below_box hb1 (by simp))
  clear hb1
  go_wp2_with fail
  go_ret2
  exact ⟨_, rfl, World.ownsRow_nil _ _ _ _, HB1.out⟩

set_option maxHeartbeats 1000000 in
theorem tput_no2 (a : Option Addr) (cap : Nat) (T : List E) (f b v : Int) (w : World) (hT : TabA w a T) (hl : T.length ≤ 2000000) (ho : tabOk T = true) (he : entOk (f, b, v) = false) :
    Calls Try.prog 28 #[.slice a T.length cap, .agg #[.int .i64 f, .int .i64 b, .int .i64 v]] w (OwnB w [] false) := by
  have HT := Lib.hid (hT.alloc (.cells #[.int .i64 f, .int .i64 b, .int .i64 v] 37))
  have HA := Lib.hid (At3.new w f b v 37)
  clear hT
  go_enter Try.func28, Try.ntmps28
  go_wp2_with fail
  refine (tok_is ho _ HT.out hl).mono ?_
  rintro e w1 ⟨rfl, hb1⟩
  obtain ⟨c0, c1, c2⟩ := HA.out.below hb1
  have HB1 := Lib.hid (below_box hb1 (by simp))
  clear hb1
  go_wp2_with fail
  refine (eok_is he _).mono ?_
  rintro e w2 ⟨rfl, hb2⟩
  have HB2 := Lib.hid (next HB1.out hb2)
  clear hb2 c0 c1 c2
  go_wp2_with fail
  go_ret2
  exact ⟨_, rfl, World.ownsRow_nil _ _ _ _, HB2.out⟩

set_option maxHeartbeats 2000000 in
theorem tput_yes (a : Option Addr) (cap : Nat) (T : List E) (f b v : Int) (w : World) (hT : TabA w a T) (ho : tabOk T = true) (he : entOk (f, b, v) = true) (L : List E) (ok : Bool)
    (h1 : (putM T (f, b, v)).length ≤ 12 → L = putM T (f, b, v) ∧ ok = true) (h2 : ¬ (putM T (f, b, v)).length ≤ 12 → L = T ∧ ok = false) :
    Calls Try.prog 28 #[.slice a T.length cap, .agg #[.int .i64 f, .int .i64 b, .int .i64 v]] w (OwnB w L ok) := by
  have HL := Lib.hid (And.intro h1 h2)
  clear h1 h2
  obtain ⟨hg, h12⟩ := tab_good ho
  have okfb := ((entOk_iff _).1 he).1
  have hok := Lib.hid (tab_oks ho)
  have HG := Lib.hid (And.intro hg (good_put hg he))
  have hpl := put_len hg (f, b, v)
  have HV := Lib.hid (And.intro (vis_plant T) (vis_put (vis_plant T) hg (f, b, v)))
  have HT := Lib.hid (hT.alloc (.cells #[.int .i64 f, .int .i64 b, .int .i64 v] 37))
  have HA := Lib.hid (At3.new w f b v 37)
  clear hT hg
  generalize hU : putM T (f, b, v) = U at *
  have HU := Lib.hid hU
  clear hU
  go_enter Try.func28, Try.ntmps28
  go_wp2_with fail
  refine (tok_is ho _ HT.out (by omega)).mono ?_
  rintro e w1 ⟨rfl, hb1⟩
  have HA1 := HA.out.below hb1
  have HA1' := Lib.hid HA1
  obtain ⟨c0, c1, c2⟩ := HA1
  have HT1 := Lib.hid (HT.out.below hb1)
  have HB1 := Lib.hid (below_box hb1 (by simp))
  have hs1 : w.heap.size < w1.heap.size := by have := hb1.size; simp at this; omega
  clear hb1
  go_wp2_with fail
  refine (eok_is he _).mono ?_
  rintro e w2 ⟨rfl, hb2⟩
  have HA2 := Lib.hid (HA1'.out.below hb2)
  have HT2 := Lib.hid (HT1.out.below hb2)
  have HB2 := Lib.hid (next HB1.out hb2)
  have hs2 : w.heap.size < w2.heap.size := by have := hb2.size; omega
  clear hb2 c0 c1 c2 HA1' HT1 HB1
  go_wp2_with fail
  refine (plant_any a cap T _ HT2.out h12 hok.out).mono ?_
  rintro e w3 ⟨φ, root, rfl, tr, hb3⟩
  have hX : ∀ g x, φ g x ≠ some w.heap.size := fun g x e => by have := (tr.ok e).2; omega
  have HR := Lib.hid tr
  have HA3 := Lib.hid (HA2.out.below hb3)
  have HH3 := Lib.hid hb3
  have HB3 := Lib.hid (next HB2.out hb3)
  have hs3 := hb3.size
  clear tr hb3 HA2 HB2
  go_wp2_with fail
  refine wp_region_held_drew (S := fun W => At3 W w.heap.size f b v) (by kernel_rfl) ?_ (fun hHeld => ?_)
  · exact HA3.out.drew
  refine takeH (i := 0) (v := ?_) rfl rfl (by kernel_rfl) (by kernel_rfl) (by kernel_rfl) (fun _ _ _ h => h) (by rfl) ?_ (by assumption) ?_
  rotate_left 1
  · intro w hSw
    (try dsimp only at hSw)
    go_simp
    try with_reducible rfl
  try simp only [List.setIfInBounds_toArray, List.set_cons_zero, List.set_cons_succ]
  refine takeH (i := 1) (v := ?_) rfl rfl (by kernel_rfl) (by kernel_rfl) (by kernel_rfl) (fun _ _ _ h => h) (by rfl) ?_ (by assumption) ?_
  rotate_left 1
  · intro w hSw
    (try dsimp only at hSw)
    go_simp
    try with_reducible rfl
  try simp only [List.setIfInBounds_toArray, List.set_cons_zero, List.set_cons_succ]
  refine takeH (i := 2) (v := ?_) rfl rfl (by kernel_rfl) (by kernel_rfl) (by kernel_rfl) (fun _ _ _ h => h) (by rfl) ?_ (by assumption) ?_
  rotate_left 1
  · intro w hSw
    (try dsimp only at hSw)
    go_simp
    simp [hSw.1, hSw.2.1]
    try with_reducible rfl
  try simp only [List.setIfInBounds_toArray, List.set_cons_zero, List.set_cons_succ]
  refine takeH (i := 4) (v := ?_) rfl rfl (by kernel_rfl) (by kernel_rfl) (by kernel_rfl) (fun _ _ _ h => h) (by rfl) ?_ (by assumption) ?_
  rotate_left 1
  · intro w hSw
    (try dsimp only at hSw)
    go_simp
    try with_reducible rfl
  try simp only [List.setIfInBounds_toArray, List.set_cons_zero, List.set_cons_succ]
  refine takeH (i := 5) (v := ?_) rfl rfl (by kernel_rfl) (by kernel_rfl) (by kernel_rfl) (fun _ _ _ h => h) (by rfl) ?_ (by assumption) ?_
  rotate_left 1
  · intro w hSw
    (try dsimp only at hSw)
    go_simp
    simp [hSw.2.2]
    try with_reducible rfl
  try simp only [List.setIfInBounds_toArray, List.set_cons_zero, List.set_cons_succ]
  refine wpAnyH_ready (rs := [3]) (by kernel_rfl) (by simp) ?_
  refine AllReadyH.cons rfl (fun K hK => ?_) (AllReadyH.nil)
  go_simp
  refine (reach_any f b _ w2.heap.size root φ _ okfb HR.out.drew (by simpa using hs3)).mono ?_
  rintro e w4 ⟨ψ, p, rfl, t4, hp, off4, new4⟩
  go_wp2_with fail
  refine hK.out _ _ ?_ (fun hNew => ?_)
  · exact hHeld.off off4 hX
  clear hK K hHeld
  have hHeld := hNew
  clear hNew
  try simp only [Act.put, List.setIfInBounds_toArray, List.set_cons_zero, List.set_cons_succ]
  refine takeH (i := 6) (v := ?_) rfl rfl (by kernel_rfl) (by kernel_rfl) (by kernel_rfl) (fun _ _ _ h => h) (by rfl) ?_ (by assumption) ?_
  rotate_left 1
  · intro w hSw
    (try dsimp only at hSw)
    go_simp
    try with_reducible rfl
  try simp only [List.setIfInBounds_toArray, List.set_cons_zero, List.set_cons_succ]
  refine takeH (i := 7) (v := ?_) rfl rfl (by kernel_rfl) (by kernel_rfl) (by kernel_rfl) (fun _ _ _ h => h) (by rfl) ?_ (by assumption) ?_
  rotate_left 1
  · intro w hSw
    (try dsimp only at hSw)
    go_simp
    try with_reducible rfl
  try simp only [List.setIfInBounds_toArray, List.set_cons_zero, List.set_cons_succ]
  refine wpAnyH_ready (rs := [8]) (by kernel_rfl) (by simp) ?_
  refine AllReadyH.cons rfl (fun K hK => ?_) (AllReadyH.nil)
  obtain ⟨q0, q1⟩ := t4.via hp
  go_simp
  refine hK.out _ _ ?_ (fun hNew => ?_)
  · exact hHeld.far _ _ (by have := new4 _ _ _ hp; intro e; subst e; rcases this with h | h; exact hX _ _ h; simp at h; omega)
  clear hK K hHeld
  have hHeld := hNew
  clear hNew
  try simp only [Act.put, List.setIfInBounds_toArray, List.set_cons_zero, List.set_cons_succ]
  refine wpAnyH_done (by kernel_rfl) ?_ _
  have T5 := t4.put hp v
  have B4 : Below w2.heap.size w3 (w4.setCell ⟨p, 0, none⟩ (.int .i64 v)) := ((Below.refl _ w3).drew.trans (off4.below (by simpa using hs3) (fun _ _ _ e => (HR.out.ok e).2))).setCell (p := ⟨p, 0, none⟩) (t4.ok hp).2 (.int .i64 v)
  have HR5 := Lib.hid T5
  have hs5 := B4.size
  have HB5 := Lib.hid (HB3.out.trans (B4.mono (Nat.le_of_lt hs2)))
  have HT5 := Lib.hid (HT2.out.below (HH3.out.trans B4))
  clear T5 B4 t4 hp off4 new4 q0 q1 hHeld HR HA3 hX HB3 HH3 HT2
  generalize w4.setCell ⟨p, 0, none⟩ (.int .i64 v) = w5 at *
  go_wp2_with fail
  refine (entries_any _ _ _ _ _ U HR5.out HV.out.2 HG.out.2 (by omega)).mono ?_
  rintro e w6 ⟨x, rfl, ho6, hb6⟩
  obtain ⟨ax, capx, rfl, tx⟩ := Owns.tab ho6
  have HO6 := Lib.hid (owns_mono ho6 (show w.heap.size ≤ w5.heap.size by omega))
  have HB6 := Lib.hid (next HB5.out hb6)
  have HT6 := Lib.hid (HT5.out.below hb6)
  clear ho6 hb6 HB5 HR5 HT5 tx
  by_cases hlen : U.length ≤ 12
  · go_wp2_with fail
    go_ret2
    obtain ⟨e1, e2⟩ := HL.out.1 hlen
    exact ⟨_, by rw [e2]; rfl, by rw [e1]; exact HO6.out, HB6.out⟩
  · go_wp2_with fail
    refine (plant_any a cap T _ HT6.out h12 hok.out).mono ?_
    rintro e w7 ⟨φ7, root7, rfl, tr7, hb7⟩
    have HR7 := Lib.hid tr7
    have HB7 := Lib.hid (next HB6.out hb7)
    clear tr7 hb7
    go_wp2_with fail
    refine (entries_any _ _ _ _ _ T HR7.out HV.out.1 HG.out.1 (by omega)).mono ?_
    rintro e w8 ⟨x8, rfl, ho8, hb8⟩
    have HO8 := Lib.hid (owns_mono ho8 (show w.heap.size ≤ w7.heap.size from HB7.out.size))
    have HB8 := Lib.hid (next HB7.out hb8)
    clear ho8 hb8
    go_wp2_with fail
    go_ret2
    obtain ⟨e1, e2⟩ := HL.out.2 hlen
    exact ⟨_, by rw [e2]; rfl, by rw [e1]; exact HO8.out, HB8.out⟩

theorem tput_any (a : Option Addr) (cap : Nat) (T : List E) (f b v : Int) (w : World) (hT : TabA w a T) (hl : T.length ≤ 2000000) :
    Calls Try.prog 28 #[.slice a T.length cap, .agg #[.int .i64 f, .int .i64 b, .int .i64 v]] w (OwnB w (tputM T (f, b, v)).1 (tputM T (f, b, v)).2) := by
  by_cases ho : tabOk T = true
  · by_cases he : entOk (f, b, v) = true
    · refine tput_yes a cap T f b v w hT ho he _ _ (fun h => ?_) (fun h => ?_)
      · simp [tputM, ho, he, h]
      · simp [tputM, ho, he, h]
    · have he' : entOk (f, b, v) = false := by simpa using he
      have e : tputM T (f, b, v) = ([], false) := by simp [tputM, he']
      rw [e]; exact tput_no2 a cap T f b v w hT hl ho he'
  · have ho' : tabOk T = false := by simpa using ho
    have e : tputM T (f, b, v) = ([], false) := by simp [tputM, ho']
    rw [e]; exact tput_no1 a cap T f b v w hT hl ho'

/-- what TableDrop answers -/
def tdropM (T : List E) (f b : Int) : List E × Bool := if tabOk T = true ∧ okB f b = true then (dropM T f b, decide ((dropM T f b).length < T.length)) else ([], false)

set_option maxHeartbeats 1000000 in
theorem tdrop_no1 (a : Option Addr) (cap : Nat) (T : List E) (f b : Int) (w : World) (hT : TabA w a T) (hl : T.length ≤ 2000000) (ho : tabOk T = false) :
    Calls Try.prog 33 #[.slice a T.length cap, .agg #[.int .i64 f, .int .i64 b]] w (OwnB w [] false) := by
  have HT := Lib.hid (hT.alloc (.cells #[.int .i64 f, .int .i64 b] 35))
  clear hT
  go_enter Try.func33, Try.ntmps33
  go_wp2_with fail
  refine (tok_is ho _ HT.out hl).mono ?_
  rintro e w1 ⟨rfl, hb1⟩
  have HB1 := Lib.hid (below_box hb1 (by simp))
  clear hb1
  go_wp2_with fail
  go_ret2
  exact ⟨_, rfl, World.ownsRow_nil _ _ _ _, HB1.out⟩

set_option maxHeartbeats 1000000 in
theorem tdrop_no2 (a : Option Addr) (cap : Nat) (T : List E) (f b : Int) (w : World) (hT : TabA w a T) (hl : T.length ≤ 2000000) (ho : tabOk T = true) (he : okB f b = false) :
    Calls Try.prog 33 #[.slice a T.length cap, .agg #[.int .i64 f, .int .i64 b]] w (OwnB w [] false) := by
  have HT := Lib.hid (hT.alloc (.cells #[.int .i64 f, .int .i64 b] 35))
  have HA := Lib.hid (At.new w f b 35)
  clear hT
  go_enter Try.func33, Try.ntmps33
  go_wp2_with fail
  refine (tok_is ho _ HT.out hl).mono ?_
  rintro e w1 ⟨rfl, hb1⟩
  obtain ⟨c0, c1, _, _⟩ := HA.out.below hb1
  have HB1 := Lib.hid (below_box hb1 (by simp))
  clear hb1
  go_wp2_with fail
  refine (iok_is he _).mono ?_
  rintro e w2 ⟨rfl, hb2⟩
  have HB2 := Lib.hid (next HB1.out hb2)
  clear hb2 c0 c1
  go_wp2_with fail
  go_ret2
  exact ⟨_, rfl, World.ownsRow_nil _ _ _ _, HB2.out⟩

set_option maxHeartbeats 2000000 in
theorem tdrop_yes (a : Option Addr) (cap : Nat) (T : List E) (f b : Int) (w : World) (hT : TabA w a T) (ho : tabOk T = true) (okfb : okB f b = true) :
    Calls Try.prog 33 #[.slice a T.length cap, .agg #[.int .i64 f, .int .i64 b]] w (OwnB w (dropM T f b) (decide ((dropM T f b).length < T.length))) := by
  obtain ⟨hg, h12⟩ := tab_good ho
  have hok := Lib.hid (tab_oks ho)
  have HG := Lib.hid (good_drop hg f b)
  have hpl := drop_len T f b
  have HV := Lib.hid (vis_drop (vis_plant T) f b)
  have hF : (plantV T f b != 0) = decide ((dropM T f b).length < T.length) := by
    rw [Bool.eq_iff_iff, bne_iff_ne, decide_eq_true_eq]; exact vis_found (vis_plant T) hg f b
  have HT := Lib.hid (hT.alloc (.cells #[.int .i64 f, .int .i64 b] 35))
  have HA := Lib.hid (At.new w f b 35)
  clear hT hg
  generalize dropM T f b = U at *
  generalize hz : decide (U.length < T.length) = z at *
  clear hz
  generalize hy : plantV T f b = y at *
  have HF := Lib.hid hF
  have HY := Lib.hid hy
  clear hF hy
  go_enter Try.func33, Try.ntmps33
  go_wp2_with fail
  refine (tok_is ho _ HT.out (by omega)).mono ?_
  rintro e w1 ⟨rfl, hb1⟩
  have HA1 := Lib.hid (HA.out.below hb1)
  obtain ⟨c0, c1, _, _⟩ := HA.out.below hb1
  have HT1 := Lib.hid (HT.out.below hb1)
  have HB1 := Lib.hid (below_box hb1 (by simp))
  have hs1 : w.heap.size < w1.heap.size := by have := hb1.size; simp at this; omega
  clear hb1
  go_wp2_with fail
  refine (iok_is okfb _).mono ?_
  rintro e w2 ⟨rfl, hb2⟩
  have HA2 := Lib.hid (HA1.out.below hb2)
  have HT2 := Lib.hid (HT1.out.below hb2)
  have HB2 := Lib.hid (next HB1.out hb2)
  have hs2 : w.heap.size < w2.heap.size := by have := hb2.size; omega
  clear hb2 c0 c1 HA1 HT1 HB1
  go_wp2_with fail
  refine (plant_any a cap T _ HT2.out h12 hok.out).mono ?_
  rintro e w3 ⟨φ, root, rfl, tr, hb3⟩
  have HR := Lib.hid tr
  obtain ⟨c0, c1, _, _⟩ := HA2.out.below hb3
  have HB3 := Lib.hid (next HB2.out hb3)
  have hs3 := hb3.size
  clear tr hb3 HA2 HB2
  go_wp2_with fail
  refine (reach_any f b _ w2.heap.size root φ _ okfb HR.out hs3).mono ?_
  rintro e w4 ⟨ψ, p, rfl, t4, hp, off4, new4⟩
  clear c0 c1
  obtain ⟨q0, q1⟩ := t4.via hp
  rw [HY.out] at q0
  have HP := Lib.hid (And.intro (t4.put hp 0) ((HB3.out.trans ((off4.below hs3 (fun _ _ _ e => (HR.out.ok e).2)).mono (Nat.le_of_lt hs2))).setCell (p := ⟨p, 0, none⟩) (Nat.le_trans (Nat.le_of_lt hs2) (t4.ok hp).2) (.int .i64 0)))
  clear t4 hp off4 new4 HR HB3 HT2
  go_wp2_with fail
  have hs5 := HP.out.2.size
  clear q0 q1
  generalize w4.setCell ⟨p, 0, none⟩ (.int .i64 0) = w5 at *
  refine (entries_any _ _ _ _ _ U HP.out.1 HV.out HG.out (by omega)).mono ?_
  rintro e w6 ⟨x, rfl, ho6, hb6⟩
  have HO6 := Lib.hid (owns_mono ho6 hs5)
  have HB6 := Lib.hid (next HP.out.2 hb6)
  clear ho6 hb6 HP
  go_wp2_with fail
  go_ret2
  exact ⟨_, by rw [← HF.out]; rfl, HO6.out, HB6.out⟩

theorem tdrop_any (a : Option Addr) (cap : Nat) (T : List E) (f b : Int) (w : World) (hT : TabA w a T) (hl : T.length ≤ 2000000) :
    Calls Try.prog 33 #[.slice a T.length cap, .agg #[.int .i64 f, .int .i64 b]] w (OwnB w (tdropM T f b).1 (tdropM T f b).2) := by
  by_cases ho : tabOk T = true
  · by_cases he : okB f b = true
    · have e : tdropM T f b = (dropM T f b, decide ((dropM T f b).length < T.length)) := by simp [tdropM, ho, he]
      rw [e]; exact tdrop_yes a cap T f b w hT ho he
    · have he' : okB f b = false := by simpa using he
      have e : tdropM T f b = ([], false) := by simp [tdropM, he']
      rw [e]; exact tdrop_no2 a cap T f b w hT hl ho he'
  · have ho' : tabOk T = false := by simpa using ho
    have e : tdropM T f b = ([], false) := by simp [tdropM, ho']
    rw [e]; exact tdrop_no1 a cap T f b w hT hl ho'

end Go.Proofs.Ytmbcfdlemapppaa
