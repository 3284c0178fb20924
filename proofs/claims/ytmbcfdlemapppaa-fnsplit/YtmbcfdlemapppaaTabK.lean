/-
  What the program's TableLess answers.
-/
import Derived.Test.YtmbcfdlemapppaaTabJ
namespace Go.Proofs.Ytmbcfdlemapppaa
open Go.RowKit
set_option linter.unusedSimpArgs false

theorem agree_vis {U V : VV} {A B : List E} (hU : Vis U A) (hV : Vis V B) (hA : Good A) (hB : Good B) : agreeV U V = sameM A B := by
  rw [Bool.eq_iff_iff, agreeV_iff, sameM_iff]
  constructor
  · intro h a a0 a1
    have := h a.toNat (by omega)
    rw [show ((a.toNat : Nat) : Int) = a by omega] at this
    rw [← viaV_find hU hA a0 a1, ← viaV_find hV hB a0 a1]; exact this
  · intro h n hn
    rw [viaV_find hU hA (by omega) (by omega), viaV_find hV hB (by omega) (by omega)]
    exact h n (by omega) (by omega)
theorem vis_back {V : VV} {f b v : Int} (h : V f b = v) : updV (updV V (f, b, 0)) (f, b, v) = V := by
  funext g c
  simp only [updV]
  by_cases k : g = f ∧ c = b
  · rw [if_pos k, k.1, k.2, h]
  · rw [if_neg k, if_neg k]
theorem sameM_right {A B C : List E} (h : ∀ a : Int, 0 ≤ a → a ≤ 255 → findM B a = findM C a) : sameM A B = sameM A C := by
  rw [Bool.eq_iff_iff, sameM_iff, sameM_iff]
  exact ⟨fun k a a0 a1 => (k a a0 a1).trans (h a a0 a1), fun k a a0 a1 => (k a a0 a1).trans (h a a0 a1).symm⟩
/-- what is left behind k entries -/
def outK (T : List E) (k : Nat) : List E := (T.take k).foldl lessStep T
theorem outK_succ {T : List E} {k : Nat} {e : E} (h : T[k]? = some e) : outK T (k + 1) = lessStep (outK T k) e := by
  unfold outK; rw [List.take_add_one, h]; simp
theorem outK_all (T : List E) : outK T T.length = lessM T := by unfold outK lessM; rw [List.take_length]
theorem outK_good {T : List E} (h : Good T) (k : Nat) : Good (outK T k) := good_lessF h
theorem outK_find {T : List E} (k : Nat) {a : Int} (a0 : 0 ≤ a) (a1 : a ≤ 255) : findM (outK T k) a = findM T a := find_lessF a0 a1
theorem outK_len (T : List E) (k : Nat) : (outK T k).length ≤ T.length := lessF_len
/-- an entry that is still to come is still there -/
theorem outK_mem {T : List E} (hT : Good T) {k : Nat} {e : E} (h : T[k]? = some e) : e ∈ outK T k := by
  refine lessF_keep (mem_at h) fun x hx hs => ?_
  obtain ⟨i, hi⟩ := List.mem_iff_getElem?.1 hx
  rw [List.getElem?_take] at hi
  split at hi
  · rename_i hik
    obtain ⟨i1, e1⟩ := List.getElem?_eq_some_iff.1 hi
    obtain ⟨i2, e2⟩ := List.getElem?_eq_some_iff.1 h
    have := List.pairwise_iff_getElem.1 hT.2 i k i1 i2 hik
    rw [e1, e2] at this
    unfold ltE at this; omega
  · cases hi

/-- what TableLess answers -/
def tlessM (T : List E) : List E := if tabOk T = true then lessM T else []
def Own1 (w : World) (L : List E) (e : Ending) (w' : World) : Prop := ∃ x, e = .returned x ∧ Owns w' w.heap.size x L ∧ Below w.heap.size w w'

set_option maxHeartbeats 1000000 in
theorem tless_no (a : Option Addr) (cap : Nat) (T : List E) (w : World) (hT : TabA w a T) (hl : T.length ≤ 2000000) (ho : tabOk T = false) :
    Calls Try.prog 39 #[.slice a T.length cap] w (Own1 w []) := by
  have HT := Lib.hid hT
  clear hT
  go_enter Try.func39, Try.ntmps39
  go_wp2_with fail
  refine (tok_is ho _ HT.out hl).mono ?_
  rintro e w1 ⟨rfl, hb1⟩
  have HB1 := Lib.hid hb1
  clear hb1
  go_wp2_with fail
  go_ret
  exact ⟨_, rfl, World.ownsRow_nil _ _ _ _, HB1.out⟩

/-- what the rounds of TableLess keep: the full trie, below n; the other one, from n on, which holds what is left -/
def LessI (w : World) (n bF rF rL : Nat) (T : List E) (k : Nat) (W : World) : Prop :=
  ∃ (φ ψ : Ph) (V : VV), TrieP W bF rF φ (plantV T) ∧ (∀ f b p, φ f b = some p → p < n) ∧ TrieP W n rL ψ V ∧ Vis V (outK T k) ∧ n ≤ W.heap.size ∧ Below w.heap.size w W

set_option maxHeartbeats 2000000 in
theorem tless_yes (a : Option Addr) (cap : Nat) (T : List E) (w : World) (hT : TabA w a T) (ho : tabOk T = true) :
    Calls Try.prog 39 #[.slice a T.length cap] w (Own1 w (lessM T)) := by
  obtain ⟨hg, h12⟩ := tab_good ho
  have hok := Lib.hid (tab_oks ho)
  have HT := Lib.hid hT
  have HG := Lib.hid hg
  clear hT hg
  go_enter Try.func39, Try.ntmps39
  go_wp2_with fail
  refine (tok_is ho _ HT.out (by omega)).mono ?_
  rintro e w1 ⟨rfl, hb1⟩
  have HB1 := Lib.hid hb1
  have HT1 := Lib.hid (HT.out.below hb1)
  clear hb1
  go_wp2_with fail
  refine (plant_any a cap T _ HT1.out h12 hok.out).mono ?_
  rintro e w2 ⟨φ, rF, rfl, tr, hb2⟩
  have HR := Lib.hid tr
  have HB2 := Lib.hid (next HB1.out hb2)
  have HT2 := Lib.hid (HT1.out.below hb2)
  clear tr hb2 HB1
  go_wp2_with fail
  refine (plant_any a cap T _ HT2.out h12 hok.out).mono ?_
  rintro e w3 ⟨ψ, rL, rfl, tr, hb3⟩
  have HI : Hid (LessI w w2.heap.size w1.heap.size rF rL T 0 w3) := Lib.hid ⟨φ, ψ, _, HR.out.later hb3, fun _ _ _ e => HR.out.lt e, tr, vis_plant T, hb3.size, next HB2.out hb3⟩
  have hs2 := HB2.out.size
  clear tr hb3 HR HB2 HT2 HT1
  go_wp2_with fail
  go_loopw [17] (fun i wr => ∃ k : Nat, k ≤ T.length ∧ i = .int .i64 k ∧ LessI w w2.heap.size w1.heap.size rF rL T k wr) (fun i _ => T.length - (intOf i).toNat)
  case atStart => exact ⟨0, Nat.zero_le _, rfl, HI.out⟩
  case round =>
    obtain ⟨k, hk, rfl, φ, ψ, V, tF, nF, tL, vL, hn, hb⟩ := hrel
    clear HI
    by_cases hlt : k < T.length
    · obtain ⟨b, off, f, c, v, rfl, hTk, c0, c1, c2⟩ := HT.out.at hlt
      have d0 := cell_later hb c0
      have d1 := cell_later hb c1
      have d2 := cell_later hb c2
      have okfc := hok.out _ (mem_at hTk)
      have gk := outK_good HG.out k
      have mk := outK_mem HG.out hTk
      have A0 := Lib.hid (At3.new wr f c v 37)
      have HF := Lib.hid (And.intro (tF.alloc (.cells #[.int .i64 f, .int .i64 c, .int .i64 v] 37)) nF)
      have HL := Lib.hid (tL.alloc (.cells #[.int .i64 f, .int .i64 c, .int .i64 v] 37))
      have HB := Lib.hid (hb.alloc hb.size (.cells #[.int .i64 f, .int .i64 c, .int .i64 v] 37))
      have hX : ∀ g x, ψ g x ≠ some wr.heap.size := fun g x e => by have := tL.lt e; omega
      have hvk : V f c = v := vL.of gk mk
      have HVK := Lib.hid (And.intro vL (And.intro hvk gk))
      have HE := Lib.hid (outK_succ hTk)
      have HTk := Lib.hid hTk
      clear c0 c1 c2 hTk tF nF tL vL hb mk hvk gk
      go_wp2_with fail
      refine (reach_any f c _ w2.heap.size rL ψ V okfc HL.out (by simp; omega)).mono ?_
      rintro e w4 ⟨ψ', p, rfl, t4, hp, off4, new4⟩
      clear d0 d1 d2
      obtain ⟨q0, q1⟩ := t4.via hp
      have hpX : p ≠ wr.heap.size := fun e => by rcases new4 _ _ _ hp with h | h; exact hX _ _ (e ▸ h); simp at h; omega
      have B4 := off4.below (n := w2.heap.size) (by simp; omega) (fun _ _ _ e => (HL.out.ok e).2)
      have HF5 := Lib.hid ((HF.out.1.below B4 HF.out.2).far ⟨p, 0, none⟩ (.int .i64 0) (fun g x e => by have := HF.out.2 _ _ _ e; have := (t4.ok hp).2; simp at *; omega))
      have HL5 := Lib.hid (t4.put hp 0)
      have HP := Lib.hid hp
      have hpn := (t4.ok hp).2
      have HB5 := Lib.hid ((HB.out.trans (B4.mono hs2)).setCell (p := ⟨p, 0, none⟩) (Nat.le_trans hs2 hpn) (.int .i64 0))
      have A5 := Lib.hid ((A0.out.off off4 hX).far ⟨p, 0, none⟩ (.int .i64 0) hpX)
      have hn5 : w2.heap.size ≤ (w4.setCell ⟨p, 0, none⟩ (.int .i64 0)).heap.size := by have := off4.size; simp at this ⊢; omega
      clear hX t4 hp off4 new4 B4 HL HB A0
      go_wp2_with fail
      clear q0 q1
      generalize w4.setCell ⟨p, 0, none⟩ (.int .i64 0) = w5 at *
      refine (agrees_any _ _ _ _ _ _ _ _ _ HL5.out HF5.out).mono ?_
      rintro e w6 ⟨rfl, hw6⟩
      have gd := good_drop HVK.out.2.2 f c
      have vd := vis_drop HVK.out.1 f c
      have hag : agreeV (updV V (f, c, 0)) (plantV T) = sameM (dropM (outK T k) f c) (outK T k) := by
        rw [agree_vis vd (vis_plant T) gd HG.out]
        exact (sameM_right (fun a a0 a1 => outK_find k a0 a1)).symm
      have HF6 := Lib.hid (HF5.out.drawn hw6)
      have HL6 := Lib.hid (HL5.out.drawn hw6)
      have HB6 := Lib.hid (HB5.out.trans (hw6.below _))
      have hn6 : w2.heap.size ≤ w6.heap.size := Nat.le_trans hn5 (hw6.below 0).size
      obtain ⟨x0, x1, x2⟩ := A5.out.drawn hw6
      clear hw6 HF5 HL5 HB5 A5
      by_cases hs : sameM (dropM (outK T k) f c) (outK T k) = true
      · have R : Hid (LessI w w2.heap.size w1.heap.size rF rL T (k + 1) w6) := Lib.hid ⟨φ, ψ', _, HF6.out, HF.out.2, HL6.out, by rw [HE.out]; simp only [lessStep]; rw [if_pos hs]; exact vd, hn6, HB6.out⟩
        rw [hs] at hag
        clear gd vd hs HF6 HL6 HB6
        go_wp2_with fail
        go_roundw
        case rel => exact ⟨k + 1, by omega, by go_num, R.out⟩
        case measure => simp [intOf]; omega
      · have hs' : sameM (dropM (outK T k) f c) (outK T k) = false := by simpa using hs
        obtain ⟨q0, q1⟩ := HL6.out.via HP.out
        have HLb := HL6.out.put HP.out v
        rw [vis_back HVK.out.2.1] at HLb
        have R : Hid (LessI w w2.heap.size w1.heap.size rF rL T (k + 1) (w6.setCell ⟨p, 0, none⟩ (.int .i64 v))) := Lib.hid ⟨φ, ψ', V,
          HF6.out.far ⟨p, 0, none⟩ (.int .i64 v) (fun g x e => by have := HF.out.2 _ _ _ e; simp at *; omega), HF.out.2, HLb, by rw [HE.out]; simp only [lessStep]; rw [if_neg hs]; exact HVK.out.1, by simpa using hn6, HB6.out.setCell (p := ⟨p, 0, none⟩) (Nat.le_trans hs2 hpn) _⟩
        rw [hs'] at hag
        clear gd vd hs hs' HF6 HL6 HB6 HLb
        go_wp2_with fail
        go_roundw
        case rel => exact ⟨k + 1, by omega, by go_num, R.out⟩
        case measure => simp [intOf]; omega
    · obtain rfl : k = T.length := by omega
      have HG2 := Lib.hid (And.intro vL (outK_good HG.out T.length))
      have HR := Lib.hid tL
      have HB := Lib.hid hb
      have hle := outK_len T T.length
      clear tF nF tL vL hb
      go_wp2_with fail
      refine (entries_any _ _ _ _ _ (outK T T.length) HR.out HG2.out.1 HG2.out.2 (by omega)).mono ?_
      rintro e w6 ⟨x, rfl, ho6, hb6⟩
      rw [outK_all] at ho6
      have HO6 := Lib.hid (owns_mono ho6 HB.out.size)
      have HB6 := Lib.hid (next HB.out hb6)
      clear ho6 hb6
      go_wp2_with fail
      go_ret
      exact ⟨_, rfl, HO6.out, HB6.out⟩

theorem tless_any (a : Option Addr) (cap : Nat) (T : List E) (w : World) (hT : TabA w a T) (hl : T.length ≤ 2000000) :
    Calls Try.prog 39 #[.slice a T.length cap] w (Own1 w (tlessM T)) := by
  by_cases ho : tabOk T = true
  · have e : tlessM T = lessM T := by simp [tlessM, ho]
    rw [e]; exact tless_yes a cap T w hT ho
  · have ho' : tabOk T = false := by simpa using ho
    have e : tlessM T = [] := by simp [tlessM, ho']
    rw [e]; exact tless_no a cap T w hT hl ho'

end Go.Proofs.Ytmbcfdlemapppaa
