/-
  What the other methods of a trie do: agrees, plant.
-/
import Derived.Test.YtmbcfdlemapppaaReach
namespace Go.Proofs.Ytmbcfdlemapppaa
open Go.RowKit

def agreeV (U V : VV) : Bool := (List.range 256).all fun n => viaV U (n : Int) 8 == viaV V (n : Int) 8
theorem agreeV_iff (U V : VV) : agreeV U V = true ↔ ∀ n : Nat, n < 256 → viaV U n 8 = viaV V n 8 := by
  unfold agreeV; rw [List.all_eq_true]
  constructor
  · intro h n hn; simpa using h n (by simpa using hn)
  · intro h n hn; simpa using h n (by simpa using hn)
theorem agreeV_no {U V : VV} {n : Nat} (hn : n < 256) (h : ¬ viaV U n 8 = viaV V n 8) : agreeV U V = false := by
  rw [← Bool.not_eq_true, agreeV_iff]; exact fun k => h (k n hn)

set_option maxHeartbeats 1000000 in
theorem agrees_any (w : World) (base root base' root' : Nat) (φ φ' : Ph) (U V : VV) (h : TrieP w base root φ U) (h' : TrieP w base' root' φ' V) :
    Calls Try.prog 68 #[.pointer (some ⟨root, 0, none⟩), .pointer (some ⟨root', 0, none⟩)] w fun e w' => e = .returned (.bool (agreeV U V)) ∧ Drawn w w' := by
  have HT := Lib.hid (And.intro h h')
  clear h h'
  go_enter Try.func68, Try.ntmps68
  go_wp2_with fail
  go_loopw [5] (fun i wr => ∃ k : Nat, k ≤ 256 ∧ i = .int .i64 k ∧ Hid (∀ n : Nat, n < k → viaV U n 8 = viaV V n 8) ∧ Drawn w wr) (fun i _ => 256 - (intOf i).toNat)
  case atStart => exact ⟨0, by omega, rfl, Lib.hid (fun n h => by omega), Drawn.refl w⟩
  case round =>
    obtain ⟨k, hk, rfl, ha, hw⟩ := hrel
    by_cases hlt : k < 256
    · have k0 : (0 : Int) ≤ k := by omega
      have k1 : (k : Int) ≤ 255 := by omega
      go_wp2_with (first | (go_at_call_of 66 (Value.pointer (some ⟨root, 0, none⟩)); refine (find_any k _ base root φ U k0 k1 (HT.out.1.drawn hw)).mono ?_; rintro e w1 ⟨rfl, hw1⟩) | (go_at_call_of 66 (Value.pointer (some ⟨root', 0, none⟩)); refine (find_any k _ base' root' φ' V k0 k1 (HT.out.2.drawn (hw.on hw1))).mono ?_; rintro e w2 ⟨rfl, hw2⟩))
      · have hne : (viaV U k 8 != viaV V k 8) = true := by assumption
        go_ret
        exact ⟨ret_bool (agreeV_no hlt (by simpa using hne)).symm, (hw.on hw1).on hw2⟩
      · have heq : (viaV U k 8 != viaV V k 8) = false := by assumption
        have heq' : viaV U k 8 = viaV V k 8 := by simpa using heq
        go_roundw
        case rel =>
          refine ⟨k + 1, by omega, by go_num, Lib.hid (fun n hn => ?_), (hw.on hw1).on hw2⟩
          by_cases e : n = k
          · rw [e]; exact heq'
          · exact ha.out n (by omega)
        case measure => simp [intOf]; omega
    · obtain rfl : k = 256 := by omega
      go_wp2_with fail
      go_ret
      exact ⟨ret_bool ((agreeV_iff U V).2 ha.out).symm, hw⟩

/-- a slice of entries, as it lies in memory -/
def TabA (w : World) (a : Option Addr) (T : List E) : Prop :=
  T = [] ∨ ∃ b off, a = some ⟨b, off, none⟩ ∧ ∀ i e, T[i]? = some e →
    w.cell? ⟨b, off + i * 3, none⟩ = some (.int .i64 e.1) ∧ w.cell? ⟨b, off + i * 3 + 1, none⟩ = some (.int .i64 e.2.1) ∧ w.cell? ⟨b, off + i * 3 + 2, none⟩ = some (.int .i64 e.2.2)
theorem TabA.at {w : World} {a : Option Addr} {T : List E} (h : TabA w a T) {k : Nat} (hk : k < T.length) :
    ∃ b off f c v, a = some ⟨b, off, none⟩ ∧ T[k]? = some (f, c, v) ∧ w.cell? ⟨b, off + k * 3, none⟩ = some (.int .i64 f) ∧ w.cell? ⟨b, off + k * 3 + 1, none⟩ = some (.int .i64 c) ∧ w.cell? ⟨b, off + k * 3 + 2, none⟩ = some (.int .i64 v) := by
  rcases h with rfl | ⟨b, off, rfl, h⟩
  · simp at hk
  · have e : T[k]? = some T[k] := List.getElem?_eq_getElem hk
    exact ⟨b, off, T[k].1, T[k].2.1, T[k].2.2, rfl, e, h k _ e⟩

theorem TabA.below {w w' : World} {a : Option Addr} {T : List E} (h : TabA w a T) (k : Below w.heap.size w w') : TabA w' a T := by
  rcases h with rfl | ⟨b, off, rfl, h⟩
  · exact .inl rfl
  · exact .inr ⟨b, off, rfl, fun i e hi => ⟨cell_later k (h i e hi).1, cell_later k (h i e hi).2.1, cell_later k (h i e hi).2.2⟩⟩
theorem plantV_take {T : List E} {k : Nat} {e : E} (h : T[k]? = some e) : plantV (T.take (k + 1)) = updV (plantV (T.take k)) e := by
  unfold plantV
  rw [List.take_add_one, h]
  simp
theorem mem_at {T : List E} {k : Nat} {e : E} (h : T[k]? = some e) : e ∈ T := List.mem_of_getElem? h

/-- an entry that lies in a block -/
def At3 (w : World) (R : Nat) (f b v : Int) : Prop :=
  w.cell? ⟨R, 0, none⟩ = some (.int .i64 f) ∧ w.cell? ⟨R, 1, none⟩ = some (.int .i64 b) ∧ w.cell? ⟨R, 2, none⟩ = some (.int .i64 v)
theorem At3.new (w : World) (f b v : Int) (t : TypeId) : At3 (w.alloc (.cells #[.int .i64 f, .int .i64 b, .int .i64 v] t)) w.heap.size f b v := ⟨by simp, by simp, by simp⟩
theorem At3.below {w w' : World} {R : Nat} {f b v : Int} (h : At3 w R f b v) (k : Below w.heap.size w w') : At3 w' R f b v := ⟨cell_later k h.1, cell_later k h.2.1, cell_later k h.2.2⟩
theorem At3.off {φ : Ph} {w w' : World} {R : Nat} {f b v : Int} (h : At3 w R f b v) (k : OffP φ w w') (hr : ∀ g c, φ g c ≠ some R) : At3 w' R f b v := ⟨k.cell h.1 hr, k.cell h.2.1 hr, k.cell h.2.2 hr⟩
theorem At3.far {w : World} {R : Nat} {f b v : Int} (h : At3 w R f b v) (q : Addr) (x : Value) (hne : q.block ≠ R) : At3 (w.setCell q x) R f b v :=
  ⟨by rw [World.cell?_setCell_far _ _ _ _ hne]; exact h.1, by rw [World.cell?_setCell_far _ _ _ _ hne]; exact h.2.1, by rw [World.cell?_setCell_far _ _ _ _ hne]; exact h.2.2⟩
theorem At3.alloc {w : World} {R : Nat} {f b v : Int} (h : At3 w R f b v) (o : Obj) : At3 (w.alloc o) R f b v := ⟨cellA h.1 o, cellA h.2.1 o, cellA h.2.2 o⟩
theorem At3.drew {w : World} {R : Nat} {f b v : Int} (h : At3 w R f b v) : At3 w.drew R f b v := h
theorem At3.drawn {w W : World} {R : Nat} {f b v : Int} (h : At3 w R f b v) (k : Drawn w W) : At3 W R f b v := by obtain ⟨m, rfl⟩ := k; exact h

set_option maxHeartbeats 1000000 in
theorem plant_any (a : Option Addr) (cap : Nat) (T : List E) (w : World) (hT : TabA w a T) (hl : T.length ≤ 12) (hok : ∀ e ∈ T, okB e.1 e.2.1 = true) :
    Calls Try.prog 59 #[.slice a T.length cap] w fun e w' => ∃ φ root, e = .returned (.pointer (some ⟨root, 0, none⟩)) ∧ TrieP w' w.heap.size root φ (plantV T) ∧ Below w.heap.size w w' := by
  have I0 := Lib.hid (And.intro (TrieP.new w 75) ((Below.refl w.heap.size w).alloc (Nat.le_refl _) (nodeO 75)))
  go_enter Try.func59, Try.ntmps59
  go_wp2_with fail
  go_loopw [10] (fun i wr => ∃ (k : Nat) (φ : Ph), k ≤ T.length ∧ i = .int .i64 k ∧ TrieP wr w.heap.size w.heap.size φ (plantV (T.take k)) ∧ Below w.heap.size w wr) (fun i _ => T.length - (intOf i).toNat)
  case atStart => exact ⟨0, _, Nat.zero_le _, rfl, I0.out.1, I0.out.2⟩
  case round =>
    obtain ⟨k, φ, hk, rfl, ht, hb⟩ := hrel
    clear I0
    by_cases hlt : k < T.length
    · obtain ⟨b, off, f, c, v, rfl, hTk, c0, c1, c2⟩ := hT.at hlt
      have d0 := cell_later hb c0
      have d1 := cell_later hb c1
      have d2 := cell_later hb c2
      have okfc := hok _ (mem_at hTk)
      have HV := Lib.hid (plantV_take hTk)
      have hX : ∀ g x, φ g x ≠ some wr.heap.size := fun g x e => by have := ht.lt e; omega
      have A0 := Lib.hid (At3.new wr f c v 37)
      have T0 := Lib.hid (ht.alloc (.cells #[.int .i64 f, .int .i64 c, .int .i64 v] 37))
      have hB1 := Lib.hid (hb.alloc hb.size (.cells #[.int .i64 f, .int .i64 c, .int .i64 v] 37))
      have hs := hb.size
      clear c0 c1 c2 hT hTk hok ht
      go_wp2_with fail
      clear d0 d1 d2
      refine wp_region_held_drew (S := fun W => At3 W wr.heap.size f c v) (by kernel_rfl) ?_ (fun hHeld => ?_)
      · exact A0.out.drew
      refine takeH (i := 0) (v := ?_) rfl rfl (by kernel_rfl) (by kernel_rfl) (by kernel_rfl) (fun _ _ _ h => h) (by rfl) ?_ (by assumption) ?_
      rotate_left 1
      · intro w hSw
        (try dsimp only at hSw)
        go_simp
        try with_reducible rfl
      try simp only [List.setIfInBounds_toArray, List.set_cons_zero, List.set_cons_succ]
      refine takeH (i := 1) (v := ?_) rfl rfl (by kernel_rfl) (by kernel_rfl) (by kernel_rfl) (fun _ _ _ h => h) (by rfl) ?_ (by assumption) ?_
      rotate_left 1
      · intro w hSw
        (try dsimp only at hSw)
        go_simp
        try with_reducible rfl
      try simp only [List.setIfInBounds_toArray, List.set_cons_zero, List.set_cons_succ]
      refine takeH (i := 2) (v := ?_) rfl rfl (by kernel_rfl) (by kernel_rfl) (by kernel_rfl) (fun _ _ _ h => h) (by rfl) ?_ (by assumption) ?_
      rotate_left 1
      · intro w hSw
        (try dsimp only at hSw)
        go_simp
        simp [hSw.1, hSw.2.1]
        try with_reducible rfl
      try simp only [List.setIfInBounds_toArray, List.set_cons_zero, List.set_cons_succ]
      refine takeH (i := 4) (v := ?_) rfl rfl (by kernel_rfl) (by kernel_rfl) (by kernel_rfl) (fun _ _ _ h => h) (by rfl) ?_ (by assumption) ?_
      rotate_left 1
      · intro w hSw
        (try dsimp only at hSw)
        go_simp
        try with_reducible rfl
      try simp only [List.setIfInBounds_toArray, List.set_cons_zero, List.set_cons_succ]
      refine takeH (i := 5) (v := ?_) rfl rfl (by kernel_rfl) (by kernel_rfl) (by kernel_rfl) (fun _ _ _ h => h) (by rfl) ?_ (by assumption) ?_
      rotate_left 1
      · intro w hSw
        (try dsimp only at hSw)
        go_simp
        simp [hSw.2.2]
        try with_reducible rfl
      try simp only [List.setIfInBounds_toArray, List.set_cons_zero, List.set_cons_succ]
      refine wpAnyH_ready (rs := [3]) (by kernel_rfl) (by simp) ?_
      refine AllReadyH.cons rfl (fun K hK => ?_) (AllReadyH.nil)
      go_simp
      refine (reach_any f c _ w.heap.size w.heap.size φ _ okfc T0.out.drew (by simp; omega)).mono ?_
      rintro e w1 ⟨ψ, p, rfl, t1, hp, off1, new1⟩
      go_wp2_with fail
      refine hK.out _ _ ?_ (fun hNew => ?_)
      · exact hHeld.off off1 hX
      clear hK K hHeld
      have hHeld := hNew
      clear hNew
      try simp only [Act.put, List.setIfInBounds_toArray, List.set_cons_zero, List.set_cons_succ]
      refine takeH (i := 6) (v := ?_) rfl rfl (by kernel_rfl) (by kernel_rfl) (by kernel_rfl) (fun _ _ _ h => h) (by rfl) ?_ (by assumption) ?_
      rotate_left 1
      · intro w hSw
        (try dsimp only at hSw)
        go_simp
        try with_reducible rfl
      try simp only [List.setIfInBounds_toArray, List.set_cons_zero, List.set_cons_succ]
      refine takeH (i := 7) (v := ?_) rfl rfl (by kernel_rfl) (by kernel_rfl) (by kernel_rfl) (fun _ _ _ h => h) (by rfl) ?_ (by assumption) ?_
      rotate_left 1
      · intro w hSw
        (try dsimp only at hSw)
        go_simp
        try with_reducible rfl
      try simp only [List.setIfInBounds_toArray, List.set_cons_zero, List.set_cons_succ]
      refine wpAnyH_ready (rs := [8]) (by kernel_rfl) (by simp) ?_
      refine AllReadyH.cons rfl (fun K hK => ?_) (AllReadyH.nil)
      obtain ⟨q0, q1⟩ := t1.via hp
      go_simp
      refine hK.out _ _ ?_ (fun hNew => ?_)
      · exact hHeld.far _ _ (by have := new1 _ _ _ hp; intro e; subst e; rcases this with h | h; exact hX _ _ h; simp at h; omega)
      clear hK K hHeld
      have hHeld := hNew
      clear hNew
      try simp only [Act.put, List.setIfInBounds_toArray, List.set_cons_zero, List.set_cons_succ]
      refine wpAnyH_done (by kernel_rfl) ?_ _
      have TP := t1.put hp v
      rw [← HV.out] at TP
      have HP := Lib.hid (And.intro TP ((hB1.out.drew.trans (off1.below (by simp; omega) (fun _ _ _ e => (T0.out.ok e).2))).setCell (p := ⟨p, 0, none⟩) (t1.ok hp).2 (.int .i64 v)))
      clear TP t1 hp off1 new1 q0 q1 hHeld T0 A0 hB1 hX okfc HV
      generalize w1.setCell ⟨p, 0, none⟩ (.int .i64 v) = W at *
      go_wp2_with fail
      go_roundw
      case rel => exact ⟨k + 1, ψ, by omega, by go_num, HP.out.1, HP.out.2⟩
      case measure => simp [intOf]; omega
    · obtain rfl : k = T.length := by omega
      rw [List.take_length] at ht
      have HP := Lib.hid (And.intro ht hb)
      clear ht hb hT hok
      go_wp2_with fail
      go_ret
      exact ⟨φ, _, rfl, HP.out.1, HP.out.2⟩
end Go.Proofs.Ytmbcfdlemapppaa
