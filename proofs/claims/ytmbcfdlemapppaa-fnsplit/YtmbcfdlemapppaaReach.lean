/-
  What the walks of a trie do: reach (grows what is missing), find, agrees.
-/
import Derived.Test.YtmbcfdlemapppaaTrie
namespace Go.Proofs.Ytmbcfdlemapppaa
open Go.RowKit

theorem pre_kid {a d : Int} (d0 : 0 ≤ d) (d8 : d < 8) : pre a (d + 1) = kidF (pre a d) d (bitB a d == 1) := by
  rw [pre_succ d0 d8]
  rcases bitB_01 a d with h | h <;> rw [h] <;> simp [kidF]

/-- what reach's rounds keep -/
def ReachI (w : World) (base root : Nat) (φ : Ph) (V : VV) (f b : Int) (d : Nat) (v : Value) (W : World) : Prop :=
  ∃ ψ p, v = .pointer (some ⟨p, 0, none⟩) ∧ TrieP W base root ψ V ∧ ψ (pre f d) d = some p ∧ OffP φ w W ∧ Newer w φ ψ ∧ (∀ g c, ψ g c ≠ some w.heap.size) ∧ At W w.heap.size f b

theorem ReachI.old {w : World} {base root : Nat} {φ ψ : Ph} {V : VV} {f b : Int} {d q : Nat} {W : World} {u : Bool} (hd : d < 8) (hu : (bitB f d == 1) = u)
    (h1 : TrieP W base root ψ V) (h3 : OffP φ w W) (h4 : Newer w φ ψ) (h5 : ∀ g c, ψ g c ≠ some w.heap.size) (h6 : At W w.heap.size f b)
    (hq : ψ (kidF (pre f d) d u) ((d : Int) + 1) = some q) : ReachI w base root φ V f b (d + 1) (.pointer (some ⟨q, 0, none⟩)) W :=
  ⟨ψ, q, rfl, h1, by rw [show ((d + 1 : Nat) : Int) = (d : Int) + 1 by omega, pre_kid (by omega) (by omega), hu]; exact hq, h3, h4, h5, h6⟩
theorem ReachI.new {w : World} {base root : Nat} {φ ψ : Ph} {V : VV} {f b : Int} {d p : Nat} {W : World} {u : Bool} (hd : d < 8) (hu : (bitB f d == 1) = u) (hb : base ≤ w.heap.size)
    (h1 : TrieP W base root ψ V) (h2 : ψ (pre f d) d = some p) (h3 : OffP φ w W) (h4 : Newer w φ ψ) (h5 : ∀ g c, ψ g c ≠ some w.heap.size) (h6 : At W w.heap.size f b)
    (hq : ψ (kidF (pre f d) d u) ((d : Int) + 1) = none) (t : TypeId) (o : Nat) (ho : o = 1 + u.toNat) :
    ReachI w base root φ V f b (d + 1) (.pointer (some ⟨W.heap.size, 0, none⟩)) ((W.setCell ⟨p, o, none⟩ (.pointer (some ⟨W.heap.size, 0, none⟩))).alloc (nodeO t)) := by
  subst ho
  rw [← World.setCell_alloc_past _ _ _ _ (h1.lt h2)]
  have hs := h3.size
  have hl := h6.lt
  refine ⟨_, _, rfl, h1.grow h2 (by omega) u hq (by omega) t, ?_, ?_, fun g c x e => ?_, fun g c e => ?_, (h6.alloc _).far _ _ (fun e => h5 _ _ (h2.trans (congrArg some e)))⟩
  · rw [show ((d + 1 : Nat) : Int) = (d : Int) + 1 by omega, pre_kid (by omega) (by omega), hu]; exact phSet_same _ _ _ _
  · refine (h3.alloc _).setCell _ _ ?_
    rcases h4 _ _ _ h2 with e | e
    · exact .inl ⟨_, _, e⟩
    · exact .inr e
  · by_cases ne : g = kidF (pre f d) d u ∧ c = (d : Int) + 1
    · obtain ⟨rfl, rfl⟩ := ne
      rw [phSet_same] at e
      obtain rfl : W.heap.size = x := by simpa using e
      exact .inr hs
    · rw [phSet_other _ _ ne] at e; exact h4 _ _ _ e
  · by_cases ne : g = kidF (pre f d) d u ∧ c = (d : Int) + 1
    · obtain ⟨rfl, rfl⟩ := ne
      rw [phSet_same] at e
      have : W.heap.size = w.heap.size := by simpa using e
      omega
    · rw [phSet_other _ _ ne] at e; exact h5 _ _ e
theorem bit_is {a d v : Int} (h : bitB a d = v) (w : World) (d0 : 0 ≤ d) (d8 : d < 8) (a0 : 0 ≤ a) (a1 : a ≤ 255) :
    Calls Try.prog 79 #[.int .i64 a, .int .i64 d] w fun e w' => e = .returned (.int .i64 v) ∧ w = w' := by
  rw [← h]; exact bit_any a d w d0 d8 a0 a1

set_option maxHeartbeats 1000000 in
theorem reach_any (f b : Int) (w : World) (base root : Nat) (φ : Ph) (V : VV) (ok : okB f b = true) (h : TrieP w base root φ V) (hb : base ≤ w.heap.size) :
    Calls Try.prog 60 #[.pointer (some ⟨root, 0, none⟩), .agg #[.int .i64 f, .int .i64 b]] w fun e w' =>
      ∃ ψ p, e = .returned (.pointer (some ⟨p, 0, none⟩)) ∧ TrieP w' base root ψ V ∧ ψ f b = some p ∧ OffP φ w w' ∧ Newer w φ ψ := by
  obtain ⟨b0, b8, f0, f1, hm⟩ := (okB_iff f b).1 ok
  obtain ⟨n, rfl⟩ := Int.eq_ofNat_of_zero_le b0
  have hend := pre_self ok
  have I0 : ReachI w base root φ V f n 0 (.pointer (some ⟨root, 0, none⟩)) (w.alloc (.cells #[.int .i64 f, .int .i64 n] 35)) := by
    refine ⟨φ, root, rfl, h.alloc _, ?_, (OffP.refl φ w).alloc _, Newer.refl w φ, fun g c e => ?_, At.new w f n _⟩
    · have := pre_zero f0 f1; simp only [Int.natCast_zero]; rw [this]; exact h.root
    · have := h.lt e; omega
  have HI0 := Lib.hid I0
  have HE := Lib.hid hend
  have HB := Lib.hid hb
  clear I0 h hm hend hb ok
  go_enter Try.func60, Try.ntmps60
  go_wp2_with fail
  go_loopw [0, 5] (fun v i wr => ∃ k : Nat, k ≤ n ∧ i = .int .i64 k ∧ ReachI w base root φ V f n k v wr) (fun _ i _ => n - (intOf i).toNat)
  case atStart => exact ⟨0, Nat.zero_le _, rfl, HI0.out⟩
  case round =>
    obtain ⟨k, hk, rfl, ψ, p, rfl, h1, h2, h3, h4, h5, h6⟩ := hrel
    clear HI0
    obtain ⟨c0, c1, _, _⟩ := id h6
    by_cases hlt : k < n
    · have k8 : (k : Int) < 8 := by omega
      have hpl := h1.lt h2
      rcases bitB_01 f k with hbit | hbit
      · have hu : (bitB f k == 1) = false := by rw [hbit]; rfl
        obtain ⟨x1, x2⟩ := h1.lo h2
        cases hq : ψ (kidF (pre f k) k false) ((k : Int) + 1) with
        | some q =>
          have R := Lib.hid (ReachI.old (by omega) hu h1 h3 h4 h5 h6 hq)
          have hq' : ψ (pre f k) ((k : Int) + 1) = some q := hq
          rw [hq', ptrN_some] at x1
          clear h1 h2 h3 h4 h5 h6 hq hq' hu HB HE
          go_wp2_with (first | (go_at_call 79; refine (bit_is hbit _ (by omega) (by omega) f0 f1).mono ?_; rintro e w1 ⟨rfl, rfl⟩))
          go_roundw
          case rel => exact ⟨k + 1, by omega, by go_num, R.out⟩
          case measure => simp [intOf]; omega
        | none =>
          have R := Lib.hid (ReachI.new (by omega) hu HB.out h1 h2 h3 h4 h5 h6 hq 75 1 rfl)
          have hq' : ψ (pre f k) ((k : Int) + 1) = none := hq
          rw [hq', ptrN_none] at x1
          have y1 := cellA x1 (nodeO 75)
          have y2 := frozA x1 x2 (nodeO 75)
          clear h1 h2 h3 h4 h5 h6 hq hq' hu HB HE
          go_wp2_with (first | (go_at_call 79; refine (bit_is hbit _ (by omega) (by omega) f0 f1).mono ?_; rintro e w1 ⟨rfl, rfl⟩))
          go_roundw
          case rel => exact ⟨k + 1, by omega, by go_num, R.out⟩
          case measure => simp [intOf]; omega
      · have hu : (bitB f k == 1) = true := by rw [hbit]; rfl
        obtain ⟨x1, x2⟩ := h1.up h2
        cases hq : ψ (kidF (pre f k) k true) ((k : Int) + 1) with
        | some q =>
          have R := Lib.hid (ReachI.old (by omega) hu h1 h3 h4 h5 h6 hq)
          have hq' : ψ (pre f k + sz ((k : Int) + 1)) ((k : Int) + 1) = some q := hq
          rw [hq', ptrN_some] at x1
          clear h1 h2 h3 h4 h5 h6 hq hq' hu HB HE
          go_wp2_with (first | (go_at_call 79; refine (bit_is hbit _ (by omega) (by omega) f0 f1).mono ?_; rintro e w1 ⟨rfl, rfl⟩))
          go_roundw
          case rel => exact ⟨k + 1, by omega, by go_num, R.out⟩
          case measure => simp [intOf]; omega
        | none =>
          have R := Lib.hid (ReachI.new (by omega) hu HB.out h1 h2 h3 h4 h5 h6 hq 75 2 rfl)
          have hq' : ψ (pre f k + sz ((k : Int) + 1)) ((k : Int) + 1) = none := hq
          rw [hq', ptrN_none] at x1
          have y1 := cellA x1 (nodeO 75)
          have y2 := frozA x1 x2 (nodeO 75)
          clear h1 h2 h3 h4 h5 h6 hq hq' hu HB HE
          go_wp2_with (first | (go_at_call 79; refine (bit_is hbit _ (by omega) (by omega) f0 f1).mono ?_; rintro e w1 ⟨rfl, rfl⟩))
          go_roundw
          case rel => exact ⟨k + 1, by omega, by go_num, R.out⟩
          case measure => simp [intOf]; omega
    · obtain rfl : k = n := by omega
      have R := Lib.hid (show ∃ ψ p', (⟨p, 0, none⟩ : Addr) = ⟨p', 0, none⟩ ∧ TrieP wr base root ψ V ∧ ψ f k = some p' ∧ OffP φ w wr ∧ Newer w φ ψ from
        ⟨ψ, p, rfl, h1, by rw [HE.out] at h2; exact h2, h3, h4⟩)
      clear h1 h2 h3 h4 h5 h6 HB HE
      go_wp2_with fail
      go_ret
      obtain ⟨ψ, p', e, r⟩ := R.out
      exact ⟨ψ, p', by rw [← e]; rfl, r⟩

/-- a world that parts from another in draws alone -/
def Drawn (w W : World) : Prop := ∃ m, W = w.drewN m
theorem Drawn.refl (w : World) : Drawn w w := ⟨0, rfl⟩
theorem Drawn.more {w W : World} (h : Drawn w W) (n : Nat) : Drawn w (W.drewN n) := by obtain ⟨m, rfl⟩ := h; exact ⟨_, World.drewN_drewN _ _ _⟩
theorem Drawn.on {w W U : World} (h : Drawn w W) (k : Drawn W U) : Drawn w U := by obtain ⟨n, rfl⟩ := k; exact h.more n
theorem Drawn.below {w W : World} (h : Drawn w W) (n : Nat) : Below n w W := by obtain ⟨m, rfl⟩ := h; exact below_drewN (Below.refl _ _) _
theorem TrieP.drawn {w W : World} {base root : Nat} {φ : Ph} {V : VV} (h : TrieP w base root φ V) (k : Drawn w W) : TrieP W base root φ V := by obtain ⟨m, rfl⟩ := k; exact h.drewN m

/-- below a node that is not there nothing is -/
theorem TrieP.gone {w : World} {base root : Nat} {φ : Ph} {V : VV} (h : TrieP w base root φ V) {a : Int} (a0 : 0 ≤ a) (a1 : a ≤ 255) {d : Nat} (hd : φ (pre a ((d : Int) + 1)) ((d : Int) + 1) = none) :
    ∀ k : Nat, d < k → k ≤ 8 → φ (pre a k) k = none
  | 0, h0, _ => by omega
  | k + 1, h1, h8 => by
    by_cases e : d = k
    · subst e; exact hd
    · have ih := TrieP.gone h a0 a1 hd k (by omega) (by omega)
      rw [show ((k + 1 : Nat) : Int) = (k : Int) + 1 by omega, pre_kid (by omega) (by omega)]
      exact h.closed (pre_ok (by omega) (by omega) a0 a1) (by omega) ih _
theorem viaV_gone {w : World} {base root : Nat} {φ : Ph} {V : VV} (h : TrieP w base root φ V) {a : Int} (a0 : 0 ≤ a) (a1 : a ≤ 255) {d : Nat} (h8 : d < 8) (hd : φ (pre a ((d : Int) + 1)) ((d : Int) + 1) = none) : viaV V a 8 = viaV V a d :=
  viaV_stop (fun k h1 h2 => h.zero (h.gone a0 a1 hd k h1 h2)) 8 (by omega) (by omega)
theorem viaV_on {V : VV} {a : Int} {d : Nat} (h : V (pre a ((d : Int) + 1)) ((d : Int) + 1) = 0) : viaV V a (d + 1) = viaV V a d := if_pos h
theorem viaV_at {V : VV} {a : Int} {d : Nat} (h : ¬ V (pre a ((d : Int) + 1)) ((d : Int) + 1) = 0) : viaV V a (d + 1) = V (pre a ((d : Int) + 1)) ((d : Int) + 1) := if_neg h

set_option maxHeartbeats 1000000 in
theorem find_any (a : Int) (w : World) (base root : Nat) (φ : Ph) (V : VV) (a0 : 0 ≤ a) (a1 : a ≤ 255) (h : TrieP w base root φ V) :
    Calls Try.prog 66 #[.pointer (some ⟨root, 0, none⟩), .int .i64 a] w fun e w' => e = .returned (.int .i64 (viaV V a 8)) ∧ Drawn w w' := by
  have hr := h.root
  have I0 : φ (pre a ((0 : Nat) : Int)) ((0 : Nat) : Int) = some root ∧ viaV V a 0 = V 0 0 := by
    have := pre_zero a0 a1
    refine ⟨by simp only [Int.natCast_zero]; rw [this]; exact hr, ?_⟩
    show V (pre a 0) 0 = _
    rw [this]
  have HI0 := Lib.hid I0
  obtain ⟨c0, _⟩ := h.via hr
  have HT := Lib.hid h
  clear I0 h hr
  go_enter Try.func66, Try.ntmps66
  go_wp2_with fail
  go_loopw [0, 5, 6] (fun n v i wr => ∃ (k : Nat) (p : Nat), k ≤ 8 ∧ i = .int .i64 k ∧ n = .pointer (some ⟨p, 0, none⟩) ∧ v = .int .i64 (viaV V a k) ∧ φ (pre a k) k = some p ∧ Drawn w wr) (fun _ _ i _ => 8 - (intOf i).toNat)
  case atStart => exact ⟨0, root, by omega, rfl, rfl, by rw [HI0.out.2], HI0.out.1, Drawn.refl w⟩
  case round =>
    obtain ⟨k, p, hk, rfl, rfl, rfl, hp, hw⟩ := hrel
    clear HI0 c0
    have h1 := HT.out.drawn hw
    by_cases hlt : k < 8
    · have k8 : (k : Int) < 8 := by omega
      rcases bitB_01 a k with hbit | hbit
      · have hu : (bitB a k == 1) = false := by rw [hbit]; rfl
        have hkey : pre a ((k : Int) + 1) = kidF (pre a k) k false := by rw [pre_kid (by omega) k8, hu]
        obtain ⟨x1, _⟩ := h1.lo hp
        have x1' : wr.cell? ⟨p, 1, none⟩ = some (ptrN (φ (pre a ((k : Int) + 1)) ((k : Int) + 1))) := by rw [hkey]; exact x1
        clear x1 hu
        cases hq : φ (pre a ((k : Int) + 1)) ((k : Int) + 1) with
        | none =>
          have hv := Lib.hid (viaV_gone h1 a0 a1 hlt hq)
          rw [hq, ptrN_none] at x1'
          clear h1 hp hq hkey HT
          go_wp2_with fail
          go_quiet (first | (go_at_call 79; exact quietL (bit_is hbit _ (by omega) (by omega) a0 a1)))
          go_wp2_with fail
          go_ret
          exact ⟨ret_int hv.out.symm, hw.more _⟩
        | some q =>
          obtain ⟨y1, _⟩ := h1.via hq
          rw [hq, ptrN_some] at x1'
          have HQ := Lib.hid hq
          by_cases hv0 : V (pre a ((k : Int) + 1)) ((k : Int) + 1) = 0
          · have hv := Lib.hid (viaV_on hv0)
            rw [hv0] at y1
            clear h1 hp hq hkey HT hv0
            go_wp2_with fail
            go_quiet (first | (go_at_call 79; exact quietL (bit_is hbit _ (by omega) (by omega) a0 a1)))
            go_wp2_with fail
            go_roundw
            case rel => exact ⟨k + 1, q, by omega, by go_num, rfl, by rw [hv.out], HQ.out, hw.more _⟩
            case measure => simp [intOf]; omega
          · have hv := Lib.hid (viaV_at hv0)
            generalize V (pre a ((k : Int) + 1)) ((k : Int) + 1) = z at *
            clear h1 hp hq hkey HT
            go_wp2_with fail
            go_quiet (first | (go_at_call 79; exact quietL (bit_is hbit _ (by omega) (by omega) a0 a1)))
            go_wp2_with fail
            go_roundw
            case rel => exact ⟨k + 1, q, by omega, by go_num, rfl, by rw [hv.out], HQ.out, hw.more _⟩
            case measure => simp [intOf]; omega
      · have hu : (bitB a k == 1) = true := by rw [hbit]; rfl
        have hkey : pre a ((k : Int) + 1) = kidF (pre a k) k true := by rw [pre_kid (by omega) k8, hu]
        obtain ⟨x1, _⟩ := h1.up hp
        have x1' : wr.cell? ⟨p, 2, none⟩ = some (ptrN (φ (pre a ((k : Int) + 1)) ((k : Int) + 1))) := by rw [hkey]; exact x1
        clear x1 hu
        cases hq : φ (pre a ((k : Int) + 1)) ((k : Int) + 1) with
        | none =>
          have hv := Lib.hid (viaV_gone h1 a0 a1 hlt hq)
          rw [hq, ptrN_none] at x1'
          clear h1 hp hq hkey HT
          go_wp2_with fail
          go_quiet (first | (go_at_call 79; exact quietL (bit_is hbit _ (by omega) (by omega) a0 a1)))
          go_wp2_with fail
          go_ret
          exact ⟨ret_int hv.out.symm, hw.more _⟩
        | some q =>
          obtain ⟨y1, _⟩ := h1.via hq
          rw [hq, ptrN_some] at x1'
          have HQ := Lib.hid hq
          by_cases hv0 : V (pre a ((k : Int) + 1)) ((k : Int) + 1) = 0
          · have hv := Lib.hid (viaV_on hv0)
            rw [hv0] at y1
            clear h1 hp hq hkey HT hv0
            go_wp2_with fail
            go_quiet (first | (go_at_call 79; exact quietL (bit_is hbit _ (by omega) (by omega) a0 a1)))
            go_wp2_with fail
            go_roundw
            case rel => exact ⟨k + 1, q, by omega, by go_num, rfl, by rw [hv.out], HQ.out, hw.more _⟩
            case measure => simp [intOf]; omega
          · have hv := Lib.hid (viaV_at hv0)
            generalize V (pre a ((k : Int) + 1)) ((k : Int) + 1) = z at *
            clear h1 hp hq hkey HT
            go_wp2_with fail
            go_quiet (first | (go_at_call 79; exact quietL (bit_is hbit _ (by omega) (by omega) a0 a1)))
            go_wp2_with fail
            go_roundw
            case rel => exact ⟨k + 1, q, by omega, by go_num, rfl, by rw [hv.out], HQ.out, hw.more _⟩
            case measure => simp [intOf]; omega
    · obtain rfl : k = 8 := by omega
      clear h1 hp
      go_wp2_with fail
      go_ret
      exact ⟨rfl, hw⟩
end Go.Proofs.Ytmbcfdlemapppaa
