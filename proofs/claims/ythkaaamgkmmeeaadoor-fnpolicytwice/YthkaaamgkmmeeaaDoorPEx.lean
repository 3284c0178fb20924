/-
  What the helpers of the laws do with slices of ints: copies, comparisons, marks.
-/
import Derived.Test.YthkaaamgkmmeeaaDoorPTop
namespace Go.Proofs.YthkaaamgkmmeeaaDoor
open Go.RowKit
set_option linter.unusedSimpArgs false
set_option linter.unusedVariables false

def pOwn1 (w : World) (L : List Int) (e : Ending) (w' : World) : Prop := ∃ v, e = .returned v ∧ OwnI w' w.heap.size v L ∧ Below w.heap.size w w'
theorem madeI (n : Nat) : (madeCells #[Value.int .i64 0] (n * 1)).toList = cellsI (List.replicate n 0) := by
  refine (List.eq_replicate_iff.2 ⟨by simp [size_madeCells], fun x hx => ?_⟩ : _ = List.replicate n (Value.int .i64 0)).trans (by simp [cellsI])
  simp only [madeCells, Array.toList_map, List.mem_map] at hx
  obtain ⟨i, _, rfl⟩ := hx
  show (#[Value.int .i64 0] : Array Value)[i % 1]! = _
  rw [show i % 1 = 0 by omega]; rfl
theorem owni_put {w : World} {R g cap : Nat} {L : List Int} {k : Nat} (h : OwnI w R (.slice (some ⟨g, 0, none⟩) L.length cap) L) (x : Int) :
    OwnI (w.setCell ⟨g, k, none⟩ (.int .i64 x)) R (.slice (some ⟨g, 0, none⟩) L.length cap) (L.set k x) ∧ w.grownBy (w.setCell ⟨g, k, none⟩ (.int .i64 x)) (some g) := by
  have h1 := World.ownsRow.stored h k (.int .i64 x)
  refine ⟨?_, h1.2⟩
  have := h1.1
  rw [OwnI, List.length_set, cellsI, List.map_set]
  exact this
theorem owni_cell {w : World} {R g cap : Nat} {L : List Int} {k : Nat} (h : OwnI w R (.slice (some ⟨g, 0, none⟩) L.length cap) L) (hk : k < L.length) : w.cell? ⟨g, k, none⟩ = some (.int .i64 L[k]) :=
  (h.cellAt k (by omega)).trans (cellsI_at (List.getElem?_eq_getElem hk))

set_option maxRecDepth 100000 in
set_option maxHeartbeats 2000000 in
theorem toI_any (a : Option Addr) (cap : Nat) (L : List Int) (w : World) (hL : IntA w a L) (hl : L.length ≤ 1048576) :
    Calls Tryd.prog 68 #[.slice a L.length cap] w (pOwn1 w L) := by
  have HT := Lib.hid hL
  obtain ⟨i0, hi, hz0, hz1, hz2⟩ := info_parts infoI
  clear hL
  go_enter Tryd.func68, Tryd.ntmps68
  go_wp2_with (first | (refine wpList_make_full _ rfl (.tmp 6) (.tmp 6) 27 rfl w.heap.size 3 i0 (.int .i64 0) 1 Tryd.underlying27 hi hz0 hz1 .i64 .i64 _ _ L.length rfl rfl rfl rfl (by rw [hz2]; omega) (by unfold maxLen; omega) (Nat.le_refl _) ?_; intro w1 own1 grow1))
  have own1' := own1
  rw [show (Value.int .i64 0).cells = #[.int .i64 0] from rfl, madeI] at own1'
  have I0 : Hid (OwnI w1 w.heap.size (.slice (some ⟨w.heap.size, 0, none⟩) (List.replicate L.length (0 : Int)).length L.length) (List.replicate L.length 0) ∧ Below w.heap.size w w1) :=
    Lib.hid ⟨by rw [OwnI, List.length_replicate]; exact own1', (Below.refl _ _).grown grow1 (Nat.le_refl _) (fun _ h => by cases h)⟩
  clear own1 own1' grow1
  go_loopw [4] (fun i wr => ∃ (k : Nat) (M : List Int), k ≤ L.length ∧ i = .int .i64 k ∧ Hid (M.length = L.length) ∧ (∀ j, j < k → M[j]? = L[j]?) ∧ OwnI wr w.heap.size (.slice (some ⟨w.heap.size, 0, none⟩) M.length L.length) M ∧ Below w.heap.size w wr) (fun i _ => L.length - (intOf i).toNat)
  case atStart => exact ⟨0, _, Nat.zero_le _, rfl, Lib.hid (by simp), fun _ h => by omega, I0.out.1, I0.out.2⟩
  case round =>
    obtain ⟨k, M, hk, rfl, hM, hj, ho, hb⟩ := hrel
    clear I0
    by_cases hlt : k < L.length
    · obtain ⟨bb, off, x, rfl, hLk, c0⟩ := (HT.out.below hb).at hlt
      have hkM : k < M.length := by rw [hM.out]; exact hlt
      have HP := Lib.hid (owni_put (k := k) ho x)
      have d0 := owni_cell ho hkM
      have f0 := World.ownsRow.frozenAt ho k
      have HB := Lib.hid hb
      have HJ := Lib.hid hj
      have HK := Lib.hid hLk
      have j0 : (0 : Int) ≤ (k : Int) := by omega
      have j1 : (k : Int) < (L.length : Int) := by omega
      generalize M[k] = m at *
      clear ho hb hj hLk
      go_wp2_with fail
      go_roundw
      case rel =>
        refine ⟨k + 1, M.set k x, by omega, by go_num, Lib.hid (by rw [List.length_set]; exact hM.out), fun j hj => ?_, by rw [List.length_set]; exact HP.out.1, HB.out.grown HP.out.2 HB.out.size (fun _ e => by cases e; exact Nat.le_refl _)⟩
        by_cases e : j = k
        · subst e; rw [List.getElem?_set_self hkM]; exact HK.out.symm
        · rw [List.getElem?_set_ne (fun h => e h.symm)]; exact HJ.out j (by omega)
      case measure => simp [intOf]; omega
    · obtain rfl : k = L.length := by omega
      have hLT : M = L := List.ext_getElem? fun j => by
        by_cases h : j < L.length
        · exact hj j h
        · rw [List.getElem?_eq_none (by rw [hM.out]; omega), List.getElem?_eq_none (by omega)]
      have R := Lib.hid (And.intro ho hb)
      clear ho hb hj
      rw [hLT] at R
      clear hLT
      go_wp2_with fail
      go_ret
      exact ⟨_, rfl, R.out.1, R.out.2⟩

set_option maxRecDepth 100000 in
set_option maxHeartbeats 2000000 in
theorem eqI_any (a b : Option Addr) (cap cap' : Nat) (L M : List Int) (w : World) (hL : IntA w a L) (hM : IntA w b M) (hl : L.length ≤ 4000000) (hml : M.length ≤ 4000000) :
    Calls Tryd.prog 70 #[.slice a L.length cap, .slice b M.length cap'] w fun e w' => e = .returned (.bool (decide (L = M))) ∧ Below w.heap.size w w' := by
  by_cases he : L.length = M.length
  · have he' : ((L.length : Int) != (M.length : Int)) = false := by simp [he]
    have HE := Lib.hid he
    clear he
    go_enter Tryd.func70, Tryd.ntmps70
    go_wp2_with fail
    go_loopw [5] (fun i wr => ∃ k : Nat, k ≤ L.length ∧ i = .int .i64 k ∧ Hid (L.take k = M.take k) ∧ Below w.heap.size w wr) (fun i _ => L.length - (intOf i).toNat)
    case atStart => exact ⟨0, Nat.zero_le _, rfl, Lib.hid (by simp), Below.refl _ _⟩
    case round =>
      obtain ⟨k, hk, rfl, hn, hb⟩ := hrel
      by_cases hlt : k < L.length
      · obtain ⟨b1, off1, x, rfl, hLk, c0⟩ := (hL.below hb).at hlt
        obtain ⟨b2, off2, y, rfl, hMk, d0⟩ := (hM.below hb).at (show k < M.length by rw [← HE.out]; exact hlt)
        have i0 : (0 : Int) ≤ (k : Int) := by omega
        have i1 : (k : Int) < (L.length : Int) := by omega
        have i2 : (k : Int) < (M.length : Int) := by have := HE.out; omega
        have HB := Lib.hid hb
        by_cases hx : x = y
        · have hx' : (x != y) = false := by simp [hx]
          have HC : Hid (L.take (k + 1) = M.take (k + 1)) := Lib.hid (by rw [List.take_add_one, List.take_add_one, hLk, hMk, hn.out, hx])
          clear hn hLk hMk hL hM hb hx
          go_wp2_with fail
          go_quiet (fail)
          go_wp2_with fail
          go_roundw
          case rel => exact ⟨k + 1, by omega, by go_num, HC, below_drewN HB.out _⟩
          case measure => simp [intOf]; omega
        · have hx' : (x != y) = true := by simp [hx]
          have HC : Hid (decide (L = M) = false) := Lib.hid (decide_eq_false fun e => by rw [e, hMk] at hLk; exact hx (by simpa using hLk.symm))
          clear hn hLk hMk hL hM hb hx
          go_wp2_with fail
          go_quiet (fail)
          go_wp2_with fail
          go_ret
          exact ⟨ret_bool HC.out.symm, below_drewN HB.out _⟩
      · obtain rfl : k = L.length := by omega
        have HZ := Lib.hid (show decide (L = M) = true by
          have := hn.out
          rw [List.take_length, show L.length = M.length from HE.out, List.take_length] at this
          exact decide_eq_true this)
        have HB := Lib.hid hb
        clear hn hL hM hb
        go_wp2_with fail
        go_ret
        exact ⟨ret_bool HZ.out.symm, HB.out⟩
  · have he' : ((L.length : Int) != (M.length : Int)) = true := by simp; omega
    have HR := Lib.hid (show decide (L = M) = false from decide_eq_false fun e => he (by rw [e]))
    clear he
    go_enter Tryd.func70, Tryd.ntmps70
    go_wp2_with fail
    go_ret
    exact ⟨ret_bool HR.out.symm, Below.refl _ _⟩
theorem eqI_is {L M : List Int} {x : Bool} (h : decide (L = M) = x) (a b : Option Addr) (cap cap' n m : Nat) (w : World) (hn : n = L.length) (hm : m = M.length) (hL : IntA w a L) (hM : IntA w b M) (hl : L.length ≤ 4000000) (hml : M.length ≤ 4000000) :
    Calls Tryd.prog 70 #[.slice a n cap, .slice b m cap'] w fun e w' => e = .returned (.bool x) ∧ Below w.heap.size w w' := by
  rw [← h, hn, hm]; exact eqI_any a b cap cap' L M w hL hM hl hml

set_option maxRecDepth 100000 in
set_option maxHeartbeats 2000000 in
theorem lyI_any (a b : Option Addr) (cap cap' : Nat) (L M : List Int) (w : World) (hL : IntA w a L) (hM : IntA w b M) (hl : L.length ≤ 4000000) (hml : M.length ≤ 4000000) :
    Calls Tryd.prog 27 #[.slice a L.length cap, .slice b M.length cap'] w fun e w' => e = .returned (.bool (decide (L = M))) ∧ Below w.heap.size w w' := by
  by_cases he : L.length = M.length
  · have he' : ((L.length : Int) != (M.length : Int)) = false := by simp [he]
    have HE := Lib.hid he
    clear he
    go_enter Tryd.func27, Tryd.ntmps27
    go_wp2_with fail
    go_loopw [5] (fun i wr => ∃ k : Nat, k ≤ L.length ∧ i = .int .i64 k ∧ Hid (L.take k = M.take k) ∧ Below w.heap.size w wr) (fun i _ => L.length - (intOf i).toNat)
    case atStart => exact ⟨0, Nat.zero_le _, rfl, Lib.hid (by simp), Below.refl _ _⟩
    case round =>
      obtain ⟨k, hk, rfl, hn, hb⟩ := hrel
      by_cases hlt : k < L.length
      · obtain ⟨b1, off1, x, rfl, hLk, c0⟩ := (hL.below hb).at hlt
        obtain ⟨b2, off2, y, rfl, hMk, d0⟩ := (hM.below hb).at (show k < M.length by rw [← HE.out]; exact hlt)
        have i0 : (0 : Int) ≤ (k : Int) := by omega
        have i1 : (k : Int) < (L.length : Int) := by omega
        have i2 : (k : Int) < (M.length : Int) := by have := HE.out; omega
        have HB := Lib.hid hb
        by_cases hx : x = y
        · have hx' : (x != y) = false := by simp [hx]
          have HC : Hid (L.take (k + 1) = M.take (k + 1)) := Lib.hid (by rw [List.take_add_one, List.take_add_one, hLk, hMk, hn.out, hx])
          clear hn hLk hMk hL hM hb hx
          go_wp2_with fail
          go_quiet (fail)
          go_wp2_with fail
          go_roundw
          case rel => exact ⟨k + 1, by omega, by go_num, HC, below_drewN HB.out _⟩
          case measure => simp [intOf]; omega
        · have hx' : (x != y) = true := by simp [hx]
          have HC : Hid (decide (L = M) = false) := Lib.hid (decide_eq_false fun e => by rw [e, hMk] at hLk; exact hx (by simpa using hLk.symm))
          clear hn hLk hMk hL hM hb hx
          go_wp2_with fail
          go_quiet (fail)
          go_wp2_with fail
          go_ret
          exact ⟨ret_bool HC.out.symm, below_drewN HB.out _⟩
      · obtain rfl : k = L.length := by omega
        have HZ := Lib.hid (show decide (L = M) = true by
          have := hn.out
          rw [List.take_length, show L.length = M.length from HE.out, List.take_length] at this
          exact decide_eq_true this)
        have HB := Lib.hid hb
        clear hn hL hM hb
        go_wp2_with fail
        go_ret
        exact ⟨ret_bool HZ.out.symm, HB.out⟩
  · have he' : ((L.length : Int) != (M.length : Int)) = true := by simp; omega
    have HR := Lib.hid (show decide (L = M) = false from decide_eq_false fun e => he (by rw [e]))
    clear he
    go_enter Tryd.func27, Tryd.ntmps27
    go_wp2_with fail
    go_ret
    exact ⟨ret_bool HR.out.symm, Below.refl _ _⟩
theorem lyI_is {L M : List Int} {x : Bool} (h : decide (L = M) = x) (a b : Option Addr) (cap cap' n m : Nat) (w : World) (hn : n = L.length) (hm : m = M.length) (hL : IntA w a L) (hM : IntA w b M) (hl : L.length ≤ 4000000) (hml : M.length ≤ 4000000) :
    Calls Tryd.prog 27 #[.slice a n cap, .slice b m cap'] w fun e w' => e = .returned (.bool x) ∧ Below w.heap.size w w' := by
  rw [← h, hn, hm]; exact lyI_any a b cap cap' L M w hL hM hl hml
/-- marks -/
def pmarkL (n : Nat) : List Int := (List.range n).map fun (i : Nat) => (i : Int) + 1
theorem pmarkL_len (n : Nat) : (pmarkL n).length = n := by simp [pmarkL]
theorem pmarkL_at {n k : Nat} (h : k < n) : (pmarkL n)[k]? = some ((k : Int) + 1) := by simp [pmarkL, h]
theorem pmarkL_all {n : Nat} {M : List Int} (hM : M.length = n) (h : ∀ j, j < n → M[j]? = (pmarkL n)[j]?) : M = pmarkL n := List.ext_getElem? fun j => by
  by_cases e : j < n
  · exact h j e
  · rw [List.getElem?_eq_none (by omega), List.getElem?_eq_none (by rw [pmarkL_len]; omega)]

set_option maxHeartbeats 1000000 in
theorem lyIn_any (a : Option Addr) (cap : Nat) (L : List Int) (n : Int) (w : World) (hL : IntA w a L) (hl : L.length ≤ 4000000) :
    Calls Tryd.prog 18 #[.slice a L.length cap, .int .i64 n] w fun e w' => e = .returned (.bool (decide (n ∈ L))) ∧ w = w' := by
  go_enter Tryd.func18, Tryd.ntmps18
  go_wp2_with fail
  go_loopw [5] (fun i wr => ∃ k : Nat, k ≤ L.length ∧ i = .int .i64 k ∧ Hid (n ∉ L.take k) ∧ w = wr) (fun i _ => L.length - (intOf i).toNat)
  case atStart => exact ⟨0, Nat.zero_le _, rfl, Lib.hid (by simp), rfl⟩
  case round =>
    obtain ⟨k, hk, rfl, hn, rfl⟩ := hrel
    by_cases hlt : k < L.length
    · obtain ⟨b, off, x, rfl, hLk, c0⟩ := hL.at hlt
      have i0 : (0 : Int) ≤ (k : Int) := by omega
      have i1 : (k : Int) < (L.length : Int) := by omega
      by_cases hx : x = n
      · subst hx
        have HR := Lib.hid (show decide (x ∈ L) = true from decide_eq_true (List.mem_of_getElem? hLk))
        clear hLk hL hn
        go_wp2_with fail
        go_ret
        exact ⟨ret_bool HR.out.symm, rfl⟩
      · have hx' : (x == n) = false := by simp [hx]
        have HR : Hid (n ∉ L.take (k + 1)) := Lib.hid (by
          rw [List.take_add_one, hLk]
          intro h
          rcases List.mem_append.1 h with h | h
          · exact hn.out h
          · simp at h; exact hx h.symm)
        clear hLk hL hn
        go_wp2_with fail
        go_roundw
        case rel => exact ⟨k + 1, by omega, by go_num, HR, trivial⟩
        case measure => simp [intOf]; omega
    · obtain rfl : k = L.length := by omega
      have HR := Lib.hid (show decide (n ∈ L) = false by have := hn.out; rw [List.take_length] at this; simpa using this)
      clear hL hn
      go_wp2_with fail
      go_ret
      exact ⟨ret_bool HR.out.symm, rfl⟩
theorem lyIn_is {L : List Int} {n : Int} {x : Bool} (h : decide (n ∈ L) = x) (a : Option Addr) (cap m : Nat) (w : World) (hm : m = L.length) (hL : IntA w a L) (hl : L.length ≤ 4000000) :
    Calls Tryd.prog 18 #[.slice a m cap, .int .i64 n] w fun e w' => e = .returned (.bool x) ∧ w = w' := by
  rw [← h, hm]; exact lyIn_any a cap L n w hL hl
/-- the block of an own slice lies between two numbers -/
def pBtw (v : Value) (A B : Nat) : Prop := ∀ k, v.ownBlock = some k → A ≤ k ∧ k < B
theorem OwnI.btw {w : World} {R : Nat} {v : Value} {L : List Int} (h : OwnI w R v L) : pBtw v R w.heap.size := fun k hk => h.lt k hk
theorem pBtw.apart {v u : Value} {A B C D : Nat} (hv : pBtw v A B) (hu : pBtw u C D) (h : B ≤ C ∨ D ≤ A) : v.ownBlock = none ∨ v.ownBlock ≠ u.ownBlock := by
  cases e : v.ownBlock with
  | none => exact .inl rfl
  | some k =>
    refine .inr fun e' => ?_
    have h1 := hv k e
    have h2 := hu k e'.symm
    omega
end Go.Proofs.YthkaaamgkmmeeaaDoor
