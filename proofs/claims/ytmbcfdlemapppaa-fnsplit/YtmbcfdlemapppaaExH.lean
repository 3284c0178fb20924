/-
  What the helpers of the exact laws do: copies, comparisons, marks.
-/
import Derived.Test.YtmbcfdlemapppaaSpecH
namespace Go.Proofs.Ytmbcfdlemapppaa
open Go.RowKit
set_option linter.unusedSimpArgs false

def szI (l n : Nat) : Int := if n ≤ l then (l : Int) - (n : Int) else -1
set_option maxHeartbeats 400000 in
theorem sz_is {l n : Nat} {z : Int} (h : szI l n = z) (a : Option Addr) (cap : Nat) (w : World) (hl : l ≤ 1048576) (hn : n ≤ 9223372036854775807) :
    Calls Try.prog 21 #[.slice a n cap, .int .i64 l] w fun e w' => e = .returned (.int .i64 z) ∧ w = w' := by
  by_cases h1 : n ≤ l
  · have hr := Lib.hid (show z = (l : Int) - (n : Int) by rw [← h]; simp [szI, h1])
    clear h
    go_enter Try.func21, Try.ntmps21
    go_wp2
    go_ret
    exact ⟨ret_int hr.out.symm, rfl⟩
  · have hr := Lib.hid (show z = -1 by rw [← h]; simp [szI, h1])
    clear h
    go_enter Try.func21, Try.ntmps21
    go_wp2
    go_ret
    exact ⟨ret_int hr.out.symm, rfl⟩
theorem szI_yes {l n : Nat} (h : n ≤ l) : szI l n = ((l - n : Nat) : Int) := by simp [szI, h]; omega
theorem szI_no {l n : Nat} (h : ¬ n ≤ l) : szI l n = -1 := by simp [szI, h]
theorem sz1_is {n : Nat} {z : Int} (h : szI 1048576 n = z) (a : Option Addr) (cap : Nat) (w : World) (hn : n ≤ 9223372036854775807) :
    Calls Try.prog 21 #[.slice a n cap, .int .i64 1048576] w fun e w' => e = .returned (.int .i64 z) ∧ w = w' := sz_is h a cap w (Nat.le_refl _) hn

/-- an entry in a block that can be written -/
def At3w (w : World) (R : Nat) (f b v : Int) : Prop := At3 w R f b v ∧ w.frozen? ⟨R, 0, none⟩ = false ∧ w.frozen? ⟨R, 1, none⟩ = false ∧ w.frozen? ⟨R, 2, none⟩ = false
theorem At3w.new (w : World) (f b v : Int) (t : TypeId) : At3w (w.alloc (.cells #[.int .i64 f, .int .i64 b, .int .i64 v] t)) w.heap.size f b v := ⟨At3.new w f b v t, by simp, by simp, by simp⟩
theorem At3w.lt {w : World} {R : Nat} {f b v : Int} (h : At3w w R f b v) : R < w.heap.size := World.block_lt_of_cell? w _ h.1.1
theorem At3w.below {w w' : World} {R : Nat} {f b v : Int} (h : At3w w R f b v) (k : Below w.heap.size w w') : At3w w' R f b v :=
  ⟨h.1.below k, by rw [k.frozen (p := ⟨R, 0, none⟩) h.lt]; exact h.2.1, by rw [k.frozen (p := ⟨R, 1, none⟩) h.lt]; exact h.2.2.1, by rw [k.frozen (p := ⟨R, 2, none⟩) h.lt]; exact h.2.2.2⟩
theorem At3w.alloc {w : World} {R : Nat} {f b v : Int} (h : At3w w R f b v) (o : Obj) : At3w (w.alloc o) R f b v := h.below ((Below.refl _ _).alloc (Nat.le_refl _) o)
theorem At3w.far {w : World} {R : Nat} {f b v : Int} (h : At3w w R f b v) (q : Addr) (x : Value) (hne : q.block ≠ R) : At3w (w.setCell q x) R f b v :=
  ⟨h.1.far q x hne, by rw [World.frozen?_setCell]; exact h.2.1, by rw [World.frozen?_setCell]; exact h.2.2.1, by rw [World.frozen?_setCell]; exact h.2.2.2⟩
theorem At3w.put0 {w : World} {R : Nat} {f b v : Int} (h : At3w w R f b v) (x : Int) : At3w (w.setCell ⟨R, 0, none⟩ (.int .i64 x)) R x b v := by
  refine ⟨⟨World.cell?_setCell_same' _ _ _ (by rw [h.1.1]; rfl), ?_, ?_⟩, by rw [World.frozen?_setCell]; exact h.2.1, by rw [World.frozen?_setCell]; exact h.2.2.1, by rw [World.frozen?_setCell]; exact h.2.2.2⟩
  · rw [World.cell?_setCell_other _ _ _ _ (by simp)]; exact h.1.2.1
  · rw [World.cell?_setCell_other _ _ _ _ (by simp)]; exact h.1.2.2
theorem At3w.put1 {w : World} {R : Nat} {f b v : Int} (h : At3w w R f b v) (x : Int) : At3w (w.setCell ⟨R, 1, none⟩ (.int .i64 x)) R f x v := by
  refine ⟨⟨?_, World.cell?_setCell_same' _ _ _ (by rw [h.1.2.1]; rfl), ?_⟩, by rw [World.frozen?_setCell]; exact h.2.1, by rw [World.frozen?_setCell]; exact h.2.2.1, by rw [World.frozen?_setCell]; exact h.2.2.2⟩
  · rw [World.cell?_setCell_other _ _ _ _ (by simp)]; exact h.1.1
  · rw [World.cell?_setCell_other _ _ _ _ (by simp)]; exact h.1.2.2
theorem At3w.put2 {w : World} {R : Nat} {f b v : Int} (h : At3w w R f b v) (x : Int) : At3w (w.setCell ⟨R, 2, none⟩ (.int .i64 x)) R f b x := by
  refine ⟨⟨?_, ?_, World.cell?_setCell_same' _ _ _ (by rw [h.1.2.2]; rfl)⟩, by rw [World.frozen?_setCell]; exact h.2.1, by rw [World.frozen?_setCell]; exact h.2.2.1, by rw [World.frozen?_setCell]; exact h.2.2.2⟩
  · rw [World.cell?_setCell_other _ _ _ _ (by simp)]; exact h.1.1
  · rw [World.cell?_setCell_other _ _ _ _ (by simp)]; exact h.1.2.1

set_option maxHeartbeats 400000 in
theorem toE_any (f b v : Int) (w : World) :
    Calls Try.prog 27 #[.agg #[.int .i64 f, .int .i64 b, .int .i64 v]] w fun e w' => e = .returned (.agg #[.int .i64 f, .int .i64 b, .int .i64 v]) ∧ Below w.heap.size w w' := by
  have hX := ((At3w.new w f b v 32).alloc (.cells #[.int .i64 0, .int .i64 0, .int .i64 0] 37)).alloc (.cells #[.int .i64 0, .int .i64 0, .int .i64 0] 37)
  have hR := (At3w.new (w.alloc (.cells #[.int .i64 f, .int .i64 b, .int .i64 v] 32)) 0 0 0 37).alloc (.cells #[.int .i64 0, .int .i64 0, .int .i64 0] 37)
  have hO := At3w.new ((w.alloc (.cells #[.int .i64 f, .int .i64 b, .int .i64 v] 32)).alloc (.cells #[.int .i64 0, .int .i64 0, .int .i64 0] 37)) 0 0 0 37
  have hB := ((Below.refl w.heap.size w).alloc (Nat.le_refl _) (.cells #[.int .i64 f, .int .i64 b, .int .i64 v] 32)).alloc (by simp) (.cells #[.int .i64 0, .int .i64 0, .int .i64 0] 37) |>.alloc (by simp; omega) (.cells #[.int .i64 0, .int .i64 0, .int .i64 0] 37)
  simp only [World.size_alloc] at hR hO
  have HH := Lib.hid (And.intro hX (And.intro hR (And.intro hO hB)))
  clear hX hR hO hB
  go_enter Try.func27, Try.ntmps27
  go_wp2_with fail
  generalize ((w.alloc (.cells #[.int .i64 f, .int .i64 b, .int .i64 v] 32)).alloc (.cells #[.int .i64 0, .int .i64 0, .int .i64 0] 37)).alloc (.cells #[.int .i64 0, .int .i64 0, .int .i64 0] 37) = w0 at *
  refine (to_any f b _).mono ?_
  rintro e w1 ⟨rfl, hb1⟩
  obtain ⟨hX, hR, hO, hB⟩ := HH.out
  replace hX := hX.below hb1
  replace hR := hR.below hb1
  replace hO := hO.below hb1
  have hB1 := next hB hb1
  have hO2 := ((hO.put0 f).put1 b).put2 v
  have hR2 := (((((hR.far ⟨w.heap.size + 1 + 1, 0, none⟩ (.int .i64 f) (by simp)).far ⟨w.heap.size + 1 + 1, 1, none⟩ (.int .i64 b) (by simp)).far ⟨w.heap.size + 1 + 1, 2, none⟩ (.int .i64 v) (by simp)).put0 f).put1 b).put2 v
  have hB2 := (((((hB1.setCell (p := ⟨w.heap.size + 1 + 1, 0, none⟩) (by simp; omega) (.int .i64 f)).setCell (p := ⟨w.heap.size + 1 + 1, 1, none⟩) (by simp; omega) (.int .i64 b)).setCell (p := ⟨w.heap.size + 1 + 1, 2, none⟩) (by simp; omega) (.int .i64 v)).setCell (p := ⟨w.heap.size + 1, 0, none⟩) (by simp) (.int .i64 f)).setCell (p := ⟨w.heap.size + 1, 1, none⟩) (by simp) (.int .i64 b)).setCell (p := ⟨w.heap.size + 1, 2, none⟩) (by simp) (.int .i64 v)
  have HZ := Lib.hid (And.intro hR2 hB2)
  obtain ⟨⟨x0, x1, x2⟩, _⟩ := hX
  obtain ⟨⟨r0, r1, r2⟩, rf0, rf1, rf2⟩ := hR
  obtain ⟨⟨o0, o1, o2⟩, of0, of1, of2⟩ := hO
  clear hb1 hB hB1 hO2 hR2 hB2 HH
  go_wp2
  obtain ⟨⟨⟨d0, d1, d2⟩, _⟩, hB2⟩ := HZ.out
  exact bodyPost_ret (v := .agg #[.int .i64 f, .int .i64 b, .int .i64 v]) (by simp [results, Try.results27, go_sem, d0, d1, d2]) rfl ⟨rfl, hB2⟩

theorem Owns.tabN {w : World} {R : Nat} {v : Value} {T : List E} (h : Owns w R v T) : ∃ a cap, v = .slice a T.length cap ∧ TabA w a T ∧ (a = none → cap = 0) := by
  obtain ⟨_, h2⟩ := id h
  rcases h2 with ⟨rfl, h0⟩ | ⟨g, cap, cur, rfl, r⟩
  · exact ⟨none, 0, by rw [h0], .inl (List.eq_nil_of_length_eq_zero h0), fun _ => rfl⟩
  · obtain ⟨a, c, e, t⟩ := Owns.tab h
    exact ⟨a, c, e, t, fun ha => by subst ha; cases e⟩

theorem cellsT_cons (a : E) (l : List E) : cellsT (a :: l) = .int .i64 a.1 :: .int .i64 a.2.1 :: .int .i64 a.2.2 :: cellsT l := rfl
theorem cellsT_set0 (x : Int) : ∀ (L : List E) (k : Nat) (y : E), L[k]? = some y → (cellsT L).set (k * 3) (.int .i64 x) = cellsT (L.set k (x, y.2.1, y.2.2))
  | [], _, _, h => by simp at h
  | a :: l, 0, y, h => by simp at h; subst h; rfl
  | a :: l, k + 1, y, h => by
    have ih := cellsT_set0 x l k y (by simpa using h)
    rw [List.set_cons_succ, cellsT_cons, cellsT_cons, ← ih, show (k + 1) * 3 = k * 3 + 1 + 1 + 1 by omega]; rfl
theorem cellsT_set1 (x : Int) : ∀ (L : List E) (k : Nat) (y : E), L[k]? = some y → (cellsT L).set (k * 3 + 1) (.int .i64 x) = cellsT (L.set k (y.1, x, y.2.2))
  | [], _, _, h => by simp at h
  | a :: l, 0, y, h => by simp at h; subst h; rfl
  | a :: l, k + 1, y, h => by
    have ih := cellsT_set1 x l k y (by simpa using h)
    rw [List.set_cons_succ, cellsT_cons, cellsT_cons, ← ih, show (k + 1) * 3 + 1 = k * 3 + 1 + 1 + 1 + 1 by omega]; rfl
theorem cellsT_set2 (x : Int) : ∀ (L : List E) (k : Nat) (y : E), L[k]? = some y → (cellsT L).set (k * 3 + 2) (.int .i64 x) = cellsT (L.set k (y.1, y.2.1, x))
  | [], _, _, h => by simp at h
  | a :: l, 0, y, h => by simp at h; subst h; rfl
  | a :: l, k + 1, y, h => by
    have ih := cellsT_set2 x l k y (by simpa using h)
    rw [List.set_cons_succ, cellsT_cons, cellsT_cons, ← ih, show (k + 1) * 3 + 2 = k * 3 + 2 + 1 + 1 + 1 by omega]; rfl
/-- an entry of an own slice is written over -/
theorem Owns.put {w : World} {R g cap : Nat} {L : List E} {k : Nat} (h : Owns w R (.slice (some ⟨g, 0, none⟩) L.length cap) L) (hk : k < L.length) (x y z : Int) :
    Owns (((w.setCell ⟨g, k * 3, none⟩ (.int .i64 x)).setCell ⟨g, k * 3 + 1, none⟩ (.int .i64 y)).setCell ⟨g, k * 3 + 2, none⟩ (.int .i64 z)) R (.slice (some ⟨g, 0, none⟩) L.length cap) (L.set k (x, y, z)) ∧
    w.grownBy (((w.setCell ⟨g, k * 3, none⟩ (.int .i64 x)).setCell ⟨g, k * 3 + 1, none⟩ (.int .i64 y)).setCell ⟨g, k * 3 + 2, none⟩ (.int .i64 z)) (some g) := by
  have e0 : L[k]? = some L[k] := List.getElem?_eq_getElem hk
  have h1 := World.ownsRow.stored h (k * 3) (.int .i64 x)
  rw [cellsT_set0 x L k _ e0] at h1
  have h2 := World.ownsRow.stored h1.1 (k * 3 + 1) (.int .i64 y)
  rw [cellsT_set1 y _ k (x, L[k].2.1, L[k].2.2) (by simp [hk])] at h2
  have h3 := World.ownsRow.stored h2.1 (k * 3 + 2) (.int .i64 z)
  rw [cellsT_set2 z _ k (x, y, L[k].2.2) (by simp [hk])] at h3
  simp only [List.set_set] at h3
  refine ⟨?_, only_on (only_on h1.2 h2.2) h3.2⟩
  have := h3.1
  simpa [Owns] using this
theorem Owns.cells3 {w : World} {R g cap : Nat} {L : List E} {k : Nat} {e : E} (h : Owns w R (.slice (some ⟨g, 0, none⟩) L.length cap) L) (hk : L[k]? = some e) :
    w.cell? ⟨g, k * 3, none⟩ = some (.int .i64 e.1) ∧ w.cell? ⟨g, k * 3 + 1, none⟩ = some (.int .i64 e.2.1) ∧ w.cell? ⟨g, k * 3 + 2, none⟩ = some (.int .i64 e.2.2) := by
  obtain ⟨h1, h2, h3⟩ := cellsT_at hk
  obtain ⟨hi, _⟩ := List.getElem?_eq_some_iff.1 hk
  exact ⟨(h.cellAt (k * 3) (by omega)).trans h1, (h.cellAt (k * 3 + 1) (by omega)).trans h2, (h.cellAt (k * 3 + 2) (by omega)).trans h3⟩

theorem cellsT_rep : ∀ n : Nat, cellsT (List.replicate n (0, 0, 0)) = List.replicate (n * 3) (.int .i64 0)
  | 0 => rfl
  | n + 1 => by
    rw [List.replicate_succ, cellsT_cons, cellsT_rep n, show (n + 1) * 3 = n * 3 + 1 + 1 + 1 by omega]
    rfl
theorem madeT (n : Nat) : (madeCells #[Value.int .i64 0, .int .i64 0, .int .i64 0] (n * 3)).toList = cellsT (List.replicate n (0, 0, 0)) := by
  rw [cellsT_rep]
  refine List.eq_replicate_iff.2 ⟨by simp [size_madeCells], fun x hx => ?_⟩
  simp only [madeCells, Array.toList_map, List.mem_map] at hx
  obtain ⟨i, _, rfl⟩ := hx
  have h3 : i % 3 = 0 ∨ i % 3 = 1 ∨ i % 3 = 2 := by omega
  show (#[Value.int .i64 0, .int .i64 0, .int .i64 0] : Array Value)[i % 3]! = _
  rcases h3 with h | h | h <;> rw [h] <;> rfl

set_option maxRecDepth 100000 in
set_option maxHeartbeats 2000000 in
theorem toS_any (a : Option Addr) (cap : Nat) (T : List E) (w : World) (hT : TabA w a T) (hl : T.length ≤ 1048576) :
    Calls Try.prog 23 #[.slice a T.length cap] w (Own1 w T) := by
  have HT := Lib.hid hT
  obtain ⟨i0, hi, hz0, hz1, hz2⟩ := info_parts infoE
  clear hT
  go_enter Try.func23, Try.ntmps23
  go_wp2_with (first | (refine wpList_make_full _ rfl (.tmp 6) (.tmp 6) 25 rfl w.heap.size 37 i0 (.agg #[.int .i64 0, .int .i64 0, .int .i64 0]) 3 Try.underlying25 hi hz0 hz1 .i64 .i64 _ _ T.length rfl rfl rfl rfl (by rw [hz2]; omega) (by unfold maxLen; omega) (Nat.le_refl _) ?_; intro w1 own1 grow1))
  have own1' := own1
  rw [show (Value.agg #[.int .i64 0, .int .i64 0, .int .i64 0]).cells = #[.int .i64 0, .int .i64 0, .int .i64 0] from rfl, madeT] at own1'
  have I0 : Hid (Owns w1 w.heap.size (.slice (some ⟨w.heap.size, 0, none⟩) (List.replicate T.length ((0, 0, 0) : E)).length T.length) (List.replicate T.length (0, 0, 0)) ∧ Below w.heap.size w w1) :=
    Lib.hid ⟨by rw [Owns, List.length_replicate]; exact own1', (Below.refl _ _).grown grow1 (Nat.le_refl _) (fun _ h => by cases h)⟩
  clear own1 own1' grow1
  go_loopw [4] (fun i wr => ∃ (k : Nat) (L : List E), k ≤ T.length ∧ i = .int .i64 k ∧ Hid (L.length = T.length) ∧ (∀ j, j < k → L[j]? = T[j]?) ∧ Owns wr w.heap.size (.slice (some ⟨w.heap.size, 0, none⟩) L.length T.length) L ∧ Below w.heap.size w wr) (fun i _ => T.length - (intOf i).toNat)
  case atStart => exact ⟨0, _, Nat.zero_le _, rfl, Lib.hid (by simp), fun _ h => by omega, I0.out.1, I0.out.2⟩
  case round =>
    obtain ⟨k, L, hk, rfl, hL, hj, ho, hb⟩ := hrel
    clear I0
    by_cases hlt : k < T.length
    · obtain ⟨bb, off, g, c, u, rfl, hTk, c0, c1, c2⟩ := (HT.out.below hb).at hlt
      have HO := Lib.hid ho
      have HB := Lib.hid hb
      have HJ := Lib.hid hj
      have HK := Lib.hid hTk
      have j0 : (0 : Int) ≤ (k : Int) := by omega
      have j1 : (k : Int) < (T.length : Int) := by omega
      clear ho hb hj hTk
      go_wp2_with fail
      refine (toE_any g c u _).mono ?_
      rintro e w2 ⟨rfl, hb2⟩
      have ho2 := owns_later HO.out hb2
      have hkL : k < L.length := by rw [hL.out]; exact hlt
      have HP := Lib.hid (Owns.put ho2 hkL g c u)
      obtain ⟨d0, d1, d2⟩ := Owns.cells3 ho2 (List.getElem?_eq_getElem hkL)
      have f0 := World.ownsRow.frozenAt ho2 (k * 3)
      have f1 := World.ownsRow.frozenAt ho2 (k * 3 + 1)
      have f2 := World.ownsRow.frozenAt ho2 (k * 3 + 2)
      have HB2 := Lib.hid (next HB.out hb2)
      clear ho2 hb2 c0 c1 c2 HO HB
      go_wp2_with fail
      go_roundw
      case rel =>
        refine ⟨k + 1, L.set k (g, c, u), by omega, by go_num, Lib.hid (by rw [List.length_set]; exact hL.out), fun j hj => ?_, by rw [List.length_set]; exact HP.out.1, HB2.out.grown HP.out.2 HB2.out.size (fun _ e => by cases e; exact Nat.le_refl _)⟩
        by_cases e : j = k
        · subst e; rw [List.getElem?_set_self hkL]; exact HK.out.symm
        · rw [List.getElem?_set_ne (fun h => e h.symm)]; exact HJ.out j (by omega)
      case measure => simp [intOf]; omega
    · obtain rfl : k = T.length := by omega
      have hLT : L = T := List.ext_getElem? fun j => by
        by_cases h : j < T.length
        · exact hj j h
        · rw [List.getElem?_eq_none (by rw [hL.out]; omega), List.getElem?_eq_none (by omega)]
      have R := Lib.hid (And.intro ho hb)
      clear ho hb hj
      rw [hLT] at R
      clear hLT
      go_wp2_with fail
      go_ret
      exact ⟨_, rfl, R.out.1, R.out.2⟩
end Go.Proofs.Ytmbcfdlemapppaa
