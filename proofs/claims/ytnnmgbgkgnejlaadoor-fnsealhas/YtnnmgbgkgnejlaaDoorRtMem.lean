/-
  Routes in memory: a struct of five cells in a block; the program's isMark, marksOk, (Route).ok, RouteOk.
-/
import Derived.Test.YtnnmgbgkgnejlaaDoorJ2
import Derived.Test.YtnnmgbgkgnejlaaDoorJ1
namespace Go.Proofs.YtnnmgbgkgnejlaaDoor
open Go.RowKit
set_option linter.unusedSimpArgs false
set_option linter.unusedVariables false

/-- five values in a block -/
def At5 (w : World) (R : Nat) (x0 x1 x2 x3 x4 : Value) : Prop :=
  (w.cell? ⟨R, 0, none⟩ = some x0 ∧ w.cell? ⟨R, 1, none⟩ = some x1 ∧ w.cell? ⟨R, 2, none⟩ = some x2 ∧ w.cell? ⟨R, 3, none⟩ = some x3 ∧ w.cell? ⟨R, 4, none⟩ = some x4) ∧
  w.frozen? ⟨R, 0, none⟩ = false ∧ w.frozen? ⟨R, 1, none⟩ = false ∧ w.frozen? ⟨R, 2, none⟩ = false ∧ w.frozen? ⟨R, 3, none⟩ = false ∧ w.frozen? ⟨R, 4, none⟩ = false
section
variable {w w' : World} {R : Nat} {x0 x1 x2 x3 x4 : Value}
theorem At5.new (w : World) (x0 x1 x2 x3 x4 : Value) (t : TypeId) : At5 (w.alloc (.cells #[x0, x1, x2, x3, x4] t)) w.heap.size x0 x1 x2 x3 x4 := ⟨⟨by simp, by simp, by simp, by simp, by simp⟩, by simp, by simp, by simp, by simp, by simp⟩
theorem At5.lt (h : At5 w R x0 x1 x2 x3 x4) : R < w.heap.size := World.block_lt_of_cell? w _ h.1.1
theorem At5.below (h : At5 w R x0 x1 x2 x3 x4) (k : Below w.heap.size w w') : At5 w' R x0 x1 x2 x3 x4 :=
  ⟨⟨cell_later k h.1.1, cell_later k h.1.2.1, cell_later k h.1.2.2.1, cell_later k h.1.2.2.2.1, cell_later k h.1.2.2.2.2⟩,
   by rw [k.frozen (p := ⟨R, 0, none⟩) h.lt]; exact h.2.1, by rw [k.frozen (p := ⟨R, 1, none⟩) h.lt]; exact h.2.2.1, by rw [k.frozen (p := ⟨R, 2, none⟩) h.lt]; exact h.2.2.2.1, by rw [k.frozen (p := ⟨R, 3, none⟩) h.lt]; exact h.2.2.2.2.1, by rw [k.frozen (p := ⟨R, 4, none⟩) h.lt]; exact h.2.2.2.2.2⟩
theorem At5.alloc (h : At5 w R x0 x1 x2 x3 x4) (o : Obj) : At5 (w.alloc o) R x0 x1 x2 x3 x4 := h.below ((Below.refl _ _).alloc (Nat.le_refl _) o)
theorem At5.drew (h : At5 w R x0 x1 x2 x3 x4) : At5 w.drew R x0 x1 x2 x3 x4 := h
theorem At5.far (h : At5 w R x0 x1 x2 x3 x4) (q : Addr) (v : Value) (hne : q.block ≠ R) : At5 (w.setCell q v) R x0 x1 x2 x3 x4 := by
  obtain ⟨⟨h0, h1, h2, h3, h4⟩, k0, k1, k2, k3, k4⟩ := h
  refine ⟨⟨?_, ?_, ?_, ?_, ?_⟩, ?_, ?_, ?_, ?_, ?_⟩ <;> first | (rw [World.cell?_setCell_far _ _ _ _ hne]; assumption) | (rw [World.frozen?_setCell]; assumption)
theorem At5.only {row : Option Nat} (h : At5 w R x0 x1 x2 x3 x4) (hg : w.grownBy w' row) (hr : some R ≠ row) : At5 w' R x0 x1 x2 x3 x4 :=
  ⟨⟨hg.cell h.1.1 hr, hg.cell h.1.2.1 hr, hg.cell h.1.2.2.1 hr, hg.cell h.1.2.2.2.1 hr, hg.cell h.1.2.2.2.2 hr⟩,
   (World.frozen?_of_block (w := w) (a := ⟨R, 0, none⟩) (hg.block R h.lt hr)).trans h.2.1, (World.frozen?_of_block (w := w) (a := ⟨R, 1, none⟩) (hg.block R h.lt hr)).trans h.2.2.1, (World.frozen?_of_block (w := w) (a := ⟨R, 2, none⟩) (hg.block R h.lt hr)).trans h.2.2.2.1,
   (World.frozen?_of_block (w := w) (a := ⟨R, 3, none⟩) (hg.block R h.lt hr)).trans h.2.2.2.2.1, (World.frozen?_of_block (w := w) (a := ⟨R, 4, none⟩) (hg.block R h.lt hr)).trans h.2.2.2.2.2⟩
theorem At5.put2 (h : At5 w R x0 x1 x2 x3 x4) (v : Value) : At5 (w.setCell ⟨R, 2, none⟩ v) R x0 x1 v x3 x4 := by
  obtain ⟨⟨h0, h1, h2, h3, h4⟩, k0, k1, k2, k3, k4⟩ := h
  refine ⟨⟨?_, ?_, World.cell?_setCell_same' _ _ _ (by rw [h2]; rfl), ?_, ?_⟩, ?_, ?_, ?_, ?_, ?_⟩ <;> first | (rw [World.cell?_setCell_other _ _ _ _ (by simp)]; assumption) | (rw [World.frozen?_setCell]; assumption)
theorem At5.put4 (h : At5 w R x0 x1 x2 x3 x4) (v : Value) : At5 (w.setCell ⟨R, 4, none⟩ v) R x0 x1 x2 x3 v := by
  obtain ⟨⟨h0, h1, h2, h3, h4⟩, k0, k1, k2, k3, k4⟩ := h
  refine ⟨⟨?_, ?_, ?_, ?_, World.cell?_setCell_same' _ _ _ (by rw [h4]; rfl)⟩, ?_, ?_, ?_, ?_, ?_⟩ <;> first | (rw [World.cell?_setCell_other _ _ _ _ (by simp)]; assumption) | (rw [World.frozen?_setCell]; assumption)
theorem At5.put3 (h : At5 w R x0 x1 x2 x3 x4) (v : Value) : At5 (w.setCell ⟨R, 3, none⟩ v) R x0 x1 x2 v x4 := by
  obtain ⟨⟨h0, h1, h2, h3, h4⟩, k0, k1, k2, k3, k4⟩ := h
  refine ⟨⟨?_, ?_, ?_, World.cell?_setCell_same' _ _ _ (by rw [h3]; rfl), ?_⟩, ?_, ?_, ?_, ?_, ?_⟩ <;> first | (rw [World.cell?_setCell_other _ _ _ _ (by simp)]; assumption) | (rw [World.frozen?_setCell]; assumption)
theorem At5.put1 (h : At5 w R x0 x1 x2 x3 x4) (v : Value) : At5 (w.setCell ⟨R, 1, none⟩ v) R x0 v x2 x3 x4 := by
  obtain ⟨⟨h0, h1, h2, h3, h4⟩, k0, k1, k2, k3, k4⟩ := h
  refine ⟨⟨?_, World.cell?_setCell_same' _ _ _ (by rw [h1]; rfl), ?_, ?_, ?_⟩, ?_, ?_, ?_, ?_, ?_⟩ <;> first | (rw [World.cell?_setCell_other _ _ _ _ (by simp)]; assumption) | (rw [World.frozen?_setCell]; assumption)
theorem At5.put0 (h : At5 w R x0 x1 x2 x3 x4) (v : Value) : At5 (w.setCell ⟨R, 0, none⟩ v) R v x1 x2 x3 x4 := by
  obtain ⟨⟨h0, h1, h2, h3, h4⟩, k0, k1, k2, k3, k4⟩ := h
  refine ⟨⟨World.cell?_setCell_same' _ _ _ (by rw [h0]; rfl), ?_, ?_, ?_, ?_⟩, ?_, ?_, ?_, ?_, ?_⟩ <;> first | (rw [World.cell?_setCell_other _ _ _ _ (by simp)]; assumption) | (rw [World.frozen?_setCell]; assumption)
/-- a struct of five cells is stored -/
def set5 (w : World) (R : Nat) (y0 y1 y2 y3 y4 : Value) : World := ((((w.setCell ⟨R, 0, none⟩ y0).setCell ⟨R, 1, none⟩ y1).setCell ⟨R, 2, none⟩ y2).setCell ⟨R, 3, none⟩ y3).setCell ⟨R, 4, none⟩ y4
theorem At5.put (h : At5 w R x0 x1 x2 x3 x4) (y0 y1 y2 y3 y4 : Value) : At5 (set5 w R y0 y1 y2 y3 y4) R y0 y1 y2 y3 y4 := ((((h.put0 y0).put1 y1).put2 y2).put3 y3).put4 y4
theorem At5.far5 (h : At5 w R x0 x1 x2 x3 x4) {Q : Nat} (hne : Q ≠ R) (y0 y1 y2 y3 y4 : Value) : At5 (set5 w Q y0 y1 y2 y3 y4) R x0 x1 x2 x3 x4 :=
  ((((h.far ⟨Q, 0, none⟩ y0 hne).far ⟨Q, 1, none⟩ y1 hne).far ⟨Q, 2, none⟩ y2 hne).far ⟨Q, 3, none⟩ y3 hne).far ⟨Q, 4, none⟩ y4 hne
theorem below_set5 {n : Nat} {a : World} (h : Below n a w) (hR : n ≤ R) (y0 y1 y2 y3 y4 : Value) : Below n a (set5 w R y0 y1 y2 y3 y4) :=
  ((((h.setCell (p := ⟨R, 0, none⟩) hR y0).setCell (p := ⟨R, 1, none⟩) hR y1).setCell (p := ⟨R, 2, none⟩) hR y2).setCell (p := ⟨R, 3, none⟩) hR y3).setCell (p := ⟨R, 4, none⟩) hR y4
end

/-- the slices of a route, as they lie in memory -/
def RtM (w : World) (a : Option Addr) (c : Nat) (P : List Int) (d : Option Addr) (e : Nat) (M : List Int) : Prop :=
  (IntA w a P ∧ IntA w d M) ∧ P.length ≤ c ∧ M.length ≤ e ∧ P.length ≤ 2000000 ∧ M.length ≤ 2000000
theorem RtM.below {w w' : World} {a d : Option Addr} {c e : Nat} {P M : List Int} (h : RtM w a c P d e M) (k : Below w.heap.size w w') : RtM w' a c P d e M := ⟨⟨h.1.1.below k, h.1.2.below k⟩, h.2⟩
theorem RtM.alloc {w : World} {a d : Option Addr} {c e : Nat} {P M : List Int} (h : RtM w a c P d e M) (o : Obj) : RtM (w.alloc o) a c P d e M := ⟨⟨h.1.1.alloc o, h.1.2.alloc o⟩, h.2⟩
theorem RtM.drew {w : World} {a d : Option Addr} {c e : Nat} {P M : List Int} (h : RtM w a c P d e M) : RtM w.drew a c P d e M := h

set_option maxHeartbeats 400000 in
theorem imark_is {h : Int} {x : Bool} (k : isM h = x) (w : World) :
    Calls Tryd.prog 107 #[.int .i64 h] w fun e w' => e = .returned (.bool x) ∧ w = w' := by
  by_cases h1 : 1 ≤ h
  · have hr := Lib.hid (show decide (h ≤ 9) = x by rw [← k]; simp [isM, h1])
    clear k
    go_enter Tryd.func107, Tryd.ntmps107
    go_wp2
    go_ret
    exact ⟨ret_bool hr.out, rfl⟩
  · have hr := Lib.hid (show false = x by rw [← k]; simp [isM, h1])
    clear k
    go_enter Tryd.func107, Tryd.ntmps107
    go_wp2
    go_ret
    exact ⟨ret_bool hr.out, rfl⟩

theorem marks_bad {L : List Int} {k : Nat} {x : Int} (hx : L[k]? = some x) (h : isM x = false) : mkOk L = false := mkOk_no fun hp => isM_no h (hp.1 x (List.mem_of_getElem? hx))
theorem marks_bad2 {L : List Int} {k : Nat} {x y : Int} (hy : L[k]? = some y) (hx : L[k + 1]? = some x) (h : x ≤ y) : mkOk L = false := mkOk_no fun hp => by
  obtain ⟨h1, e1⟩ := List.getElem?_eq_some_iff.1 hy
  obtain ⟨h2, e2⟩ := List.getElem?_eq_some_iff.1 hx
  have := List.pairwise_iff_getElem.1 hp.2 k (k + 1) h1 h2 (by omega)
  omega
theorem marks_next {L : List Int} {k : Nat} {x : Int} (hx : L[k]? = some x) (hp : Marks (L.take k)) (h1 : isM x = true) (h2 : ∀ y, k ≠ 0 → L[k - 1]? = some y → y < x) : Marks (L.take (k + 1)) := by
  rw [List.take_add_one, hx]
  refine ⟨fun m hm => ?_, ?_⟩
  · rcases List.mem_append.1 hm with h | h
    · exact hp.1 m h
    · simp at h; subst h; exact (isM_iff m).1 h1
  · rw [List.pairwise_append]
    refine ⟨hp.2, by simp, fun a ha b hb => ?_⟩
    simp at hb; subst hb
    by_cases hk : k = 0
    · subst hk; simp at ha
    · obtain ⟨i, hi⟩ := List.mem_iff_getElem?.1 ha
      have hik : i < k := by
        have := (List.getElem?_eq_some_iff.1 hi).1
        rw [List.length_take] at this; omega
      have hkl := (List.getElem?_eq_some_iff.1 hx).1
      have ey : L[k - 1]? = some (L[k - 1]'(by omega)) := List.getElem?_eq_getElem (by omega)
      have hy := h2 _ hk ey
      by_cases e : i = k - 1
      · subst e
        rw [List.getElem?_take, if_pos hik, ey] at hi
        cases hi; exact hy
      · have hl : (L.take k).length = k := by rw [List.length_take]; omega
        have := List.pairwise_iff_getElem.1 hp.2 i (k - 1) (by omega) (by omega) (by omega)
        obtain ⟨_, e1⟩ := List.getElem?_eq_some_iff.1 hi
        rw [e1, List.getElem_take] at this
        omega

set_option maxHeartbeats 2000000 in
theorem imarks_is {L : List Int} {x : Bool} (hx : mkOk L = x) (a : Option Addr) (cap n : Nat) (w : World) (hn : n = L.length) (hL : IntA w a L) (hl : L.length ≤ 2000000) :
    Calls Tryd.prog 92 #[.slice a n cap] w fun e w' => e = .returned (.bool x) ∧ w = w' := by
  subst hn
  have HX := Lib.hid hx
  clear hx
  go_enter Tryd.func92, Tryd.ntmps92
  go_wp2_with fail
  go_loopw [7] (fun i wr => ∃ k : Nat, k ≤ L.length ∧ i = .int .i64 k ∧ Hid (Marks (L.take k)) ∧ w = wr) (fun i _ => L.length - (intOf i).toNat)
  case atStart => exact ⟨0, Nat.zero_le _, rfl, Lib.hid (by simpa using Marks.nil), rfl⟩
  case round =>
    obtain ⟨k, hk, rfl, hn, rfl⟩ := hrel
    by_cases hlt : k < L.length
    · obtain ⟨b1, off1, y, rfl, hLk, c0⟩ := hL.at hlt
      have i0 : (0 : Int) ≤ (k : Int) := by omega
      have i1 : (k : Int) < (L.length : Int) := by omega
      cases hm : isM y with
      | false =>
        have HZ := Lib.hid (show false = x by rw [← HX.out]; exact (marks_bad hLk hm).symm)
        clear HX hn hLk hL
        go_wp2_with fail
        refine (imark_is hm _).mono ?_
        rintro e w2 ⟨rfl, rfl⟩
        go_wp2_with fail
        go_ret
        exact ⟨ret_bool HZ.out, rfl⟩
      | true =>
        by_cases hk0 : k = 0
        · subst hk0
          simp only [Nat.add_zero] at c0
          have HN : Hid (Marks (L.take (0 + 1))) := Lib.hid (marks_next hLk hn.out hm (fun y h => (h rfl).elim))
          clear hn hLk hL
          go_wp2_with fail
          refine (imark_is hm _).mono ?_
          rintro e w2 ⟨rfl, rfl⟩
          go_wp2_with fail
          go_roundw
          case rel => exact ⟨0 + 1, by omega, by go_num, HN, trivial⟩
          case measure => simp [intOf]; omega
        · obtain ⟨j, rfl⟩ : ∃ j, k = j + 1 := ⟨k - 1, by omega⟩
          obtain ⟨b2, off2, z, eb, hLj, c1⟩ := hL.at (show j < L.length by omega)
          obtain ⟨rfl, rfl⟩ : b1 = b2 ∧ off1 = off2 := by simpa using eb
          have i2 : (0 : Int) ≤ (j : Int) := by omega
          have i3 : (j : Int) < (L.length : Int) := by omega
          have i4 : (0 : Int) < ((j + 1 : Nat) : Int) := by omega
          have i5 : ((j + 1 : Nat) : Int) - 1 = (j : Int) := by omega
          by_cases hzy : y ≤ z
          · have HZ := Lib.hid (show false = x by rw [← HX.out]; exact (marks_bad2 hLj hLk hzy).symm)
            clear HX hn hLk hL hLj eb
            go_wp2_with fail
            refine (imark_is hm _).mono ?_
            rintro e w2 ⟨rfl, rfl⟩
            go_wp2_with fail
            go_ret
            exact ⟨ret_bool HZ.out, rfl⟩
          · have HN : Hid (Marks (L.take (j + 1 + 1))) := Lib.hid (marks_next hLk hn.out hm (fun q _ hq => by
              have e : j + 1 - 1 = j := by omega
              rw [e, hLj] at hq
              cases hq; omega))
            clear hn hLk hL hLj eb
            go_wp2_with fail
            refine (imark_is hm _).mono ?_
            rintro e w2 ⟨rfl, rfl⟩
            go_wp2_with fail
            go_roundw
            case rel => exact ⟨j + 1 + 1, by omega, by go_num, HN, trivial⟩
            case measure => simp [intOf]; omega
    · obtain rfl : k = L.length := by omega
      have HZ := Lib.hid (show true = x by
        have := hn.out
        rw [List.take_length] at this
        rw [← HX.out]; exact ((mkOk_iff L).2 this).symm)
      clear hn hL HX
      go_wp2_with fail
      go_ret
      exact ⟨ret_bool HZ.out, rfl⟩

theorem rtOk_nil {f b l : Int} {M : List Int} : rtOk (f, b, [], l, M) = false := by simp [rtOk]
theorem rtOk_like {f b l : Int} {P M : List Int} (h : ¬ (0 ≤ l ∧ l ≤ 9)) : rtOk (f, b, P, l, M) = false := by simp [rtOk, h]
theorem rtOk_rest {f b l : Int} {P M : List Int} (hP : P ≠ []) (h : 0 ≤ l ∧ l ≤ 9) : rtOk (f, b, P, l, M) = (okB f b && pOk P && mkOk M) := by simp [rtOk, h, hP]

set_option maxHeartbeats 1000000 in
theorem riok_is (f b : Int) (a : Option Addr) (c : Nat) (P : List Int) (l : Int) (d : Option Addr) (e : Nat) (M : List Int) {x : Bool} (k : rtOk (f, b, P, l, M) = x) (w : World) (p : Addr) (hm : RtM w a c P d e M) (hE : EV w p) :
    Calls Tryd.prog 54 #[.agg #[.int .i64 f, .int .i64 b, .slice a P.length c, .int .i64 l, .slice d M.length e]] w fun e w' => e = .returned (.bool x) ∧ Below w.heap.size w w' := by
  have HB := Lib.hid ((Below.refl w.heap.size w).alloc (Nat.le_refl _) (.cells #[.int .i64 f, .int .i64 b, .slice a P.length c, .int .i64 l, .slice d M.length e] 27))
  have HM := Lib.hid (hm.alloc (.cells #[.int .i64 f, .int .i64 b, .slice a P.length c, .int .i64 l, .slice d M.length e] 27))
  have HE := Lib.hid (hE.alloc (.cells #[.int .i64 f, .int .i64 b, .slice a P.length c, .int .i64 l, .slice d M.length e] 27))
  have HA := Lib.hid (At5.new w (.int .i64 f) (.int .i64 b) (.slice a P.length c) (.int .i64 l) (.slice d M.length e) 27)
  clear hm hE
  by_cases hP : P = []
  · subst hP
    rw [rtOk_nil] at k
    subst k
    go_enter Tryd.func54, Tryd.ntmps54
    go_wp2_with fail
    go_ret
    exact ⟨rfl, HB.out⟩
  · have hPl : ((P.length : Int) == 0) = false := by simpa using hP
    by_cases hl0 : l < 0
    · rw [rtOk_like (by omega)] at k
      subst k
      go_enter Tryd.func54, Tryd.ntmps54
      go_wp2_with fail
      go_ret
      exact ⟨rfl, HB.out⟩
    · by_cases hl9 : 9 < l
      · rw [rtOk_like (by omega)] at k
        subst k
        go_enter Tryd.func54, Tryd.ntmps54
        go_wp2_with fail
        go_ret
        exact ⟨rfl, HB.out⟩
      · rw [rtOk_rest hP (by omega)] at k
        have KX := Lib.hid k
        clear k hP
        go_enter Tryd.func54, Tryd.ntmps54
        go_wp2_with fail
        cases ho : okB f b with
        | false =>
          have HX := Lib.hid (show false = x by rw [← KX.out, ho]; rfl)
          refine (iok_is ho _).mono ?_
          rintro e w1 ⟨rfl, b1⟩
          have R := Lib.hid (next HB.out b1)
          clear b1
          go_wp2_with fail
          go_ret
          exact ⟨ret_bool HX.out, R.out⟩
        | true =>
          refine (iok_is ho _).mono ?_
          rintro e w1 ⟨rfl, b1⟩
          have R := Lib.hid (And.intro (next HB.out b1) (And.intro (HM.out.below b1) (And.intro (HE.out.below b1) (HA.out.below b1))))
          obtain ⟨⟨q0, q1, q2, q3, q4⟩, _⟩ := HA.out.below b1
          clear b1
          go_wp2_with fail
          cases hp : pOk P with
          | false =>
            have HX := Lib.hid (show false = x by rw [← KX.out, ho, hp]; rfl)
            refine (piok_is hp a c _ _ p rfl (by have := HM.out.2.2.2.1; omega) R.out.2.1.1.1 R.out.2.2.1).mono ?_
            rintro e w2 ⟨rfl, b2⟩
            have R2 := Lib.hid (next R.out.1 b2)
            clear b2
            go_wp2_with fail
            go_ret
            exact ⟨ret_bool HX.out, R2.out⟩
          | true =>
            refine (piok_is hp a c _ _ p rfl (by have := HM.out.2.2.2.1; omega) R.out.2.1.1.1 R.out.2.2.1).mono ?_
            rintro e w2 ⟨rfl, b2⟩
            have R2 := Lib.hid (And.intro (next R.out.1 b2) (R.out.2.1.below b2))
            clear q0 q1 q2 q3 q4
            obtain ⟨⟨q0, q1, q2, q3, q4⟩, _⟩ := R.out.2.2.2.below b2
            have HX := Lib.hid (show mkOk M = x by rw [← KX.out, ho, hp]; rfl)
            clear b2
            go_wp2_with fail
            refine (imarks_is HX.out d e _ _ rfl R2.out.2.1.2 R2.out.2.2.2.2.2).mono ?_
            rintro e w3 ⟨rfl, rfl⟩
            go_wp2_with fail
            go_ret
            exact ⟨rfl, R2.out.1⟩

end Go.Proofs.YtnnmgbgkgnejlaaDoor
