/-
  Routes in a slice, and places of routes in a heap, as they lie in memory; the heap's own order.
-/
import Derived.Test.YtfjfcdifnfffbaaDoorRtCmp
import Derived.Test.YtfjfcdifnfffbaaDoorRtSl
import Derived.Handy
namespace Go.Proofs.YtfjfcdifnfffbaaDoor
open Go.RowKit
set_option linter.unusedSimpArgs false
set_option linter.unusedVariables false

/-- a route's value with its slices' places -/
structure RV where
  f : Int
  b : Int
  a : Option Addr
  c : Nat
  P : List Int
  l : Int
  d : Option Addr
  e : Nat
  M : List Int
def RV.rt (v : RV) : Rt := (v.f, v.b, v.P, v.l, v.M)
def RV.cells (v : RV) : List Value := [.int .i64 v.f, .int .i64 v.b, .slice v.a v.P.length v.c, .int .i64 v.l, .slice v.d v.M.length v.e]
def RV.m (v : RV) (w : World) : Prop := RtM w v.a v.c v.P v.d v.e v.M
def zRV : RV := ⟨0, 0, none, 0, [], 0, none, 0, []⟩
def rvAt (L : List RV) (p : Nat) : RV := L.getD p zRV
/-- a route and its place: six cells -/
def RV.six (v : RV) (p : Nat) : List Value := v.cells ++ [.int .i64 p]
def cells6 (L : List RV) (K : List Nat) : List Value := K.flatMap fun p => (rvAt L p).six p
theorem six_len (v : RV) (p : Nat) : (v.six p).length = 6 := rfl
theorem cells6_len (L : List RV) : ∀ K : List Nat, (cells6 L K).length = K.length * 6
  | [] => rfl
  | p :: K => by
    have := cells6_len L K
    simp only [cells6, List.flatMap_cons, List.length_append, six_len, List.length_cons] at this ⊢
    omega
theorem cells6_cons (L : List RV) (p : Nat) (K : List Nat) : cells6 L (p :: K) = (rvAt L p).six p ++ cells6 L K := rfl
theorem cells6_app (L : List RV) (K K' : List Nat) : cells6 L (K ++ K') = cells6 L K ++ cells6 L K' := by simp [cells6]
theorem cells6_at (L : List RV) : ∀ {K : List Nat} {k p j : Nat}, K[k]? = some p → j < 6 → (cells6 L K)[k * 6 + j]? = ((rvAt L p).six p)[j]?
  | [], k, p, j, h, _ => by simp at h
  | q :: K, 0, p, j, h, hj => by
    obtain rfl : q = p := by simpa using h
    rw [cells6_cons, Nat.zero_mul, Nat.zero_add, List.getElem?_append_left (by rw [six_len]; exact hj)]
  | q :: K, k + 1, p, j, h, hj => by
    rw [cells6_cons, List.getElem?_append_right (by rw [six_len]; omega), six_len, show (k + 1) * 6 + j - 6 = k * 6 + j by omega]
    exact cells6_at L (by simpa using h) hj
theorem cells6_set (L : List RV) (q : Nat) : ∀ {K : List Nat} {i : Nat}, i < K.length → cells6 L (K.set i q) = (cells6 L K).take (i * 6) ++ (rvAt L q).six q ++ (cells6 L K).drop (i * 6 + 6)
  | [], i, h => by simp at h
  | p :: K, 0, _ => by
    rw [List.set_cons_zero, cells6_cons, cells6_cons, Nat.zero_mul, List.take_zero, List.nil_append, Nat.zero_add, List.drop_left' (six_len _ _)]
  | p :: K, i + 1, h => by
    rw [List.set_cons_succ, cells6_cons, cells6_cons, cells6_set L q (by simpa using h)]
    have e1 : ((rvAt L p).six p ++ cells6 L K).take ((i + 1) * 6) = (rvAt L p).six p ++ (cells6 L K).take (i * 6) := by
      rw [show (i + 1) * 6 = ((rvAt L p).six p).length + i * 6 by rw [six_len]; omega]; exact List.take_length_add_append _
    have e2 : ((rvAt L p).six p ++ cells6 L K).drop ((i + 1) * 6 + 6) = (cells6 L K).drop (i * 6 + 6) := by
      rw [show (i + 1) * 6 + 6 = ((rvAt L p).six p).length + (i * 6 + 6) by rw [six_len]; omega]; exact List.drop_length_add_append _
    rw [e1, e2]
    simp
theorem mid_take {α : Type} (zs vs : List α) (j m : Nat) (h1 : j + vs.length ≤ m) (h2 : m ≤ zs.length) :
    (zs.take j ++ vs ++ zs.drop (j + vs.length)).take m = (zs.take m).take j ++ vs ++ (zs.take m).drop (j + vs.length) := by
  have hj : (zs.take j).length = j := by rw [List.length_take]; omega
  rw [List.take_append, List.length_append, hj, List.take_of_length_le (by rw [List.length_append, hj]; omega), List.take_take, Nat.min_eq_left (by omega), List.drop_take]

/-- an own slice of routes with their places -/
abbrev OwnH (w : World) (R : Nat) (hv : Value) (L : List RV) (K : List Nat) : Prop := w.ownsRow R 85 6 hv K.length (cells6 L K)
theorem OwnH.tab {w : World} {R : Nat} {hv : Value} {L : List RV} {K : List Nat} (h : OwnH w R hv L K) (hK : K ≠ []) : ∃ g cap, hv = .slice (some ⟨g, 0, none⟩) K.length cap ∧ R ≤ g ∧ K.length ≤ cap := by
  rcases h.2 with ⟨e0, h0⟩ | ⟨g, cap, cur, e0, hb, hg, hn, hm, hs, ht⟩
  · cases K with
    | nil => exact (hK rfl).elim
    | cons p K => simp at h0
  · exact ⟨g, cap, e0, hb, hn⟩
/-- the six cells of one element -/
def At6 (w : World) (g o : Nat) (v : RV) (p : Nat) : Prop :=
  (w.cell? ⟨g, o, none⟩ = some (.int .i64 v.f) ∧ w.cell? ⟨g, o + 1, none⟩ = some (.int .i64 v.b) ∧ w.cell? ⟨g, o + 2, none⟩ = some (.slice v.a v.P.length v.c) ∧ w.cell? ⟨g, o + 3, none⟩ = some (.int .i64 v.l) ∧ w.cell? ⟨g, o + 4, none⟩ = some (.slice v.d v.M.length v.e) ∧ w.cell? ⟨g, o + 5, none⟩ = some (.int .i64 p)) ∧
  w.frozen? ⟨g, o, none⟩ = false ∧ w.frozen? ⟨g, o + 1, none⟩ = false ∧ w.frozen? ⟨g, o + 2, none⟩ = false ∧ w.frozen? ⟨g, o + 3, none⟩ = false ∧ w.frozen? ⟨g, o + 4, none⟩ = false ∧ w.frozen? ⟨g, o + 5, none⟩ = false
theorem OwnH.len {w : World} {R n cap : Nat} {a : Option Addr} {L : List RV} {K : List Nat} (h : OwnH w R (.slice a n cap) L K) : n = K.length := by
  rcases h.2 with ⟨e0, h0⟩ | ⟨g, cap', cur, e0, _⟩
  · injection e0 with _ e1 _
    rw [e1, h0]
  · injection e0
theorem OwnH.at {w : World} {R g n cap : Nat} {L : List RV} {K : List Nat} (h : OwnH w R (.slice (some ⟨g, 0, none⟩) n cap) L K) {k p : Nat} (hk : K[k]? = some p) : At6 w g (k * 6) (rvAt L p) p := by
  obtain rfl := OwnH.len h
  have c : ∀ j u, (cells6 L K)[j]? = some u → w.cell? ⟨g, j, none⟩ = some u := fun j u hu => by
    have := World.ownsRow.cells h (g := g) rfl j u hu
    by_cases hj : j = 0
    · subst hj; simpa [Addr.add] using this
    · simpa [Addr.add, hj] using this
  refine ⟨⟨c _ _ (cells6_at L (j := 0) hk (by omega)), c _ _ (cells6_at L (j := 1) hk (by omega)), c _ _ (cells6_at L (j := 2) hk (by omega)), c _ _ (cells6_at L (j := 3) hk (by omega)), c _ _ (cells6_at L (j := 4) hk (by omega)), c _ _ (cells6_at L (j := 5) hk (by omega))⟩,
    World.ownsRow.frozenAt h _, World.ownsRow.frozenAt h _, World.ownsRow.frozenAt h _, World.ownsRow.frozenAt h _, World.ownsRow.frozenAt h _, World.ownsRow.frozenAt h _⟩
/-- an element is written over -/
def set6 (w : World) (g o : Nat) (v : RV) (p : Nat) : World :=
  (((((w.setCell ⟨g, o, none⟩ (.int .i64 v.f)).setCell ⟨g, o + 1, none⟩ (.int .i64 v.b)).setCell ⟨g, o + 2, none⟩ (.slice v.a v.P.length v.c)).setCell ⟨g, o + 3, none⟩ (.int .i64 v.l)).setCell ⟨g, o + 4, none⟩ (.slice v.d v.M.length v.e)).setCell ⟨g, o + 5, none⟩ (.int .i64 p)
theorem OwnH.put {w : World} {R g n cap : Nat} {L : List RV} {K : List Nat} (h : OwnH w R (.slice (some ⟨g, 0, none⟩) n cap) L K) {i : Nat} (hi : i < K.length) (q : Nat) :
    OwnH (set6 w g (i * 6) (rvAt L q) q) R (.slice (some ⟨g, 0, none⟩) n cap) L (K.set i q) ∧ w.grownBy (set6 w g (i * 6) (rvAt L q) q) (some g) := by
  obtain rfl := OwnH.len h
  show OwnH (w.setCells g (i * 6) ((rvAt L q).six q)) R (.slice (some ⟨g, 0, none⟩) K.length cap) L (K.set i q) ∧ w.grownBy (w.setCells g (i * 6) ((rvAt L q).six q)) (some g)
  obtain ⟨zs, hl, ht, hn, hm, ho⟩ := own_full h
  have hz : i * 6 + ((rvAt L q).six q).length ≤ zs.length := by rw [six_len, hl]; omega
  obtain ⟨h1, h2⟩ := own_cells ((rvAt L q).six q) w zs (i * 6) ho hz
  refine ⟨?_, h2⟩
  have h3 := own_cut h1 (k := K.length) hn
  rw [mid_take _ _ _ _ (by rw [six_len]; omega) (by rw [hl]; omega), ht, six_len, ← cells6_set L q hi] at h3
  rw [OwnH, List.length_set]
  exact h3

theorem two_intA (W : World) (x y : Int) : IntA (W.alloc (.cells #[.int .i64 x, .int .i64 y] 3)) (some ⟨W.heap.size, 0, none⟩) [x, y] := by
  refine .inr ⟨W.heap.size, 0, rfl, fun i z h => ?_⟩
  match i, h with
  | 0, h => simp at h; subst h; simp
  | 1, h => simp at h; subst h; simp
  | n + 2, h => simp at h
/-- the heap's order, as the program reckons it -/
theorem hless_or {a b : Rt} {p q : Nat} {x : Bool} (h : decide (rtCmp0 a b = -1 ∨ rtCmp0 a b = 0 ∧ p < q) = x) : decide (firstNZ [rtCmp0 a b, sgn (p : Int) (q : Int)] < 0) = x := by
  rw [← h, Bool.eq_iff_iff, decide_eq_true_eq, decide_eq_true_eq]
  simp only [firstNZ, sgn]
  rcases rtCmp0_vals a b with c | c | c
  · rw [c]; simp
  · rw [c]
    repeat' split
    all_goals omega
  · rw [c]; simp

set_option maxRecDepth 100000 in
set_option maxHeartbeats 4000000 in
theorem less0_is (f1 b1 : Int) (a1 : Option Addr) (c1 : Nat) (P1 : List Int) (l1 : Int) (d1 : Option Addr) (e1 : Nat) (M1 : List Int) (f2 b2 : Int) (a2 : Option Addr) (c2 : Nat) (P2 : List Int) (l2 : Int) (d2 : Option Addr) (e2 : Nat) (M2 : List Int) {x : Bool} (g n cap i j p q : Nat) (hx : decide (rtCmp0 (f1, b1, P1, l1, M1) (f2, b2, P2, l2, M2) = -1 ∨ rtCmp0 (f1, b1, P1, l1, M1) (f2, b2, P2, l2, M2) = 0 ∧ p < q) = x) (h1 : RtGood (f1, b1, P1, l1, M1)) (h2 : RtGood (f2, b2, P2, l2, M2)) (w : World) (pe : Addr)
    (hi : i < n) (hj : j < n) (k1 : At6 w g (i * 6) ⟨f1, b1, a1, c1, P1, l1, d1, e1, M1⟩ p) (k2 : At6 w g (j * 6) ⟨f2, b2, a2, c2, P2, l2, d2, e2, M2⟩ q) (hm1 : RtM w a1 c1 P1 d1 e1 M1) (hm2 : RtM w a2 c2 P2 d2 e2 M2) (hE : EV w pe) :
    Calls Tryd.prog 159 #[.slice (some ⟨g, 0, none⟩) n cap, .int .i64 (i : Int), .int .i64 (j : Int)] w fun e w' => e = .returned (.bool x) ∧ Below w.heap.size w w' := by
  have hor := hless_or hx
  clear hx
  obtain ⟨z, hz⟩ : ∃ z, rtCmp0 (f1, b1, P1, l1, M1) (f2, b2, P2, l2, M2) = z := ⟨_, rfl⟩
  obtain ⟨s, hs⟩ : ∃ s, sgn (p : Int) (q : Int) = s := ⟨_, rfl⟩
  rw [hz, hs] at hor
  obtain ⟨y, hy⟩ : ∃ y, firstNZ [z, s] = y := ⟨_, rfl⟩
  rw [hy] at hor
  have HZ := Lib.hid hz
  have HS := Lib.hid hs
  have HY := Lib.hid hy
  have HG1 := Lib.hid h1
  have HG2 := Lib.hid h2
  have HM1 := Lib.hid hm1
  have HM2 := Lib.hid hm2
  have HE := Lib.hid hE
  have HC1 := Lib.hid k1.1
  have HC2 := Lib.hid k2.1
  have i0 : (0 : Int) ≤ (i : Int) := by omega
  have i1 : (i : Int) < (n : Int) := by omega
  have j0 : (0 : Int) ≤ (j : Int) := by omega
  have j1 : (j : Int) < (n : Int) := by omega
  clear hz hs hy h1 h2 hm1 hm2 hE k1 k2
  go_enter Tryd.func159, Tryd.ntmps159
  go_wp2_with fail
  refine wp_region_held_drew (S := fun W => ((W.cell? ⟨g, i * 6, none⟩ = some (.int .i64 f1) ∧ W.cell? ⟨g, i * 6 + 1, none⟩ = some (.int .i64 b1) ∧ W.cell? ⟨g, i * 6 + 2, none⟩ = some (.slice a1 P1.length c1) ∧ W.cell? ⟨g, i * 6 + 3, none⟩ = some (.int .i64 l1) ∧ W.cell? ⟨g, i * 6 + 4, none⟩ = some (.slice d1 M1.length e1) ∧ W.cell? ⟨g, i * 6 + 5, none⟩ = some (.int .i64 p)) ∧ (W.cell? ⟨g, j * 6, none⟩ = some (.int .i64 f2) ∧ W.cell? ⟨g, j * 6 + 1, none⟩ = some (.int .i64 b2) ∧ W.cell? ⟨g, j * 6 + 2, none⟩ = some (.slice a2 P2.length c2) ∧ W.cell? ⟨g, j * 6 + 3, none⟩ = some (.int .i64 l2) ∧ W.cell? ⟨g, j * 6 + 4, none⟩ = some (.slice d2 M2.length e2) ∧ W.cell? ⟨g, j * 6 + 5, none⟩ = some (.int .i64 q))) ∧ Hid (RtM W a1 c1 P1 d1 e1 M1 ∧ RtM W a2 c2 P2 d2 e2 M2 ∧ EV W pe ∧ Below w.heap.size w W)) (by kernel_rfl) ?_ (fun hHeld => ?_)
  · exact ⟨⟨HC1.out, HC2.out⟩, Lib.hid ⟨HM1.out, HM2.out, HE.out, (Below.refl _ w).drew⟩⟩
  refine takeH (i := 0) (v := ?_) rfl rfl (by kernel_rfl) (by kernel_rfl) (by kernel_rfl) (fun _ _ _ h => h) (by rfl) ?_ (by assumption) ?_
  rotate_left 1
  · intro w hSw
    (try dsimp only at hSw)
    go_simp
    try with_reducible rfl
  try simp only [List.setIfInBounds_toArray, List.set_cons_zero, List.set_cons_succ]
  refine takeH (i := 1) (v := ?_) rfl rfl (by kernel_rfl) (by kernel_rfl) (by kernel_rfl) (fun _ _ _ h => h) (by rfl) ?_ (by assumption) ?_
  rotate_left 1
  · intro w hSw
    (try dsimp only at hSw)
    go_simp
    try with_reducible rfl
  try simp only [List.setIfInBounds_toArray, List.set_cons_zero, List.set_cons_succ]
  refine takeH (i := 2) (v := ?_) rfl rfl (by kernel_rfl) (by kernel_rfl) (by kernel_rfl) (fun _ _ _ h => h) (by rfl) ?_ (by assumption) ?_
  rotate_left 1
  · intro w hSw
    (try dsimp only at hSw)
    go_simp
    try with_reducible rfl
  try simp only [List.setIfInBounds_toArray, List.set_cons_zero, List.set_cons_succ]
  refine takeH (i := 3) (v := ?_) rfl rfl (by kernel_rfl) (by kernel_rfl) (by kernel_rfl) (fun _ _ _ h => h) (by rfl) ?_ (by assumption) ?_
  rotate_left 1
  · intro w hSw
    (try dsimp only at hSw)
    go_simp
    try with_reducible rfl
  try simp only [List.setIfInBounds_toArray, List.set_cons_zero, List.set_cons_succ]
  refine takeH (i := 4) (v := ?_) rfl rfl (by kernel_rfl) (by kernel_rfl) (by kernel_rfl) (fun _ _ _ h => h) (by rfl) ?_ (by assumption) ?_
  rotate_left 1
  · intro w hSw
    (try dsimp only at hSw)
    go_simp
    try with_reducible rfl
  try simp only [List.setIfInBounds_toArray, List.set_cons_zero, List.set_cons_succ]
  refine takeH (i := 5) (v := ?_) rfl rfl (by kernel_rfl) (by kernel_rfl) (by kernel_rfl) (fun _ _ _ h => h) (by rfl) ?_ (by assumption) ?_
  rotate_left 1
  · intro w hSw
    (try dsimp only at hSw)
    go_simp
    try with_reducible rfl
  try simp only [List.setIfInBounds_toArray, List.set_cons_zero, List.set_cons_succ]
  refine takeH (i := 6) (v := ?_) rfl rfl (by kernel_rfl) (by kernel_rfl) (by kernel_rfl) (fun _ _ _ h => h) (by rfl) ?_ (by assumption) ?_
  rotate_left 1
  · intro w hSw
    (try dsimp only at hSw)
    go_simp
    try with_reducible rfl
  try simp only [List.setIfInBounds_toArray, List.set_cons_zero, List.set_cons_succ]
  refine takeH (i := 7) (v := ?_) rfl rfl (by kernel_rfl) (by kernel_rfl) (by kernel_rfl) (fun _ _ _ h => h) (by rfl) ?_ (by assumption) ?_
  rotate_left 1
  · intro w hSw
    (try dsimp only at hSw)
    go_simp
    try with_reducible rfl
  try simp only [List.setIfInBounds_toArray, List.set_cons_zero, List.set_cons_succ]
  refine takeH (i := 8) (v := ?_) rfl rfl (by kernel_rfl) (by kernel_rfl) (by kernel_rfl) (fun _ _ _ h => h) (by rfl) ?_ (by assumption) ?_
  rotate_left 1
  · intro w hSw
    (try dsimp only at hSw)
    go_simp
    try with_reducible rfl
  try simp only [List.setIfInBounds_toArray, List.set_cons_zero, List.set_cons_succ]
  refine takeH (i := 9) (v := ?_) rfl rfl (by kernel_rfl) (by kernel_rfl) (by kernel_rfl) (fun _ _ _ h => h) (by rfl) ?_ (by assumption) ?_
  rotate_left 1
  · intro w hSw
    (try dsimp only at hSw)
    go_simp
    try with_reducible rfl
  try simp only [List.setIfInBounds_toArray, List.set_cons_zero, List.set_cons_succ]
  refine takeH (i := 11) (v := ?_) rfl rfl (by kernel_rfl) (by kernel_rfl) (by kernel_rfl) (fun _ _ _ h => h) (by rfl) ?_ (by assumption) ?_
  rotate_left 1
  · intro w hSw
    (try dsimp only at hSw)
    go_simp
    try with_reducible rfl
  try simp only [List.setIfInBounds_toArray, List.set_cons_zero, List.set_cons_succ]
  refine takeH (i := 12) (v := ?_) rfl rfl (by kernel_rfl) (by kernel_rfl) (by kernel_rfl) (fun _ _ _ h => h) (by rfl) ?_ (by assumption) ?_
  rotate_left 1
  · intro w hSw
    (try dsimp only at hSw)
    go_simp
    try with_reducible rfl
  try simp only [List.setIfInBounds_toArray, List.set_cons_zero, List.set_cons_succ]
  refine takeH (i := 13) (v := ?_) rfl rfl (by kernel_rfl) (by kernel_rfl) (by kernel_rfl) (fun _ _ _ h => h) (by rfl) ?_ (by assumption) ?_
  rotate_left 1
  · intro w hSw
    (try dsimp only at hSw)
    go_simp
    try with_reducible rfl
  try simp only [List.setIfInBounds_toArray, List.set_cons_zero, List.set_cons_succ]
  refine takeH (i := 14) (v := ?_) rfl rfl (by kernel_rfl) (by kernel_rfl) (by kernel_rfl) (fun _ _ _ h => h) (by rfl) ?_ (by assumption) ?_
  rotate_left 1
  · intro w hSw
    (try dsimp only at hSw)
    go_simp
    try with_reducible rfl
  try simp only [List.setIfInBounds_toArray, List.set_cons_zero, List.set_cons_succ]
  refine takeH (i := 15) (v := ?_) rfl rfl (by kernel_rfl) (by kernel_rfl) (by kernel_rfl) (fun _ _ _ h => h) (by rfl) ?_ (by assumption) ?_
  rotate_left 1
  · intro w hSw
    (try dsimp only at hSw)
    go_simp
    try with_reducible rfl
  try simp only [List.setIfInBounds_toArray, List.set_cons_zero, List.set_cons_succ]
  refine takeH (i := 16) (v := ?_) rfl rfl (by kernel_rfl) (by kernel_rfl) (by kernel_rfl) (fun _ _ _ h => h) (by rfl) ?_ (by assumption) ?_
  rotate_left 1
  · intro w hSw
    (try dsimp only at hSw)
    go_simp
    try with_reducible rfl
  try simp only [List.setIfInBounds_toArray, List.set_cons_zero, List.set_cons_succ]
  refine takeH (i := 17) (v := ?_) rfl rfl (by kernel_rfl) (by kernel_rfl) (by kernel_rfl) (fun _ _ _ h => h) (by rfl) ?_ (by assumption) ?_
  rotate_left 1
  · intro w hSw
    (try dsimp only at hSw)
    go_simp
    try with_reducible rfl
  try simp only [List.setIfInBounds_toArray, List.set_cons_zero, List.set_cons_succ]
  refine takeH (i := 18) (v := ?_) rfl rfl (by kernel_rfl) (by kernel_rfl) (by kernel_rfl) (fun _ _ _ h => h) (by rfl) ?_ (by assumption) ?_
  rotate_left 1
  · intro w hSw
    (try dsimp only at hSw)
    go_simp
    try with_reducible rfl
  try simp only [List.setIfInBounds_toArray, List.set_cons_zero, List.set_cons_succ]
  refine takeH (i := 19) (v := ?_) rfl rfl (by kernel_rfl) (by kernel_rfl) (by kernel_rfl) (fun _ _ _ h => h) (by rfl) ?_ (by assumption) ?_
  rotate_left 1
  · intro w hSw
    (try dsimp only at hSw)
    go_simp
    try with_reducible rfl
  try simp only [List.setIfInBounds_toArray, List.set_cons_zero, List.set_cons_succ]
  refine takeH (i := 20) (v := ?_) rfl rfl (by kernel_rfl) (by kernel_rfl) (by kernel_rfl) (fun _ _ _ h => h) (by rfl) ?_ (by assumption) ?_
  rotate_left 1
  · intro w hSw
    (try dsimp only at hSw)
    go_simp
    try with_reducible rfl
  try simp only [List.setIfInBounds_toArray, List.set_cons_zero, List.set_cons_succ]
  refine wpAnyH_ready (rs := [10]) (by kernel_rfl) (by simp) ?_
  refine AllReadyH.cons rfl (fun K hK => ?_) (AllReadyH.nil)
  go_simp
  refine (rcompare_is f1 b1 a1 c1 P1 l1 d1 e1 M1 f2 b2 a2 c2 P2 l2 d2 e2 M2 HZ.out HG1.out HG2.out _ pe hHeld.2.out.1 hHeld.2.out.2.1 hHeld.2.out.2.2.1).mono ?_
  rintro en wc ⟨rfl, bc⟩
  go_wp2_with fail
  refine hK.out _ _ ?_ (fun hNew => ?_)
  · exact ⟨⟨⟨cell_later bc hHeld.1.1.1, cell_later bc hHeld.1.1.2.1, cell_later bc hHeld.1.1.2.2.1, cell_later bc hHeld.1.1.2.2.2.1, cell_later bc hHeld.1.1.2.2.2.2.1, cell_later bc hHeld.1.1.2.2.2.2.2⟩, cell_later bc hHeld.1.2.1, cell_later bc hHeld.1.2.2.1, cell_later bc hHeld.1.2.2.2.1, cell_later bc hHeld.1.2.2.2.2.1, cell_later bc hHeld.1.2.2.2.2.2.1, cell_later bc hHeld.1.2.2.2.2.2.2⟩, Lib.hid ⟨hHeld.2.out.1.below bc, hHeld.2.out.2.1.below bc, hHeld.2.out.2.2.1.below bc, next hHeld.2.out.2.2.2 bc⟩⟩
  clear hK K hHeld
  have hHeld := hNew
  clear hNew
  try simp only [Act.put, List.setIfInBounds_toArray, List.set_cons_zero, List.set_cons_succ]
  refine wpAnyH_ready (rs := [21]) (by kernel_rfl) (by simp) ?_
  refine AllReadyH.cons rfl (fun K hK => ?_) (AllReadyH.nil)
  go_simp
  refine (cmp_is HS.out _).mono ?_
  rintro en wd ⟨rfl, rfl⟩
  go_wp2_with fail
  refine hK.out _ _ ?_ (fun hNew => ?_)
  · exact hHeld
  clear hK K hHeld
  have hHeld := hNew
  clear hNew
  try simp only [Act.put, List.setIfInBounds_toArray, List.set_cons_zero, List.set_cons_succ]
  refine wpAnyH_ready (rs := [22]) (by kernel_rfl) (by simp) ?_
  refine AllReadyH.cons rfl (fun K hK => ?_) (AllReadyH.nil)
  go_simp
  refine hK.out _ _ ?_ (fun hNew => ?_)
  · exact ⟨⟨⟨cellA hHeld.1.1.1 _, cellA hHeld.1.1.2.1 _, cellA hHeld.1.1.2.2.1 _, cellA hHeld.1.1.2.2.2.1 _, cellA hHeld.1.1.2.2.2.2.1 _, cellA hHeld.1.1.2.2.2.2.2 _⟩, cellA hHeld.1.2.1 _, cellA hHeld.1.2.2.1 _, cellA hHeld.1.2.2.2.1 _, cellA hHeld.1.2.2.2.2.1 _, cellA hHeld.1.2.2.2.2.2.1 _, cellA hHeld.1.2.2.2.2.2.2 _⟩, Lib.hid ⟨hHeld.2.out.1.alloc _, hHeld.2.out.2.1.alloc _, hHeld.2.out.2.2.1.alloc _, hHeld.2.out.2.2.2.alloc hHeld.2.out.2.2.2.size _⟩⟩
  clear hK K hHeld
  have hHeld := hNew
  clear hNew
  try simp only [Act.put, List.setIfInBounds_toArray, List.set_cons_zero, List.set_cons_succ]
  refine wpAnyH_ready (rs := [23]) (by kernel_rfl) (by simp) ?_
  refine AllReadyH.cons rfl (fun K hK => ?_) (AllReadyH.nil)
  go_simp
  refine (or_first HY.out _ _ _ _ rfl (two_intA _ z s) (by simp)).mono ?_
  rintro en wg ⟨rfl, rfl⟩
  go_wp2_with fail
  refine hK.out _ _ ?_ (fun hNew => ?_)
  · exact hHeld
  clear hK K hHeld
  have hHeld := hNew
  clear hNew
  try simp only [Act.put, List.setIfInBounds_toArray, List.set_cons_zero, List.set_cons_succ]
  refine takeH (i := 24) (v := ?_) rfl rfl (by kernel_rfl) (by kernel_rfl) (by kernel_rfl) (fun _ _ _ h => h) (by rfl) ?_ (by assumption) ?_
  rotate_left 1
  · intro w hSw
    (try dsimp only at hSw)
    go_simp
    try with_reducible rfl
  try simp only [List.setIfInBounds_toArray, List.set_cons_zero, List.set_cons_succ]
  refine wpAnyH_done (by kernel_rfl) ?_ _
  have HB := Lib.hid hHeld.2.out.2.2.2
  clear hHeld
  go_wp2_with fail
  go_ret
  exact ⟨by rw [← hor]; rfl, HB.out⟩
end Go.Proofs.YtfjfcdifnfffbaaDoor
