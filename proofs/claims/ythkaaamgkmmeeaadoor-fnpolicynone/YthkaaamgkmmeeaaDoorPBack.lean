/-
  A track of houses: the iterator that goes backward, and who goes by it.
-/
import Derived.Test.YthkaaamgkmmeeaaDoorPImp
namespace Go.Proofs.YthkaaamgkmmeeaaDoor
open Go.RowKit Go.Shelf
set_option linter.unusedSimpArgs false
set_option linter.unusedVariables false
attribute [local go_sem] Oper.semAt_some

/-- what is yielded: places and houses, the last first -/
def backL (L : List Int) (k : Nat) : List (Nat × Int) := (List.range k).map fun j => (L.length - 1 - j, L[L.length - 1 - j]?.getD 0)
theorem backL_succ (L : List Int) (k : Nat) : backL L (k + 1) = backL L k ++ [(L.length - 1 - k, L[L.length - 1 - k]?.getD 0)] := by
  simp [backL, List.range_succ]
theorem backL_length (L : List Int) (k : Nat) : (backL L k).length = k := by simp [backL]
/-- the houses that have come, in order -/
def came (pre : List (Nat × Int)) : List Int := (pre.map (·.2)).reverse
theorem came_snoc (pre : List (Nat × Int)) (x : Nat × Int) : came (pre ++ [x]) = x.2 :: came pre := by simp [came]
theorem came_back (L : List Int) : ∀ k, k ≤ L.length → came (backL L k) = L.drop (L.length - k)
  | 0, _ => by simp [came, backL]
  | k + 1, h => by
    rw [backL_succ, came_snoc, came_back L k (by omega)]
    have hlt : L.length - (k + 1) < L.length := by omega
    rw [List.drop_eq_getElem_cons hlt, show L.length - (k + 1) + 1 = L.length - k by omega, show L.length - 1 - k = L.length - (k + 1) by omega, List.getElem?_eq_getElem hlt]
    rfl
def encB (x : Nat × Int) : Array Value := #[.int .i64 (x.1 : Int), .int .i64 x.2]
/-- all cells stay, but those of one block -/
def KP (T : Nat) (W W' : World) : Prop := ∀ b o v, b ≠ T → W.cell? ⟨b, o, none⟩ = some v → W'.cell? ⟨b, o, none⟩ = some v
theorem KP.refl (T : Nat) (W : World) : KP T W W := fun _ _ _ _ h => h
theorem KP.trans {T : Nat} {A B C : World} (h : KP T A B) (k : KP T B C) : KP T A C := fun b o v hb e => k b o v hb (h b o v hb e)
theorem KP.below {T : Nat} {W W' : World} (h : Below W.heap.size W W') : KP T W W' := fun _ _ _ _ e => cell_later h e
theorem KP.set {T : Nat} (W : World) (o : Nat) (v : Value) : KP T W (W.setCell ⟨T, o, none⟩ v) := fun b o' u hb e => by
  rw [World.cell?_setCell_far _ _ _ _ (fun h => hb h.symm)]; exact e
theorem KP.put {T : Nat} {w W : World} (l : Nat) (o o' : Obj) (_ : w.heap.size ≤ l) (h : W.heap[l]? = some o) (hc : o.isCells = false) (_ : o.isWalk = false) : KP T W (W.putObj l o') :=
  fun _ _ _ _ e => cell_kept e (grownBy_putObj' W l o') (fun r k => by cases k; exact ⟨o, h, hc⟩)
theorem IntA.kp {T : Nat} {W W' : World} {a : Option Addr} {L : List Int} (h : IntA W a L) (k : KP T W W') (haT : L ≠ [] → ∀ b off, a = some ⟨b, off, none⟩ → b ≠ T) : IntA W' a L := by
  by_cases hL : L = []
  · exact .inl hL
  · rcases h with h | ⟨b, off, rfl, h⟩
    · exact .inl h
    · exact .inr ⟨b, off, rfl, fun i x hi => k _ _ _ (haT hL b off rfl) (h i x hi)⟩
theorem IntA.lt {w : World} {a : Option Addr} {L : List Int} (h : IntA w a L) (hL : L ≠ []) (b off : Nat) (e : a = some ⟨b, off, none⟩) : b < w.heap.size := by
  subst e
  obtain ⟨b', off', x, e, _, c⟩ := h.at (List.length_pos_iff.2 hL)
  obtain ⟨rfl, rfl⟩ : b = b' ∧ off = off' := by simpa using e
  exact World.block_lt_of_cell? w _ c

set_option maxRecDepth 100000 in
set_option maxHeartbeats 2000000 in
theorem back1_in (n l Bs T : Nat) (a : Option Addr) (cap : Nat) (L : List Int) (hl : L.length ≤ 4000000) (J Jx : List (Nat × Int) → World → Prop)
    (hY : ∀ pre x W, J pre W → pre.length < L.length → YieldAt Fence.wide (n - 1) Tryd.prog l (encB x) W fun e W' =>
      (e = .returned (.bool true) ∧ J (pre ++ [x]) W' ∧ KP T W W') ∨ (e = .returned (.bool false) ∧ Jx (pre ++ [x]) W'))
    (W : World) (hBs : W.cell? ⟨Bs, 0, none⟩ = some (.slice a L.length cap)) (hT : Bs ≠ T) (hI : IntA W a L) (haT : L ≠ [] → ∀ b off, a = some ⟨b, off, none⟩ → b ≠ T) (h0 : J [] W) :
    CallsIn Fence.wide n Tryd.prog 101 #[.func (.yield l) #[] #[], .pointer (some ⟨Bs, 0, none⟩)] W fun e W' => (∃ v, e = .returned v) ∧
      ((∃ ys, ys = backL L L.length ∧ J ys W') ∨ (∃ pre, (∃ k, k ≤ L.length ∧ pre = backL L k) ∧ Jx pre W')) := by
  refine callsIn_of_wp Tryd.func101 rfl trivial ?_ rfl
  simp only [Tryd.ntmps101, List.size_toArray, List.length_cons, List.length_nil, Nat.reduceAdd, Nat.reduceSub, Array.replicate_succ, Array.replicate_zero, List.push_toArray, List.append_toArray, List.nil_append, List.cons_append]
  gi_wp2
  gi_loopw [3] (fun i wr => ∃ k : Nat, k ≤ L.length ∧ i = .int .i64 ((L.length : Int) - 1 - k) ∧ J (backL L k) wr ∧ KP T W wr) (fun i _ => (intOf i + 1).toNat)
  case atStart => exact ⟨0, Nat.zero_le _, by go_num, h0, KP.refl _ _⟩
  case round =>
    obtain ⟨k, hk, rfl, hJs, hkp⟩ := hrel
    by_cases hlt : k < L.length
    · obtain ⟨b, off, x, rfl, hLk, c0⟩ := (hI.kp hkp haT).at (show L.length - 1 - k < L.length by omega)
      obtain ⟨fn, tmps, assign, body, hy, hR⟩ := hY _ (L.length - 1 - k, x) wr hJs (by rw [backL_length]; exact hlt)
      have hBw := hkp _ _ _ hT hBs
      have e1 : ((L.length - 1 - k : Nat) : Int) = (L.length : Int) - 1 - k := by omega
      have HS := Lib.hid (show backL L (k + 1) = backL L k ++ [(L.length - 1 - k, x)] by rw [backL_succ, hLk]; rfl)
      simp only [encB, e1] at hy
      have i0 : (0 : Int) ≤ (L.length : Int) - 1 - k := by omega
      have i1 : (L.length : Int) - 1 - k < (L.length : Int) := by omega
      have i2 : ((L.length : Int) - 1 - k).toNat = L.length - 1 - k := by omega
      gi_wp2
      refine ⟨fun h => (by cases h), hR.mono ?_⟩
      rintro e W3 (⟨rfl, hJ3, hk3⟩ | ⟨rfl, hJx3⟩)
      · gi_wp2
        go_roundw
        case rel => exact ⟨k + 1, by omega, by go_num, by rw [HS.out]; exact hJ3, hkp.trans hk3⟩
        case measure => simp [intOf]; omega
      · gi_wp2
        refine bodyPost_ret (results_none rfl _ _ _) rfl ?_
        exact ⟨⟨_, rfl⟩, .inr ⟨_, ⟨k + 1, by omega, HS.out.symm⟩, hJx3⟩⟩
    · obtain rfl : k = L.length := by omega
      have i3 : ¬ (0 : Int) ≤ (L.length : Int) - 1 - (L.length : Int) := by omega
      gi_wp2
      go_end0
      exact ⟨⟨_, rfl⟩, .inl hJs⟩

theorem back_stops (n Bs T : Nat) (a : Option Addr) (cap : Nat) (L : List Int) (hl : L.length ≤ 4000000) (w : World) (hBs : w.cell? ⟨Bs, 0, none⟩ = some (.slice a L.length cap)) (hT : Bs ≠ T) (hI : IntA w a L) (haT : L ≠ [] → ∀ b off, a = some ⟨b, off, none⟩ → b ≠ T) :
    SeqStopsK Fence.wide n Tryd.prog 101 #[.pointer (some ⟨Bs, 0, none⟩)] encB (KP T) (fun ys => ys = backL L L.length)
      (fun pre => ∃ k, k ≤ L.length ∧ pre = backL L k) L.length w := fun l J Jx W hW hJ _ hY h0 =>
  back1_in n l Bs T a cap L hl J Jx hY W (cell_later hW hBs) hT (hI.below hW) haT h0

set_option maxHeartbeats 400000 in
theorem back_any (a : Option Addr) (n cap : Nat) (w : World) :
    Calls Tryd.prog 83 #[.slice a n cap] w fun e w' =>
      e = .returned (.func (.func 101) #[] #[.pointer (some ⟨w.heap.size, 0, none⟩)]) ∧ w.alloc (.cells #[.slice a n cap] 27) = w' := by
  go_enter Tryd.func83, Tryd.ntmps83
  go_wp2
  go_ret
  exact ⟨rfl, rfl⟩

theorem owni_keptO {A B : World} {row : Option Nat} {R : Nat} {v : Value} {L : List Int} (h : OwnI A R v L) (hg : A.grownBy B row) (hr : ∀ r, row = some r → ∃ o : Obj, A.heap[r]? = some o ∧ o.isCells = false) : OwnI B R v L := by
  refine h.kept hg ?_
  cases e : v.ownBlock with
  | none => exact .inl rfl
  | some k =>
    refine .inr fun e2 => ?_
    obtain ⟨o, ho, hc⟩ := hr k e2.symm
    rcases h.2 with ⟨rfl, _⟩ | ⟨g, cap, cur, rfl, hb, hgg, _⟩
    · simp [Value.ownBlock] at e
    · simp [Value.ownBlock] at e
      subst e
      rw [hgg] at ho
      cases ho
      cases hc

/-- one value in a block -/
def At1 (w : World) (R : Nat) (x : Value) : Prop := w.cell? ⟨R, 0, none⟩ = some x ∧ w.frozen? ⟨R, 0, none⟩ = false
theorem At1.new (w : World) (x : Value) (t : TypeId) : At1 (w.alloc (.cells #[x] t)) w.heap.size x := ⟨by simp, by simp⟩
theorem At1.lt {w : World} {R : Nat} {x : Value} (h : At1 w R x) : R < w.heap.size := World.block_lt_of_cell? w _ h.1
theorem At1.below {w w' : World} {R : Nat} {x : Value} (h : At1 w R x) (k : Below w.heap.size w w') : At1 w' R x :=
  ⟨cell_later k h.1, by rw [k.frozen (p := ⟨R, 0, none⟩) h.lt]; exact h.2⟩
theorem At1.alloc {w : World} {R : Nat} {x : Value} (h : At1 w R x) (o : Obj) : At1 (w.alloc o) R x := h.below ((Below.refl _ _).alloc (Nat.le_refl _) o)
theorem At1.far {w : World} {R : Nat} {x : Value} (h : At1 w R x) (q : Addr) (v : Value) (hne : q.block ≠ R) : At1 (w.setCell q v) R x :=
  ⟨by rw [World.cell?_setCell_far _ _ _ _ hne]; exact h.1, by rw [World.frozen?_setCell]; exact h.2⟩
theorem At1.put {w : World} {R : Nat} {x : Value} (h : At1 w R x) (u : Value) : At1 (w.setCell ⟨R, 0, none⟩ u) R u :=
  ⟨World.cell?_setCell_same' _ _ _ (by rw [h.1]; rfl), by rw [World.frozen?_setCell]; exact h.2⟩
theorem At1.kept {A B : World} {row : Option Nat} {R : Nat} {x : Value} (h : At1 A R x) (hg : A.grownBy B row) (hr : ∀ r, row = some r → ∃ o : Obj, A.heap[r]? = some o ∧ o.isCells = false) : At1 B R x :=
  ⟨cell_kept h.1 hg hr, (frozen_kept h.1 hg hr).trans h.2⟩

abbrev zT : Value := .int .u64 0
abbrev zS : Value := .slice none 0 0
theorem ko_below {W W' : World} (k : Below W.heap.size W W') : KeepsOthers W W' :=
  KeepsOthers.of_grownBy (row := none) ⟨k.os, k.tape, k.output, k.size, fun i hi _ => k.block i hi⟩ (fun j o e _ => by cases e)
theorem owni_set {W : World} {R : Nat} {v : Value} {L : List Int} (h : OwnI W R v L) {q : Addr} (hq : q.block < R) (u : Value) : OwnI (W.setCell q u) R v L := ownsRow_setCell_below h hq u

/-- between two rounds -/
def TI (w : World) (p : Addr) (pre : List (Nat × Int)) (W : World) : Prop :=
  (Path (came pre) ∧ AtV W w.heap.size zT zS ∧ At1 W (w.heap.size + 1) .nilIface ∧ (∃ v, AtV W (w.heap.size + 1 + 1) (.int .u64 (bitsH (came pre) : Int)) v ∧ OwnI W (w.heap.size + 3) v (came pre)) ∧ EV W p) ∧ Below w.heap.size w W
/-- a round has returned -/
def TX (w : World) (p : Addr) (c : Code) (pre : List (Nat × Int)) (W : World) : Prop :=
  (c = .ret ∧ ¬ Path (came pre) ∧ AtV W w.heap.size zT zS ∧ At1 W (w.heap.size + 1) (errV p)) ∧ Below w.heap.size w W
/-- what trackOf answers -/
def Trk (w : World) (p : Addr) (L : List Int) (e : Ending) (w' : World) : Prop := (Path L ∧ OwnT w L e w') ∨ (¬ Path L ∧ e = .returned (noTrack p) ∧ Below w.heap.size w w')

set_option maxRecDepth 100000 in
set_option maxHeartbeats 2000000 in
theorem track_in (a : Option Addr) (cap : Nat) (L : List Int) (w : World) (p : Addr) (hl : L.length ≤ 4000000) (hI : IntA w a L) (hE : EV w p) :
    CallsIn Fence.wide 10 Tryd.prog 51 #[.slice a L.length cap] w (Trk w p L) := by
  refine callsIn_of_wp_marks Tryd.func51 rfl trivial ?_ rfl
  simp only [Tryd.ntmps51, List.size_toArray, List.length_cons, List.length_nil, Nat.reduceAdd, Nat.reduceSub, Array.replicate_succ, Array.replicate_zero, List.push_toArray, List.append_toArray, List.nil_append, List.cons_append]
  gi_wp2_with fail
  refine ⟨trivial, (callsIn_wide.2 (back_any a L.length cap _)).mono ?_⟩
  rintro e w1 ⟨rfl, rfl⟩
  gi_wp2_with fail
  have hB0 : Below w.heap.size w ((((w.alloc (.cells #[zT, zS] 76)).alloc (.cells #[.nilIface] 78)).alloc (.cells #[zT, zS] 76)).alloc (.cells #[.slice a L.length cap] 27)) :=
    ((((Below.refl _ w).alloc (Nat.le_refl _) _).alloc (by simp) _).alloc (by simp; omega) _).alloc (by simp; omega) _
  have rR := (((AtV.new w zT zS 76).alloc (.cells #[.nilIface] 78)).alloc (.cells #[zT, zS] 76)).alloc (.cells #[.slice a L.length cap] 27)
  have rN := ((At1.new (w.alloc (.cells #[zT, zS] 76)) .nilIface 78).alloc (.cells #[zT, zS] 76)).alloc (.cells #[.slice a L.length cap] 27)
  have rT := (AtV.new ((w.alloc (.cells #[zT, zS] 76)).alloc (.cells #[.nilIface] 78)) zT zS 76).alloc (.cells #[.slice a L.length cap] 27)
  have rS := At1.new (((w.alloc (.cells #[zT, zS] 76)).alloc (.cells #[.nilIface] 78)).alloc (.cells #[zT, zS] 76)) (.slice a L.length cap) 27
  have hE0 := (((hE.alloc (.cells #[zT, zS] 76)).alloc (.cells #[.nilIface] 78)).alloc (.cells #[zT, zS] 76)).alloc (.cells #[.slice a L.length cap] 27)
  have hI0 := (((hI.alloc (.cells #[zT, zS] 76)).alloc (.cells #[.nilIface] 78)).alloc (.cells #[zT, zS] 76)).alloc (.cells #[.slice a L.length cap] 27)
  have hsz : ((((w.alloc (.cells #[zT, zS] 76)).alloc (.cells #[.nilIface] 78)).alloc (.cells #[zT, zS] 76)).alloc (.cells #[.slice a L.length cap] 27)).heap.size = w.heap.size + 4 := by simp
  have hEl := hE.lt
  simp only [World.size_alloc] at rN rT rS
  generalize ((((w.alloc (.cells #[zT, zS] 76)).alloc (.cells #[.nilIface] 78)).alloc (.cells #[zT, zS] 76)).alloc (.cells #[.slice a L.length cap] 27)) = W0 at *
  refine wpIn_rangeFunc_ownG rfl (by omega) (gf := 101) (lb := #[.pointer (some ⟨w.heap.size + 1 + 1 + 1, 0, none⟩)]) rfl trivial (enters_of Tryd.func101 (by kernel_rfl) rfl)
    (back_stops _ (w.heap.size + 1 + 1 + 1) (w.heap.size + 1 + 1) a cap L hl W0 rS.1 (by omega) hI0 (fun hne b off e => by have := hI.lt hne b off e; omega)) KP.trans (fun W l o o' h1 h2 h3 h4 => KP.put l o o' h1 h2 h3 h4) (Below.refl _ _) (fun _ => rfl)
    (TI w p) (TX w p)
    (OwnFrom.and (Own.from (fun s A B row hs hg hr => ⟨hs.1, hs.2.1.kept hg hr, hs.2.2.1.kept hg hr, by obtain ⟨v, h1, h2⟩ := hs.2.2.2.1; exact ⟨v, h1.kept hg hr, owni_keptO h2 hg hr⟩, cell_kept hs.2.2.2.2 hg hr⟩) _) (ownFrom_below (Nat.le_refl _) (by omega)))
    (fun c => OwnFrom.and (Own.from (fun s A B row hs hg hr => ⟨hs.1, hs.2.1, hs.2.2.1.kept hg hr, hs.2.2.2.kept hg hr⟩) _) (ownFrom_below (Nat.le_refl _) (by omega)))
    ⟨⟨Path.nil, rR, rN, ⟨zS, rT, owni_nil _ _⟩, hE0⟩, hB0⟩
    (fun x => { tmps := #[.slice a L.length cap, undef, .pointer (some ⟨w.heap.size, 0, none⟩), .pointer (some ⟨w.heap.size + 1, 0, none⟩), .pointer (some ⟨w.heap.size + 1 + 1, 0, none⟩), undef, .int .i64 x.2, undef, undef, .slice a L.length cap, .func (.func 101) #[] #[.pointer (some ⟨w.heap.size + 1 + 1 + 1, 0, none⟩)], .int .i64 (x.1 : Int), .int .i64 x.2, undef, undef, undef, undef, undef, undef, undef, undef, undef, undef, undef, undef], defers := [] })
    ?assign ?body ?done ?stop
  case assign =>
    intro l x W K hK
    simp only [encB]
    gi_wp2
    exact hK
  case body =>
    rintro l pre x W ⟨⟨hp, hR, hN, ⟨v, hT, hO⟩, hEv⟩, hB⟩ _
    obtain ⟨a2, c2, rfl, hc2, hI2⟩ := OwnI.tab hO
    obtain ⟨x1, x2⟩ := x
    have hlt : w.heap.size + 1 + 1 < W.heap.size := hT.lt
    obtain ⟨t0, t1, _, _⟩ := id hT
    have HA := Lib.hid (And.intro hR (And.intro hN (And.intro hT (And.intro hO (And.intro hEv hB)))))
    generalize hM : came pre = M at *
    have HM := Lib.hid hM
    clear hM hR hN hT hO hEv hB
    by_cases hx : Path (x2 :: M)
    · obtain ⟨⟨h1, h5⟩, hm, _⟩ := path_cons.1 hx
      have HX := Lib.hid hx
      clear hx
      gi_wp2_with fail
      refine ⟨trivial, CallsIn.inRound l ((callsIn_wide.2 (ahead_yes hp h1 h5 (decide_eq_false hm) a2 c2 _ hI2 hc2)).mono ?_)⟩
      rintro e W1 ⟨v1, rfl, hO1, hb1⟩
      obtain ⟨a3, c3, rfl, hc3, hI3⟩ := OwnI.tab hO1
      have hR1 := (HA.out.1.below hb1).alloc (.cells #[.int .u64 (bitsH (x2 :: M) : Int), .slice a3 (M.length + 1) c3] 76)
      have hN1 := (HA.out.2.1.below hb1).alloc (.cells #[.int .u64 (bitsH (x2 :: M) : Int), .slice a3 (M.length + 1) c3] 76)
      have hT1 := (HA.out.2.2.1.below hb1).alloc (.cells #[.int .u64 (bitsH (x2 :: M) : Int), .slice a3 (M.length + 1) c3] 76)
      have hO2 := hO1.alloc (.cells #[.int .u64 (bitsH (x2 :: M) : Int), .slice a3 (M.length + 1) c3] 76)
      have hE1 := (HA.out.2.2.2.2.1.below hb1).alloc (.cells #[.int .u64 (bitsH (x2 :: M) : Int), .slice a3 (M.length + 1) c3] 76)
      have hB1 := (next HA.out.2.2.2.2.2 hb1).alloc (next HA.out.2.2.2.2.2 hb1).size (.cells #[.int .u64 (bitsH (x2 :: M) : Int), .slice a3 (M.length + 1) c3] 76)
      have hK1 := hb1.alloc hb1.size (.cells #[.int .u64 (bitsH (x2 :: M) : Int), .slice a3 (M.length + 1) c3] 76)
      have hL1 := AtV.new W1 (.int .u64 (bitsH (x2 :: M) : Int)) (.slice a3 (M.length + 1) c3) 76
      have hs1 := hb1.size
      clear hb1 hO1 hI3 t0 t1 hI2
      have HZ := Lib.hid (And.intro hR1 (And.intro hN1 (And.intro hO2 (And.intro hE1 (And.intro hB1 (And.intro hK1 hT1))))))
      obtain ⟨l0, l1, _, _⟩ := hL1
      obtain ⟨t0, t1, t2, t3⟩ := hT1
      clear hR1 hN1 hO2 hE1 hB1 hK1
      gi_wp2
      obtain ⟨zR, zN, zO, zE, zB, zK, zTt⟩ := HZ.out
      exact ⟨(((ko_below zK).trans (KeepsOthers.setCell _ _ _)).trans (KeepsOthers.setCell _ _ _)).from _,
        ((KP.below zK).trans (KP.set _ 0 _)).trans (KP.set _ 1 _),
        ⟨by rw [came_snoc, HM.out]; exact HX.out, (zR.far ⟨w.heap.size + 1 + 1, 0, none⟩ _ (by simp; omega)).far ⟨w.heap.size + 1 + 1, 1, none⟩ _ (by simp; omega),
          (zN.far ⟨w.heap.size + 1 + 1, 0, none⟩ _ (by simp)).far ⟨w.heap.size + 1 + 1, 1, none⟩ _ (by simp),
          ⟨_, by rw [came_snoc, HM.out]; exact zTt.put _ _, by rw [came_snoc, HM.out]; exact owni_mono (owni_set (owni_set zO (q := ⟨w.heap.size + 1 + 1, 0, none⟩) hlt _) (q := ⟨w.heap.size + 1 + 1, 1, none⟩) hlt _) (by omega)⟩,
          (zE.far ⟨w.heap.size + 1 + 1, 0, none⟩ _ (by simp)).far ⟨w.heap.size + 1 + 1, 1, none⟩ _ (by simp)⟩,
        below_put zB (by omega) _ _⟩
    · have HX := Lib.hid hx
      cases hh : isH x2 with
      | false =>
        clear hx
        gi_wp2_with fail
        refine ⟨trivial, CallsIn.inRound l ((callsIn_wide.2 (ahead_no1 hh _ a2 _ c2 _ p HA.out.2.2.2.2.1)).mono ?_)⟩
        rintro e W1 ⟨rfl, hb1⟩
        have hR1 := (HA.out.1.below hb1).alloc (.cells #[zT, zS] 76)
        have hN1 := (HA.out.2.1.below hb1).alloc (.cells #[zT, zS] 76)
        have hB1 := (next HA.out.2.2.2.2.2 hb1).alloc (next HA.out.2.2.2.2.2 hb1).size (.cells #[zT, zS] 76)
        have hK1 := hb1.alloc hb1.size (.cells #[zT, zS] 76)
        clear hb1 t0 t1 hI2
        have HZ := Lib.hid (And.intro hR1 (And.intro hN1 (And.intro hB1 hK1)))
        obtain ⟨t0, t1, t2, t3⟩ := hR1
        obtain ⟨n0, n1⟩ := hN1
        clear hB1 hK1
        gi_wp2
        exact ⟨((((ko_below HZ.out.2.2.2).trans (KeepsOthers.setCell _ _ _)).trans (KeepsOthers.setCell _ _ _)).trans (KeepsOthers.setCell _ _ _)).from _,
          ⟨rfl, by rw [came_snoc, HM.out]; exact HX.out, (HZ.out.1.put zT zS).far ⟨w.heap.size + 1, 0, none⟩ _ (by simp),
            ((HZ.out.2.1.far ⟨w.heap.size, 0, none⟩ _ (by simp)).far ⟨w.heap.size, 1, none⟩ _ (by simp)).put _⟩,
          (below_put HZ.out.2.2.1 (Nat.le_refl _) _ _).setCell (p := ⟨w.heap.size + 1, 0, none⟩) (by show w.heap.size ≤ w.heap.size + 1; omega) _⟩
      | true =>
        have hm : decide (x2 ∈ M) = true := by
          rw [decide_eq_true_eq]
          by_cases k : x2 ∈ M
          · exact k
          · exact (hx (path_cons.2 ⟨(isH_iff _).1 hh, k, hp⟩)).elim
        clear hx
        gi_wp2_with fail
        refine ⟨trivial, CallsIn.inRound l ((callsIn_wide.2 (ahead_no2 hp hh hm a2 _ c2 _ p HA.out.2.2.2.2.1)).mono ?_)⟩
        rintro e W1 ⟨rfl, hb1⟩
        have hR1 := (HA.out.1.below hb1).alloc (.cells #[zT, zS] 76)
        have hN1 := (HA.out.2.1.below hb1).alloc (.cells #[zT, zS] 76)
        have hB1 := (next HA.out.2.2.2.2.2 hb1).alloc (next HA.out.2.2.2.2.2 hb1).size (.cells #[zT, zS] 76)
        have hK1 := hb1.alloc hb1.size (.cells #[zT, zS] 76)
        clear hb1 t0 t1 hI2
        have HZ := Lib.hid (And.intro hR1 (And.intro hN1 (And.intro hB1 hK1)))
        obtain ⟨t0, t1, t2, t3⟩ := hR1
        obtain ⟨n0, n1⟩ := hN1
        clear hB1 hK1
        gi_wp2
        exact ⟨((((ko_below HZ.out.2.2.2).trans (KeepsOthers.setCell _ _ _)).trans (KeepsOthers.setCell _ _ _)).trans (KeepsOthers.setCell _ _ _)).from _,
          ⟨rfl, by rw [came_snoc, HM.out]; exact HX.out, (HZ.out.1.put zT zS).far ⟨w.heap.size + 1, 0, none⟩ _ (by simp),
            ((HZ.out.2.1.far ⟨w.heap.size, 0, none⟩ _ (by simp)).far ⟨w.heap.size, 1, none⟩ _ (by simp)).put _⟩,
          (below_put HZ.out.2.2.1 (Nat.le_refl _) _ _).setCell (p := ⟨w.heap.size + 1, 0, none⟩) (by show w.heap.size ≤ w.heap.size + 1; omega) _⟩
  case done =>
    rintro D ys W hD rfl ⟨⟨hp, hR, hN, ⟨v, hT, hO⟩, hEv⟩, hB⟩ hK
    have hcame : came (backL L L.length) = L := by rw [came_back L _ (Nat.le_refl _)]; simp
    rw [hcame] at hp hT hO
    obtain ⟨a2, c2, rfl, hc2, hI2⟩ := OwnI.tab hO
    have HP := Lib.hid hp
    clear hcame hp
    obtain ⟨t0, t1, _, _⟩ := id hT
    obtain ⟨r0, r1, r2, r3⟩ := id hR
    obtain ⟨n0, n1⟩ := id hN
    gi_wp2
    have q2 := (hR.put (.int .u64 (bitsH L : Int)) (.slice a2 L.length c2)).far ⟨w.heap.size + 1, 0, none⟩ .nilIface (by simp)
    have q3 := ((hN.far ⟨w.heap.size, 0, none⟩ (.int .u64 (bitsH L : Int)) (by simp)).far ⟨w.heap.size, 1, none⟩ (.slice a2 L.length c2) (by simp)).put .nilIface
    have q4 := (below_put hB (Nat.le_refl _) (.int .u64 (bitsH L : Int)) (.slice a2 L.length c2)).setCell (p := ⟨w.heap.size + 1, 0, none⟩) (show w.heap.size ≤ w.heap.size + 1 by omega) .nilIface
    have q5 := owni_mono (owni_set (owni_set (owni_set hO (q := ⟨w.heap.size, 0, none⟩) (by show w.heap.size < w.heap.size + 3; omega) (.int .u64 (bitsH L : Int))) (q := ⟨w.heap.size, 1, none⟩) (by show w.heap.size < w.heap.size + 3; omega) (.slice a2 L.length c2)) (q := ⟨w.heap.size + 1, 0, none⟩) (by show w.heap.size + 1 < w.heap.size + 3; omega) .nilIface) (show w.heap.size ≤ w.heap.size + 3 by omega)
    have hK' := (((KeepsOthers.setCell W ⟨w.heap.size, 0, none⟩ (.int .u64 (bitsH L : Int))).trans (KeepsOthers.setCell _ ⟨w.heap.size, 1, none⟩ (.slice a2 L.length c2))).trans (KeepsOthers.setCell _ ⟨w.heap.size + 1, 0, none⟩ .nilIface)).same D _ hK rfl
    generalize ((W.setCell ⟨w.heap.size, 0, none⟩ (.int .u64 (bitsH L : Int))).setCell ⟨w.heap.size, 1, none⟩ (.slice a2 L.length c2)).setCell ⟨w.heap.size + 1, 0, none⟩ .nilIface = V at *
    refine ⟨by simp, .inl ⟨_, _, rfl, run_takeDeferred hK', ?_⟩⟩
    obtain ⟨e0, e1, _, _⟩ := q2.kept (grownBy_putObj' V D (.deferred none)) (fun r e => by cases e; exact ⟨_, hK', rfl⟩)
    obtain ⟨e2, _⟩ := q3.kept (grownBy_putObj' V D (.deferred none)) (fun r e => by cases e; exact ⟨_, hK', rfl⟩)
    have e5 := owni_keptO q5 (grownBy_putObj' V D (.deferred none)) (fun r e => by cases e; exact ⟨_, hK', rfl⟩)
    refine ⟨.tuple #[.agg #[.int .u64 (bitsH L : Int), .slice a2 L.length c2], .nilIface], ?_, .inl ⟨HP.out, _, rfl, e5, q4.trans (belowK_b (w := w) (Nat.le_refl _) _ D _ _ (by omega) hK' rfl rfl)⟩⟩
    simp [results, Tryd.f51, go_sem, e0, e1, e2]
  case stop =>
    rintro D c pre W hD ⟨k, hk, rfl⟩ ⟨⟨rfl, hnp, hR, hN⟩, hB⟩ hK
    rw [came_back L k hk] at hnp
    gi_wp2
    refine ⟨by simp, .inl ⟨_, _, rfl, run_takeDeferred hK, ?_⟩⟩
    obtain ⟨e0, e1, _, _⟩ := hR.kept (grownBy_putObj' W D (.deferred none)) (fun r e => by cases e; exact ⟨_, hK, rfl⟩)
    obtain ⟨e2, _⟩ := hN.kept (grownBy_putObj' W D (.deferred none)) (fun r e => by cases e; exact ⟨_, hK, rfl⟩)
    refine ⟨noTrack p, ?_, .inr ⟨fun h => hnp (h.drop _), rfl, hB.trans (belowK_b (w := w) (Nat.le_refl _) _ D _ _ (by omega) hK rfl rfl)⟩⟩
    simp [results, Tryd.f51, go_sem, e0, e1, e2]

theorem track_yes {L : List Int} (hp : Path L) (a : Option Addr) (cap : Nat) (w : World) (p : Addr) (hI : IntA w a L) (hE : EV w p) : Calls Tryd.prog 51 #[.slice a L.length cap] w (OwnT w L) := by
  have h5 := hp.len
  refine (callsIn_wide.1 (track_in a cap L w p (by omega) hI hE)).mono ?_
  rintro e w' (⟨_, h⟩ | ⟨h, _⟩)
  · exact h
  · exact (h hp).elim
theorem track_no {L : List Int} (hp : ¬ Path L) (a : Option Addr) (cap : Nat) (w : World) (p : Addr) (hl : L.length ≤ 4000000) (hI : IntA w a L) (hE : EV w p) :
    Calls Tryd.prog 51 #[.slice a L.length cap] w fun e w' => e = .returned (noTrack p) ∧ Below w.heap.size w w' := by
  refine (callsIn_wide.1 (track_in a cap L w p hl hI hE)).mono ?_
  rintro e w' (⟨h, _⟩ | ⟨_, h⟩)
  · exact (hp h).elim
  · exact h
end Go.Proofs.YthkaaamgkmmeeaaDoor
