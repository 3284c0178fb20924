/-
  Drawn routes: whatever the bytes, a route of small slices in memory of its own.
-/
import Derived.Test.YtnnmgbgkgnejlaaDoorRtMk
import Derived.Test.YtnnmgbgkgnejlaaDoorDrawR
namespace Go.Proofs.YtnnmgbgkgnejlaaDoor
open Go.RowKit
set_option linter.unusedSimpArgs false
set_option linter.unusedVariables false

def Markd (w : World) (B p : Nat) (e : Ending) (w' : World) : Prop :=
  ∃ (v : Value) (L : List Int) (p' : Nat), e = .returned v ∧ L.length ≤ 9 ∧ OwnI w' w.heap.size v L ∧ Rd w' B p' ∧ p' ≤ p + 9 ∧ w.grownBy w' (some B)

set_option maxRecDepth 100000 in
set_option maxHeartbeats 4000000 in
theorem marks_any (w : World) (B p : Nat) (hp : p < 990000) (hr : Rd w B p) :
    Calls Tryd.prog 89 #[.pointer (some ⟨B, 0, none⟩)] w (Markd w B p) := by
  have hBw := rd_lt hr
  have I1 : Hid (PthI w B p [] (.slice (some ⟨w.heap.size, 0, none⟩) 0 0) (w.alloc (.cells #[] 3))) := Lib.hid ⟨owni_empty w w.heap.size (Nat.le_refl _), ⟨p, rd_alloc hr _, Nat.le_refl _⟩, only_alloc (World.grownBy.refl w (some B)) _⟩
  clear hr
  go_enter Tryd.func89, Tryd.ntmps89
  go_wp2_with fail
  go_loopw [3, 4] (fun v n wr => ∃ (k : Nat) (L : List Int), k ≤ 9 ∧ n = .int .i64 ((k : Int) + 1) ∧ L.length ≤ k ∧ PthI w B (p + k) L v wr) (fun _ n _ => 10 - (intOf n).toNat)
  case atStart => exact ⟨0, [], by omega, rfl, by simp, I1.out⟩
  case round =>
    obtain ⟨k, L, hk, rfl, hl, ho, ⟨q, hr, hq⟩, hG⟩ := hrel
    clear I1
    obtain ⟨av, pv, rfl, hcv, tv⟩ := OwnI.tab ho
    by_cases hk9 : k < 9
    · have HO := Lib.hid (And.intro ho (And.intro hr hG))
      have hsz := hG.size
      have i1 : (k : Int) + 1 ≤ 9 := by omega
      clear ho hr hG tv
      go_wp2_with fail
      refine (pick_any 5 _ B q (by omega) (by omega) HO.out.2.1).mono ?_
      rintro e w2 ⟨y, y0, y1, rfl, hr2, hg2⟩
      have HO2 := Lib.hid (And.intro (owni_pick HO.out.1 hg2 hBw) (And.intro hr2 (only_on HO.out.2.2 hg2)))
      have hs3 := HO2.out.2.2.size
      clear hr2 hg2 HO
      by_cases hz : y = 0
      · subst hz
        go_wp2_with (first | (at_builtin; refine wpList_appI rfl (.tmp 13) (.tmp 15) rfl w.heap.size _ L rfl (HO2.out.1.alloc _) _ 1 [(k : Int) + 1] rfl (pnews1 w2 _) (by simp) (by simp; omega) (by simp only [World.size_alloc]; omega) ?_; intro v5 w5 own5 grow5))
        have ho3 := HO2.out.1.alloc (.cells #[.int .i64 ((k : Int) + 1)] 3)
        have R : Hid (PthI w B (q + 1) (L ++ [(k : Int) + 1]) v5 w5) := Lib.hid ⟨own5, ⟨q + 1, prd_own (rd_alloc HO2.out.2.1 _) grow5 (OwnI.lt' ho3) hBw, by omega⟩, ponly_own (only_alloc HO2.out.2.2 _) grow5 (OwnI.lt' ho3)⟩
        clear own5 grow5 ho3 HO2
        go_wp2_with fail
        go_roundw
        case rel => exact ⟨k + 1, L ++ [(k : Int) + 1], by omega, by go_num, by simp; omega, R.out.more (by omega)⟩
        case measure => simp [intOf]; omega
      · have hz' : (y == 0) = false := by simpa using hz
        have R : Hid (PthI w B (q + 1) L (.slice av L.length pv) w2) := Lib.hid ⟨HO2.out.1, ⟨q + 1, HO2.out.2.1, by omega⟩, HO2.out.2.2⟩
        clear HO2
        go_wp2_with fail
        go_roundw
        case rel => exact ⟨k + 1, L, by omega, by go_num, by omega, R.out.more (by omega)⟩
        case measure => simp [intOf]; omega
    · obtain rfl : k = 9 := by omega
      have HO := Lib.hid (And.intro ho (And.intro hr hG))
      clear ho hr hG tv
      go_wp2_with fail
      go_ret
      exact ⟨_, _, _, rfl, by omega, HO.out.1, HO.out.2.1, by omega, HO.out.2.2⟩

/-- a route under way -/
structure Dr (w : World) (B q R3 : Nat) (f b : Int) (pv : Value) (P : List Int) (l : Int) (mv : Value) (M : List Int) (W : World) : Prop where
  ans : At5 W w.heap.size (.int .i64 0) (.int .i64 0) (.slice none 0 0) (.int .i64 0) (.slice none 0 0)
  box : At5 W R3 (.int .i64 f) (.int .i64 b) pv (.int .i64 l) mv
  oP : OwnI W (w.heap.size + 1) pv P
  oM : OwnI W (w.heap.size + 1) mv M
  ap : pv.ownBlock = none ∨ pv.ownBlock ≠ mv.ownBlock
  nP : pv.ownBlock ≠ some R3
  nM : mv.ownBlock ≠ some R3
  rd : ∃ q', Rd W B q' ∧ q' ≤ q
  gr : w.grownBy W (some B)
  lo : w.heap.size < R3
  lb : B < w.heap.size
  ty : ∃ cur, W.heap[R3]? = some (.cells cur 27 (0, 0))
section
variable {w W W' : World} {B q R3 : Nat} {f b : Int} {pv : Value} {P : List Int} {l : Int} {mv : Value} {M : List Int}
theorem Dr.pick (h : Dr w B q R3 f b pv P l mv M W) {q0 : Nat} (hr : Rd W' B q0) (hq : q0 ≤ q + 1) (hg : W.grownBy W' (some B)) : Dr w B (q + 1) R3 f b pv P l mv M W' := by
  have h1 := h.lo; have h2 := h.lb
  exact ⟨h.ans.only hg (by simp; omega), h.box.only hg (by simp; omega), owni_pick h.oP hg (by omega), owni_pick h.oM hg (by omega), h.ap, h.nP, h.nM, ⟨_, hr, hq⟩, only_on h.gr hg, h.lo, h.lb, by obtain ⟨cur, e⟩ := h.ty; exact ⟨cur, (hg.block R3 h.box.lt (by simp; omega)).trans e⟩⟩
theorem Dr.alloc (h : Dr w B q R3 f b pv P l mv M W) (o : Obj) : Dr w B q R3 f b pv P l mv M (W.alloc o) := by
  obtain ⟨q', r1, r2⟩ := h.rd
  exact ⟨h.ans.alloc o, h.box.alloc o, h.oP.alloc o, h.oM.alloc o, h.ap, h.nP, h.nM, ⟨q', rd_alloc r1 o, r2⟩, only_alloc h.gr o, h.lo, h.lb, by obtain ⟨cur, e⟩ := h.ty; exact ⟨cur, ((Below.refl W.heap.size W).alloc (Nat.le_refl _) o |>.block R3 h.box.lt).trans e⟩⟩
theorem Dr.drew (h : Dr w B q R3 f b pv P l mv M W) : Dr w B q R3 f b pv P l mv M W.drew := ⟨h.ans.drew, h.box.drew, h.oP.drew, h.oM.drew, h.ap, h.nP, h.nM, h.rd, only_drew h.gr, h.lo, h.lb, h.ty⟩
theorem Dr.setL (h : Dr w B q R3 f b pv P l mv M W) (x : Int) : Dr w B q R3 f b pv P x mv M (W.setCell ⟨R3, 3, none⟩ (.int .i64 x)) := by
  have h1 := h.lo; have h2 := h.lb
  obtain ⟨q', r1, r2⟩ := h.rd
  exact ⟨h.ans.far ⟨R3, 3, none⟩ _ (by show R3 ≠ w.heap.size; omega), h.box.put3 _, h.oP.kept (only_setCell W R3 3 _) (.inr h.nP), h.oM.kept (only_setCell W R3 3 _) (.inr h.nM), h.ap, h.nP, h.nM, ⟨q', rd_set r1 ⟨R3, 3, none⟩ _ (by show B < R3; omega), r2⟩, only_new h.gr ⟨R3, 3, none⟩ (by show w.heap.size ≤ R3; omega) _, h.lo, h.lb, by obtain ⟨cur, e⟩ := h.ty; exact ⟨_, heap_setCell_same W R3 3 cur _ _ e⟩⟩
theorem Dr.setP (h : Dr w B q R3 f b pv P l mv M W) {u : Value} {U : List Int} (ho : OwnI W (w.heap.size + 1) u U) (ha : u.ownBlock = none ∨ u.ownBlock ≠ mv.ownBlock) (hn : u.ownBlock ≠ some R3) : Dr w B q R3 f b u U l mv M (W.setCell ⟨R3, 2, none⟩ u) := by
  have h1 := h.lo; have h2 := h.lb
  obtain ⟨q', r1, r2⟩ := h.rd
  exact ⟨h.ans.far ⟨R3, 2, none⟩ _ (by show R3 ≠ w.heap.size; omega), h.box.put2 _, ho.kept (only_setCell W R3 2 _) (.inr hn), h.oM.kept (only_setCell W R3 2 _) (.inr h.nM), ha, hn, h.nM, ⟨q', rd_set r1 ⟨R3, 2, none⟩ _ (by show B < R3; omega), r2⟩, only_new h.gr ⟨R3, 2, none⟩ (by show w.heap.size ≤ R3; omega) _, h.lo, h.lb, by obtain ⟨cur, e⟩ := h.ty; exact ⟨_, heap_setCell_same W R3 2 cur _ _ e⟩⟩
/-- what the end asks -/
def Fz (w : World) (B q : Nat) (pv : Value) (P : List Int) (mv : Value) (M : List Int) (W : World) : Prop :=
  At5 W w.heap.size (.int .i64 0) (.int .i64 0) (.slice none 0 0) (.int .i64 0) (.slice none 0 0) ∧ OwnI W (w.heap.size + 1) pv P ∧ OwnI W (w.heap.size + 1) mv M ∧ (∃ q', Rd W B q' ∧ q' ≤ q) ∧ w.grownBy W (some B)
theorem Dr.fz (h : Dr w B q R3 f b pv P l mv M W) : Fz w B q pv P mv M W := ⟨h.ans, h.oP, h.oM, h.rd, h.gr⟩
/-- marks appended to, then stored -/
theorem Dr.appM (h : Dr w B q R3 f b pv P l mv M W) {u : Value} {U : List Int} (ho : OwnI W' (w.heap.size + 1) u U) (hg : W.grownBy W' mv.ownBlock) :
    Fz w B q pv P u U (W'.setCell ⟨R3, 4, none⟩ u) ∧ At5 W' R3 (.int .i64 f) (.int .i64 b) pv (.int .i64 l) mv ∧ At5 W' w.heap.size (.int .i64 0) (.int .i64 0) (.slice none 0 0) (.int .i64 0) (.slice none 0 0) := by
  have h1 := h.lo; have h2 := h.lb
  obtain ⟨q', r1, r2⟩ := h.rd
  obtain ⟨cur, e0⟩ := h.ty
  have e1 : W'.heap[R3]? = some (.cells cur 27 (0, 0)) := (hg.block R3 h.box.lt (fun e => h.nM e.symm)).trans e0
  have hu : u.ownBlock ≠ some R3 := fun e => by
    rcases ho.2 with ⟨rfl, _⟩ | ⟨g, cap, cur', rfl, _, hgg, _⟩
    · cases e
    · simp [Value.ownBlock] at e
      rw [e, e1] at hgg
      simp at hgg
  have bx := h.box.only hg (fun e => h.nM e.symm)
  have an := h.ans.only hg (fun e => by have := (h.oM.lt _ e.symm).1; omega)
  exact ⟨⟨an.far ⟨R3, 4, none⟩ _ (by show R3 ≠ w.heap.size; omega), (h.oP.kept hg h.ap).kept (only_setCell W' R3 4 _) (.inr h.nP), ho.kept (only_setCell W' R3 4 _) (.inr hu), ⟨q', rd_set (prd_own r1 hg (R := w.heap.size + 1) (fun k e => (h.oM.lt k e).1) (by omega)) ⟨R3, 4, none⟩ _ (by show B < R3; omega), r2⟩, only_new (ponly_own h.gr hg (fun k e => by have := (h.oM.lt k e).1; omega)) ⟨R3, 4, none⟩ (by show w.heap.size ≤ R3; omega) _⟩, bx, an⟩
end
def Rted (w : World) (B p : Nat) (en : Ending) (w' : World) : Prop :=
  ∃ (f b l : Int) (P M : List Int) (pv mv : Value) (p' : Nat), en = .returned (.agg #[.int .i64 f, .int .i64 b, pv, .int .i64 l, mv]) ∧ (P.length ≤ 6 ∧ M.length ≤ 11) ∧ (OwnI w' w.heap.size pv P ∧ OwnI w' w.heap.size mv M) ∧ Rd w' B p' ∧ p' ≤ p + 50 ∧ w.grownBy w' (some B)
/-- the answer's cells behind the last store -/
theorem dr_fin {w W : World} {B q : Nat} {pv mv : Value} {P M : List Int} {z0' z1 z2 z3 z4 : Value} (x0 x1 x3 : Value) (hP : OwnI W (w.heap.size + 1) pv P) (hM : OwnI W (w.heap.size + 1) mv M) (hA : At5 W w.heap.size z0' z1 z2 z3 z4)
    (hr : Rd W B q) (hg : w.grownBy W (some B)) (lb : B < w.heap.size) :
    At5 (set5 W w.heap.size x0 x1 pv x3 mv) w.heap.size x0 x1 pv x3 mv ∧ (OwnI (set5 W w.heap.size x0 x1 pv x3 mv) w.heap.size pv P ∧ OwnI (set5 W w.heap.size x0 x1 pv x3 mv) w.heap.size mv M) ∧ Rd (set5 W w.heap.size x0 x1 pv x3 mv) B q ∧ w.grownBy (set5 W w.heap.size x0 x1 pv x3 mv) (some B) := by
  have lt : ∀ o, (⟨w.heap.size, o, none⟩ : Addr).block < w.heap.size + 1 := fun o => by show w.heap.size < w.heap.size + 1; omega
  have own : ∀ {v : Value} {L : List Int}, OwnI W (w.heap.size + 1) v L → OwnI (set5 W w.heap.size x0 x1 pv x3 mv) w.heap.size v L := fun h =>
    owni_mono (owni_set (owni_set (owni_set (owni_set (owni_set h (lt 0) x0) (lt 1) x1) (lt 2) pv) (lt 3) x3) (lt 4) mv) (by omega)
  have gt : ∀ o, B < (⟨w.heap.size, o, none⟩ : Addr).block := fun o => lb
  have ge : ∀ o, w.heap.size ≤ (⟨w.heap.size, o, none⟩ : Addr).block := fun o => Nat.le_refl _
  exact ⟨hA.put _ _ _ _ _, ⟨own hP, own hM⟩, rd_set (rd_set (rd_set (rd_set (rd_set hr _ x0 (gt 0)) _ x1 (gt 1)) _ pv (gt 2)) _ x3 (gt 3)) _ mv (gt 4),
    only_new (only_new (only_new (only_new (only_new hg _ (ge 0) x0) _ (ge 1) x1) _ (ge 2) pv) _ (ge 3) x3) _ (ge 4) mv⟩

end Go.Proofs.YtnnmgbgkgnejlaaDoor
