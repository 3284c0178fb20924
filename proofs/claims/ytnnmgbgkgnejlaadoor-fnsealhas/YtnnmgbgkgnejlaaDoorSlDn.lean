/-
  Drawn routes, seals and holdings, as the walks of the laws ask for them.
-/
import Derived.Test.YtnnmgbgkgnejlaaDoorSlDo
import Derived.Test.YtnnmgbgkgnejlaaDoorSlIn
import Derived.Test.YtnnmgbgkgnejlaaDoorSlMa
import Derived.Test.YtnnmgbgkgnejlaaDoorSlLy
namespace Go.Proofs.YtnnmgbgkgnejlaaDoor
open Go.RowKit
set_option linter.unusedSimpArgs false
set_option linter.unusedVariables false

theorem SlO.sla {w : World} {R n c : Nat} {a : Option Addr} {L : List SV} (h : SlO w R (.slice a n c) L) (hl : ∀ x ∈ L, x.P.length ≤ 2000000) : SlA w a L := OwnSl.sla h.1 (fun x hx => ⟨(OwnI.intA (h.2 x hx)).2.2, (OwnI.intA (h.2 x hx)).2.1, hl x hx⟩)
/-- a route's box, and all that walks lean on -/
structure Sm (w0 w : World) (p : Addr) (X : Nat) (f b : Int) (a : Option Addr) (c : Nat) (P : List Int) (l : Int) (d : Option Addr) (e : Nat) (M : List Int) : Prop where
  bel : Below w0.heap.size w0 w
  rt : RtM w a c P d e M
  ev : EV w p
  pw : PowS w
  box : AtY w X [.int .i64 f, .int .i64 b, .slice a P.length c, .int .i64 l, .slice d M.length e]
theorem Sm.go {w0 w w' : World} {p : Addr} {X : Nat} {f b : Int} {a : Option Addr} {c : Nat} {P : List Int} {l : Int} {d : Option Addr} {e : Nat} {M : List Int} (h : Sm w0 w p X f b a c P l d e M) (k : Below w.heap.size w w') : Sm w0 w' p X f b a c P l d e M :=
  ⟨next h.bel k, h.rt.below k, h.ev.below k, h.pw.next k, h.box.below k⟩
/-- a drawn route lies in a variable -/
theorem Sm.mk' {w0 w1 w2 : World} {p : Addr} {f b : Int} {a : Option Addr} {c : Nat} {P : List Int} {l : Int} {d : Option Addr} {e : Nat} {M : List Int} {o : Obj} (hb : Below w0.heap.size w0 w1) (hr : RtM w1 a c P d e M) (he : EV w0 p) (ht : PowS w0)
    (aa : AtY w2 w1.heap.size [.int .i64 f, .int .i64 b, .slice a P.length c, .int .i64 l, .slice d M.length e]) (gg : (w1.alloc o).grownBy w2 (some w1.heap.size)) : Below w1.heap.size w1 w2 ∧ Sm w0 w2 p w1.heap.size f b a c P l d e M := by
  have bb : Below w1.heap.size w1 w2 := ((Below.refl w1.heap.size w1).alloc (Nat.le_refl _) o).grown gg (by simp) (fun k hk => by cases hk; exact Nat.le_refl _)
  exact ⟨bb, next hb bb, hr.below bb, he.below (next hb bb), ht.next (next hb bb), aa⟩
/-- drawn: a route and a house -/
def DrM (w : World) (en : Ending) (w' : World) : Prop := ∃ (f b l : Int) (P M : List Int) (a : Option Addr) (c : Nat) (d : Option Addr) (e : Nat) (t : Int), en = .returned (.tuple #[.agg #[.int .i64 f, .int .i64 b, .slice a P.length c, .int .i64 l, .slice d M.length e], .int .i64 t]) ∧ (P.length ≤ 6 ∧ M.length ≤ 11 ∧ 0 ≤ t ∧ t < 7) ∧ RtM w' a c P d e M ∧ Below w.heap.size w w'
theorem drM_any (a0 : Option Addr) (len0 cap0 : Nat) (zs0 : List Int) (w : World) (h : IsRow w a0 len0 cap0 zs0) :
    Calls Tryd.prog 16 #[.slice a0 len0 cap0] w (DrM w) :=
  (dSealMake_any a0 len0 cap0 zs0 w h).mono fun en w' ⟨f, b, l, P, M, pv, mv, t, he, hb, ⟨hP, hM⟩, bb⟩ => by
    obtain ⟨a, c, rfl, _, _⟩ := OwnI.tab hP
    obtain ⟨d, e, rfl, _, _⟩ := OwnI.tab hM
    exact ⟨f, b, l, P, M, a, c, d, e, t, he, hb, rtm_own hP hM (by omega) (by omega), bb⟩
/-- drawn: holdings, seals, a route and a house -/
def DrS (w : World) (en : Ending) (w' : World) : Prop := ∃ (f b l t : Int) (P M : List Int) (a : Option Addr) (c : Nat) (d : Option Addr) (e : Nat) (al : Option Addr) (cl : Nat) (L : List SV) (ah : Option Addr) (ch : Nat) (H : List HV),
  en = .returned (.tuple #[.slice ah H.length ch, .slice al L.length cl, .agg #[.int .i64 f, .int .i64 b, .slice a P.length c, .int .i64 l, .slice d M.length e], .int .i64 t]) ∧
  (H.length ≤ 5 ∧ L.length ≤ 12 ∧ P.length ≤ 6 ∧ M.length ≤ 11 ∧ 0 ≤ t ∧ t ≤ 6) ∧ (H.length ≤ ch ∧ L.length ≤ cl) ∧ (∀ x ∈ L, SpW x.p) ∧ OwnHv w' w.heap.size (.slice ah H.length ch) H ∧ SlO w' w.heap.size (.slice al L.length cl) L ∧ SlA w' al L ∧ RtM w' a c P d e M ∧ Below w.heap.size w w'
theorem drS_of {w w' : World} {en : Ending} (h : DnSO w en w') : DrS w en w' := by
  obtain ⟨f, b, l, t, P, M, a, c, d, e, al, cl, L, ah, ch, H, he, ⟨b1, b2, b3, b4, b5, b6, b7⟩, ⟨oH, oL, ⟨pa, pc, pP, o1, o2, o3⟩, oM⟩, bb⟩ := h
  obtain ⟨_, _, e1, k1⟩ := OwnHv.tab oH
  obtain ⟨_, _, e2, k2⟩ := OwnSl.tab oL.1
  injection e1 with _ _ e1
  injection e2 with _ _ e2
  refine ⟨f, b, l, t, P, M, a, c, d, e, al, cl, L, ah, ch, H, he, ⟨b1, b2, b3, b4, b5, b6⟩, ⟨by omega, by omega⟩, fun x hx => (b7 x hx).2, oH, oL, SlO.sla oL (fun x hx => by have := (b7 x hx).1; omega), ⟨⟨o2 _ (OwnI.intA o1).2.2, (OwnI.intA oM).2.2⟩, o3, (OwnI.intA oM).2.1, by omega, by omega⟩, bb⟩
theorem drO_any (a0 : Option Addr) (len0 cap0 : Nat) (zs0 : List Int) (w : World) (h : IsRow w a0 len0 cap0 zs0) :
    Calls Tryd.prog 29 #[.slice a0 len0 cap0] w (DrS w) := (dSealOk_any a0 len0 cap0 zs0 w h).mono fun en w' hh => drS_of hh
theorem drL_any (a0 : Option Addr) (len0 cap0 : Nat) (zs0 : List Int) (w : World) (h : IsRow w a0 len0 cap0 zs0) :
    Calls Tryd.prog 24 #[.slice a0 len0 cap0] w (DrS w) := (dSealLacks_any a0 len0 cap0 zs0 w h).mono fun en w' hh => drS_of hh
/-- one holding that a call made -/
theorem hva_one (w : World) (h f b : Int) : HvA (w.alloc (.cells #[.int .i64 h, .int .i64 f, .int .i64 b] 48)) (some ⟨w.heap.size, 0, none⟩) [⟨h, f, b⟩] :=
  .inr ⟨_, 0, rfl, fun i v hi => by
    match i, hi with
    | 0, hi =>
      obtain rfl : (⟨h, f, b⟩ : HV) = v := by simpa using hi
      exact ⟨by simp, by simp, by simp⟩⟩
theorem path_last {P : List Int} {w : World} {a : Option Addr} (hI : IntA w a P) (h0 : 0 < P.length) : ∃ pb po, a = some ⟨pb, po, none⟩ ∧ w.cell? ⟨pb, po + (P.length - 1), none⟩ = some (.int .i64 (P.getD (P.length - 1) 0)) := by
  obtain ⟨pb, po, x, e, hx, cx⟩ := hI.at (show P.length - 1 < P.length by omega)
  exact ⟨pb, po, e, by rw [cx]; simp [List.getD, hx]⟩
theorem sealsP_len (L : List SV) : (sealsP L).length = L.length := by simp [sealsP]
theorem make_nil {f b l t : Int} {P M : List Int} {L : List SV} (h : sealsP L = makeS f b P l M t) (k : tellB f b P l M t = false) : L = [] := by
  rw [makeS, k] at h
  cases L with
  | nil => rfl
  | cons x L => simp [sealsP] at h
theorem make_all {f b l t : Int} {P M : List Int} {L : List SV} (h : sealsP L = makeS f b P l M t) (k : tellB f b P l M t = true) : sealsP L = sealsOf f b t P ∧ L.length = P.length := by
  rw [makeS, k] at h
  have h1 : sealsP L = sealsOf f b t P := h
  exact ⟨h1, by have := congrArg List.length h1; rwa [sealsP_len, sealsOf_len] at this⟩
theorem AtY.new2 (w : World) (a b : Value) (t : TypeId) : AtY (w.alloc (.cells #[a, b] t)) w.heap.size [a, b] := fun j v hj => by
  match j, hj with
  | 0, h | 1, h => simp at h; subst h; exact ⟨by simp, by simp⟩
  | n + 2, h => simp at h
/-- two fields ahead of all are stored -/
theorem wpList_st2Y {P : Program} {ops : Array Oper} {rest : List Oper} {op : Oper} {a : Act} {w : World} {Q : Exit → Act → World → Prop} (hgd : op.guard = none) (ty : TypeId) (x y : Operand) (ho : op.op = .store ty x y)
    (R : Nat) (x0 x1 : Value) (hx : a.eval x = .pointer (some ⟨R, 0, none⟩)) (hy : a.eval y = .agg #[x0, x1]) (h1 : x0.oneCell' = true ∧ x1.oneCell' = true) (hi : (P.info? ty).map (·.size) = some 2)
    (u v : Value) (T : List Value) (hA : AtY w R (u :: v :: T))
    (h : ∀ w', AtY w' R (x0 :: x1 :: T) → w.grownBy w' (some R) → wpList P ops Q rest (a.put op.dst undef) w') : wpList P ops Q (op :: rest) a w := by
  refine wpList_plain hgd fun K hK => ?_
  refine Go.wp_store_mid ty x y ho R 0 #[x0, x1] hx hy (hA.there (by simp)) hi (by simp [h1]) (hK _ _ (h _ (fun j z hj => ?_) (onlyY_sets _ _ _)))
  have hc := fun j (hj : j < 2) => (hA.there (n := 2) (by simp)) j hj
  have e : w.setCells R 0 [x0, x1] = (w.setCell ⟨R, 0, none⟩ x0).setCell ⟨R, 1, none⟩ x1 := rfl
  show (w.setCells R 0 [x0, x1]).cell? _ = _ ∧ (w.setCells R 0 [x0, x1]).frozen? _ = _
  rw [e]
  obtain ⟨c0, f0⟩ := hA 0 u rfl
  obtain ⟨c1, f1⟩ := hA 1 v rfl
  match j, hj with
  | 0, hj =>
    obtain rfl : x0 = z := by simpa using hj
    exact ⟨by rw [World.cell?_setCell_other _ _ _ _ (by simp)]; exact World.cell?_setCell_same' _ _ _ (by rw [c0]; rfl), by rw [World.frozen?_setCell, World.frozen?_setCell]; exact f0⟩
  | 1, hj =>
    obtain rfl : x1 = z := by simpa using hj
    exact ⟨World.cell?_setCell_same' _ _ _ (by rw [World.cell?_setCell_other _ _ _ _ (by simp), c1]; rfl), by rw [World.frozen?_setCell, World.frozen?_setCell]; exact f1⟩
  | j + 2, hj =>
    obtain ⟨p1, p2⟩ := hA (j + 2) z (by simpa using hj)
    exact ⟨by rw [World.cell?_setCell_other _ _ _ _ (by simp), World.cell?_setCell_other _ _ _ _ (by simp)]; exact p1, by rw [World.frozen?_setCell, World.frozen?_setCell]; exact p2⟩
theorem rtm_like {w : World} {a d : Option Addr} {c e : Nat} {P M : List Int} (h : RtM w a c P d e M) : RtM w a c P none 0 [] := ⟨⟨h.1.1, .inl rfl⟩, h.2.1, Nat.le_refl _, h.2.2.2.1, by simp⟩
end Go.Proofs.YtnnmgbgkgnejlaaDoor
