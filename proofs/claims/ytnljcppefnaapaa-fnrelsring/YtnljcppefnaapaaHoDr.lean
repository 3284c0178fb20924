/-
  Drawn relations between houses: l91Rels.
-/
import Derived.Test.YtnljcppefnaapaaHoSpec
import Derived.Test.YtnljcppefnaapaaJ2
import Derived.Deep.MidRow
namespace Go.Proofs.Ytnljcppefnaapaa
open Go.RowKit
set_option linter.unusedSimpArgs false
set_option linter.unusedVariables false

theorem infoI1h : (Try.prog.info? 3).map (·.size) = some 1 := by kernel_rfl
/-- a number of an own row is stored: the world behind it is a letter -/
theorem wp_stI {op : Oper} {a : Act} {w : World} {Kc : Act → World → Prop} {Q : Exit → Act → World → Prop} (x y : Operand) (ho : op.op = .store 3 x y)
    (R g c j : Nat) (P : List Int) (z : Int) (hx : a.eval x = .pointer (some ⟨g, j, none⟩)) (hy : a.eval y = .int .i64 z) (hO : OwnI w R (.slice (some ⟨g, 0, none⟩) P.length c) P) (hj : j < P.length)
    (h : ∀ w', OwnI w' R (.slice (some ⟨g, 0, none⟩) P.length c) (P.set j z) → w.grownBy w' (some g) → Kc (a.put op.dst undef) w') : op.wp Try.prog a w Kc Q := by
  have q1 := owni_cell hO hj
  have q2 := World.ownsRow.frozenAt hO j
  have hr : (storeVar 3 ⟨g, j, none⟩ (.int .i64 z)).run Try.prog w = .ok () (w.setCells g j [.int .i64 z]) := by
    have h0 : ∀ i : Nat, i < [Value.int .i64 z].length → i = 0 := fun i hi => by simpa using hi
    have := run_storeCells_cells (P := Try.prog) g j [.int .i64 z] 0 w (fun i hi => by rw [h0 i hi]; simp [q1]) (fun i hi => by rw [h0 i hi]; simpa using q2) (fun u hu => by simp at hu; subst hu; rfl)
    have hi := infoI1h
    cases hq : Try.prog.info? 3 with
    | none => simp [hq] at hi
    | some q =>
      have hs : 1 = q.size := by simp [hq] at hi; omega
      simp only [Nat.add_zero] at this
      simp [storeVar, sizeOf, typeInfo, hq, Value.cells, hs.symm, this]
  unfold Oper.wp execOp
  simp only [ho, hx, hy, Instr.storeAt, Instr.sureAddr, Sem.run_bind, Sem.run_pure, Result.andThen_ok, hr]
  exact h _ (owni_put hO z).1 (owni_put hO z).2
theorem wpList_stI {ops : Array Oper} {rest : List Oper} {op : Oper} {a : Act} {w : World} {Q : Exit → Act → World → Prop} (hgd : op.guard = none) (x y : Operand) (ho : op.op = .store 3 x y)
    (R g c j : Nat) (P : List Int) (z : Int) (hx : a.eval x = .pointer (some ⟨g, j, none⟩)) (hy : a.eval y = .int .i64 z) (hO : OwnI w R (.slice (some ⟨g, 0, none⟩) P.length c) P) (hj : j < P.length)
    (h : ∀ w', OwnI w' R (.slice (some ⟨g, 0, none⟩) P.length c) (P.set j z) → w.grownBy w' (some g) → wpList Try.prog ops Q rest (a.put op.dst undef) w') : wpList Try.prog ops Q (op :: rest) a w :=
  wpList_plain hgd fun _ hK => wp_stI x y ho R g c j P z hx hy hO hj fun w' h1 h2 => hK _ _ (h w' h1 h2)
theorem own_some {W : World} {R : Nat} {x : IR} (h : OwnI W R x.v x.P) (hp : 0 < x.P.length) : ∃ g, x.a = some ⟨g, 0, none⟩ := by
  rcases h.2 with ⟨e, _⟩ | ⟨g, cap, cur, e, _⟩
  · injection e with e1 e2 e3; omega
  · injection e with e1 e2 e3; exact ⟨g, e1⟩
theorem MaR.pick {W W' : World} {R B : Nat} {v : Value} {L : List IR} (h : MaR W R v L) (hg : W.grownBy W' (some B)) (hB : B < R) : MaR W' R v L := by
  refine ⟨World.ownsRow.kept h.row hg ?_, fun x hx => owni_pick (h.own x hx) hg hB, h.ap⟩
  cases e : v.ownBlock with
  | none => exact .inl rfl
  | some k => exact .inr fun q => by have := (World.ownsRow.lt h.row k e).1; simp at q; omega
/-- while relations are drawn -/
structure RlI (w : World) (B n q : Nat) (v : Value) (L : List IR) (W : World) : Prop where
  par : MaR W w.heap.size v L
  sq : ∀ x ∈ L, x.P.length = n
  rd : ∃ q', Rd W B q' ∧ q' ≤ q
  on : w.grownBy W (some B)
section
variable {w W W' : World} {B n q q2 : Nat} {v v' : Value} {L L' : List IR}
theorem RlI.later (h : RlI w B n q v L W) (k : Below W.heap.size W W') : RlI w B n q v L W' := by
  obtain ⟨q', hr, hq⟩ := h.rd
  exact ⟨h.par.later k, h.sq, ⟨q', rd_below hr k, hq⟩, only_below h.on k⟩
theorem RlI.alloc (h : RlI w B n q v L W) (o : Obj) : RlI w B n q v L (W.alloc o) := h.later ((Below.refl _ _).alloc (Nat.le_refl _) o)
theorem RlI.mono (h : RlI w B n q v L W) (k : q ≤ q2) : RlI w B n q2 v L W := by
  obtain ⟨q', hr, hq⟩ := h.rd
  exact ⟨h.par, h.sq, ⟨q', hr, by omega⟩, h.on⟩
theorem RlI.picked {p : Nat} (h : RlI w B n q v L W) (hB : B < w.heap.size) (hg : W.grownBy W' (some B)) (hr : Rd W' B p) (hp : p ≤ q2) : RlI w B n q2 v L W' :=
  ⟨h.par.pick hg hB, h.sq, ⟨p, hr, hp⟩, only_on h.on hg⟩
theorem RlI.own (h : RlI w B n q v L W) (hB : B < w.heap.size) {u : Value} (hu : ∀ k, u.ownBlock = some k → w.heap.size ≤ k) (hg : W.grownBy W' u.ownBlock) (hpar : MaR W' w.heap.size v' L') (hsq : ∀ x ∈ L', x.P.length = n) : RlI w B n q v' L' W' := by
  obtain ⟨q', hr, hq⟩ := h.rd
  exact ⟨hpar, hsq, ⟨q', prd_own hr hg hu hB, hq⟩, ponly_own h.on hg hu⟩
end
/-- an element was turned -/
theorem RlI.put {w W W' : World} {B n q k g c : Nat} {a : Option Addr} {cp : Nat} {L : List IR} {xc : Nat} {xP P' : List Int} (h : RlI w B n q (.slice (some ⟨g, 0, none⟩) L.length c) L W) (hB : B < w.heap.size) (hx : L[k]? = some ⟨a, xc, xP⟩) (hP : P'.length = xP.length) (hy : OwnI W' w.heap.size (.slice a xP.length xc) P') (hg : W.grownBy W' (Value.slice a xP.length xc).ownBlock) :
    RlI w B n q (.slice (some ⟨g, 0, none⟩) L.length c) (L.set k ⟨a, xc, P'⟩) W' := by
  have hox := h.par.own _ (List.mem_of_getElem? hx)
  refine RlI.own h hB (u := .slice a xP.length xc) (fun b hb => ((hox).lt b hb).1) hg (MaR.put h.par hx rfl rfl hP (by show OwnI W' _ (.slice a P'.length xc) P'; rw [hP]; exact hy) hg) (fun z hz => ?_)
  rcases List.mem_or_eq_of_mem_set hz with q | rfl
  · exact h.sq z q
  · have := h.sq _ (List.mem_of_getElem? hx)
    dsimp only at this ⊢
    rw [hP]; exact this
theorem RlI.put' {w W W' : World} {B n q k g c m : Nat} {a : Option Addr} {L : List IR} {xc : Nat} {xP P' : List Int} (hm : L.length = m) (h : RlI w B n q (.slice (some ⟨g, 0, none⟩) m c) L W) (hB : B < w.heap.size) (hx : L[k]? = some ⟨a, xc, xP⟩) (hP : P'.length = xP.length) (hy : OwnI W' w.heap.size (.slice a xP.length xc) P') (hg : W.grownBy W' (Value.slice a xP.length xc).ownBlock) :
    RlI w B n q (.slice (some ⟨g, 0, none⟩) m c) (L.set k ⟨a, xc, P'⟩) W' := by
  subst hm; exact RlI.put (cp := 0) h hB hx hP hy hg
theorem rowcell {W : World} {R g m c k : Nat} {L : List IR} {x : IR} (h : MaR W R (.slice (some ⟨g, 0, none⟩) m c) L) (hx : L[k]? = some x) : W.cell? ⟨g, k, none⟩ = some x.v := by
  have := World.ownsRow.cells h.row (g := g) rfl k _ (cellsR_at hx)
  rwa [Addr.add_mid, Nat.zero_add] at this
/-- an own slice of ints, seen from before -/
def RvI (w : World) (U : List Int) (v : Value) (W : World) : Prop := OwnI W w.heap.size v U ∧ Below w.heap.size w W
theorem RvI.app {w W W' : World} {U : List Int} {v v' : Value} {x : Int} (h : RvI w U v W) (own : OwnI W' w.heap.size v' (U ++ [x])) (grow : (W.alloc (.cells #[.int .i64 x] 3)).grownBy W' v.ownBlock) : RvI w (U ++ [x]) v' W' :=
  ⟨own, (h.2.alloc h.2.size _).grown grow (by have := h.2.size; simp; omega) (OwnI.lt' h.1)⟩
/-- what comes back -/
def RelsD (w : World) (B : Nat) (e : Ending) (W : World) : Prop := ∃ (v : Value) (L : List IR) (n q : Nat), e = .returned v ∧ (2 ≤ n ∧ n ≤ 5) ∧ L.length = n ∧ RlI w B n 200 v L W

set_option maxRecDepth 100000 in
set_option maxHeartbeats 8000000 in
theorem rels_any (w : World) (B p : Nat) (hp : p ≤ 2) (hr : Rd w B p) : Calls Try.prog 42 #[.pointer (some ⟨B, 0, none⟩)] w (RelsD w B) := by
  have hBw := rd_lt hr
  have HR := Lib.hid hr
  obtain ⟨i0, hi, hz0, hz1, hz2⟩ := info_parts infoI
  have HINF := Lib.hid (And.intro hi (And.intro hz0 (And.intro hz1 hz2)))
  clear hr hi hz0 hz1 hz2
  go_enter Try.func42, Try.ntmps42
  go_wp2_with fail
  refine (pick_any 4 _ B p (by omega) (by omega) HR.out).mono ?_
  rintro en w1 ⟨y, y0, y1, rfl, hr1, hg1⟩
  obtain ⟨ny, rfl⟩ := Int.eq_ofNat_of_zero_le y0
  have hs1 := hg1.size
  have I1 : Hid (RlI w B (2 + ny) 3 (.slice (some ⟨w1.heap.size, 0, none⟩) 0 0) [] (w1.alloc (.cells #[] 33))) := Lib.hid ⟨(mar_empty w1 w1.heap.size (Nat.le_refl _)).mono hs1, fun x hx => (by cases hx), ⟨_, rd_alloc hr1 _, by omega⟩, only_alloc hg1 _⟩
  have hn0 : (2 : Int) + (ny : Int) = ((2 + ny : Nat) : Int) := by omega
  have hw0 : IntKind.i64.wrap (2 + (ny : Int)) = ((2 + ny : Nat) : Int) := by rw [IntKind.wrap_i64]; omega
  have hn2 : 2 ≤ 2 + ny ∧ 2 + ny ≤ 5 := by omega
  clear hr1 hg1 HR y0 y1
  generalize 2 + ny = n at *
  clear hn0
  go_wp2_with fail
  clear hw0
  generalize w1.alloc (.cells #[] 33) = w2 at *
  go_loopw [4, 5] (fun t i wr => ∃ (L : List IR), L.length ≤ n ∧ i = .int .i64 (L.length : Int) ∧ RlI w B n 3 t L wr) (fun _ i _ => n - (intOf i).toNat)
  case atStart => exact ⟨[], Nat.zero_le _, rfl, I1.out⟩
  case round =>
    clear I1
    obtain ⟨L, hI, rfl, hI1⟩ := hrel
    obtain ⟨ta, tc, rfl, _⟩ := OwnM.tab hI1.par.row
    have HI := Lib.hid hI1
    clear hI1
    by_cases hlt : L.length < n
    · have i1 : (L.length : Int) < (n : Int) := by omega
      go_wp2_with (refine wpList_make_full _ rfl (.tmp 24) (.tmp 24) 33 rfl wr.heap.size 3 i0 (.int .i64 0) 1 Try.underlying33 HINF.out.1 HINF.out.2.1 HINF.out.2.2.1 .i64 .i64 _ _ n rfl rfl rfl rfl (by rw [HINF.out.2.2.2]; omega) (by unfold maxLen; omega) (Nat.le_refl _) ?_)
      intro w3 own3 grow3
      have HBm := Lib.hid (And.intro own3 grow3)
      clear own3 grow3
      have own3 := HBm.out.1
      have hmade := madeI n
      rw [Nat.mul_one] at hmade
      rw [hmade] at own3
      clear hmade
      have HY : Hid (OwnI w3 wr.heap.size (.slice (some ⟨wr.heap.size, 0, none⟩) (List.replicate n (0 : Int)).length n) (List.replicate n 0) ∧ Below wr.heap.size wr w3) :=
        Lib.hid ⟨by rw [OwnI, List.length_replicate]; exact own3, (Below.refl _ _).grown HBm.out.2 (Nat.le_refl _) (fun _ h => by cases h)⟩
      have hs3 := HY.out.2.size
      clear own3 HBm
      obtain ⟨Z, hZ⟩ : ∃ Z, Z = List.replicate n (0 : Int) := ⟨_, rfl⟩
      have hZl : Z.length = n := by rw [hZ]; simp
      rw [← hZ] at HY
      have HZl := Lib.hid hZl
      have I3 := Lib.hid ((HI.out.later HY.out.2).alloc (.cells #[.slice (some ⟨wr.heap.size, 0, none⟩) n n] 33))
      have HY3 : Hid (OwnI (w3.alloc (.cells #[.slice (some ⟨wr.heap.size, 0, none⟩) n n] 33)) wr.heap.size (.slice (some ⟨wr.heap.size, 0, none⟩) n n) Z) := Lib.hid (World.ownsRow.alloc (by have := HY.out.1; rw [hZl] at this; exact this) _)
      have HLT := Lib.hid (MaR.lt HI.out.par)
      have hws := HI.out.on.size
      clear hZ hZl HY
      go_wp2_with (at_builtin; refine wpList_appM rfl (.tmp 23) (.tmp 26) rfl w.heap.size (.slice ta L.length tc) L ?s1 ?o1 w3.heap.size ⟨some ⟨wr.heap.size, 0, none⟩, n, Z⟩ ?x1 ?m1 ?l1 ?r1 ?h1)
      try case s1 => rfl
      try case o1 => exact I3.out.par.row
      try case x1 => rfl
      try case m1 => (rw [World.cell?_alloc_new]; simp [HZl.out])
      try case l1 => omega
      try case r1 => (simp; omega)
      intro v5 w5 own5 grow5
      have HY5 : Hid (OwnI (w3.alloc (.cells #[.slice (some ⟨wr.heap.size, 0, none⟩) n n] 33)) wr.heap.size (IR.v ⟨some ⟨wr.heap.size, 0, none⟩, n, Z⟩) Z) := Lib.hid (by show OwnI _ _ (.slice _ Z.length n) Z; rw [HZl.out]; exact HY3.out)
      have hP5 := MaR.app I3.out.par hws HLT.out HY5.out own5 grow5
      have I5 := Lib.hid (RlI.own I3.out hBw (u := .slice ta L.length tc) (fun k e => (World.ownsRow.lt I3.out.par.row k e).1) grow5 hP5 (fun x hx => by
        rcases List.mem_append.1 hx with k | k
        · exact I3.out.sq x k
        · obtain rfl : x = _ := by simpa using k
          exact HZl.out))
      have hL5 : (L ++ [(⟨some ⟨wr.heap.size, 0, none⟩, n, Z⟩ : IR)]).length = L.length + 1 := by simp
      clear own5 grow5 hP5 I3 HY3 HY5 HLT HI
      generalize L ++ [(⟨some ⟨wr.heap.size, 0, none⟩, n, Z⟩ : IR)] = L5 at *
      have HL5 := Lib.hid hL5
      clear hL5
      go_wp2_with fail
      go_roundw
      case rel => exact ⟨L5, by rw [HL5.out]; omega, by rw [HL5.out]; go_num, I5.out⟩
      case measure => simp [intOf]; omega
    · have hws := HI.out.on.size
      generalize hLm : L.length = m at *
      obtain rfl : n = m := by omega
      obtain ⟨g, rfl⟩ : ∃ g, ta = some ⟨g, 0, none⟩ := by
        rcases HI.out.par.row.2 with ⟨e, h0⟩ | ⟨g, cap, cur, e, _⟩
        · omega
        · injection e with e1 e2 e3; exact ⟨g, e1⟩
      have HLn := Lib.hid hLm
      clear hLm
      obtain ⟨q', hr', hq'⟩ := HI.out.rd
      have HRd := Lib.hid hr'
      clear hr'
      go_wp2_with fail
      refine (pick_any 6 _ B q' (by omega) (by omega) HRd.out).mono ?_
      rintro en w3 ⟨y6, y60, y61, rfl, hr3, hg3⟩
      obtain ⟨rg, hrg⟩ : ∃ rg : Bool, (y6 == 0) = rg := ⟨_, rfl⟩
      have I3 := Lib.hid (HI.out.picked hBw hg3 hr3 (show q' + 1 ≤ 4 by omega))
      clear hr3 hg3 HI HRd
      go_wp2_with fail
      clear hrg
      go_loopw [7, 8, 9] (fun a _ _ wr => ∃ (A : Nat) (L : List IR), A ≤ n ∧ a = .int .i64 A ∧ Hid (L.length = n) ∧ RlI w B n (4 + A * 20) (.slice (some ⟨g, 0, none⟩) n tc) L wr) (fun a _ _ _ => n - (intOf a).toNat)
      case atStart => exact ⟨0, L, Nat.zero_le _, rfl, HLn, I3.out.mono (by omega)⟩
      case round =>
        clear I3 HLn
        obtain ⟨A, L, hA, rfl, HL, hI1⟩ := hrel
        have HI := Lib.hid hI1
        clear hI1
        by_cases hAt : A < n
        · have a1 : (A : Int) < (n : Int) := by omega
          have a0 : (0 : Int) ≤ (A : Int) := by omega
          go_wp2_with fail
          go_loopw [8, 9] (fun b _ wr => ∃ (Bq : Nat) (L : List IR), A + 1 ≤ Bq ∧ Bq ≤ n ∧ b = .int .i64 Bq ∧ Hid (L.length = n) ∧ RlI w B n (4 + A * 20 + Bq * 2) (.slice (some ⟨g, 0, none⟩) n tc) L wr) (fun b _ _ => n - (intOf b).toNat)
          case atStart => exact ⟨A + 1, L, Nat.le_refl _, by omega, by go_num, HL, HI.out.mono (by omega)⟩
          case round =>
            clear HI HL
            obtain ⟨Bq, L, hB1, hB2, rfl, HL, hI1⟩ := hrel
            have HI := Lib.hid hI1
            obtain ⟨q2, hr2, hq2⟩ := hI1.rd
            have hsw := hI1.on.size
            have HRd := Lib.hid hr2
            clear hI1 hr2
            by_cases hBt : Bq < n
            · have b1 : (Bq : Int) < (n : Int) := by omega
              have b0 : (0 : Int) ≤ (Bq : Int) := by omega
              go_wp2_with fail
              refine (pick_any 4 _ B q2 (by omega) (by omega) (rd_alloc HRd.out _)).mono ?_
              rintro en w4 ⟨yy, yy0, yy1, rfl, hr4, hg4⟩
              obtain ⟨j, rfl⟩ := Int.eq_ofNat_of_zero_le yy0
              obtain ⟨r, hr0, hr3, cj⟩ : ∃ r : Int, 0 ≤ r ∧ r ≤ 3 ∧ w4.cell? ⟨wr.heap.size, j, none⟩ = some (.int .i64 r) := by
                have hne : ∀ j : Nat, some (⟨wr.heap.size, j, none⟩ : Addr).block ≠ some B := fun j e => by have e2 := Option.some.inj e; dsimp only at e2; omega
                obtain rfl | rfl | rfl | rfl : j = 0 ∨ j = 1 ∨ j = 2 ∨ j = 3 := by omega
                · exact ⟨0, by omega, by omega, hg4.cell (by simp) (hne _)⟩
                · exact ⟨1, by omega, by omega, hg4.cell (by simp) (hne _)⟩
                · exact ⟨1, by omega, by omega, hg4.cell (by simp) (hne _)⟩
                · exact ⟨2, by omega, by omega, hg4.cell (by simp) (hne _)⟩
              have I4 := Lib.hid ((HI.out.alloc (.cells #[.int .i64 0, .int .i64 1, .int .i64 1, .int .i64 2] 3)).picked hBw hg4 hr4 (show q2 + 1 ≤ 5 + A * 20 + Bq * 2 by omega))
              clear hr4 hg4 HI HRd
              cases rg with
              | false =>
                obtain ⟨x, hx⟩ : ∃ x, L[A]? = some x := ⟨_, List.getElem?_eq_getElem (by have := HL.out; omega)⟩
                obtain ⟨xa, xc, xP⟩ := x
                have hxl : xP.length = n := I4.out.sq _ (List.mem_of_getElem? hx)
                obtain ⟨ga, hga⟩ := own_some (I4.out.par.own _ (List.mem_of_getElem? hx)) (show 0 < xP.length by omega)
                dsimp only at hga
                subst hga
                have HO : Hid (OwnI w4 w.heap.size (.slice (some ⟨ga, 0, none⟩) xP.length xc) xP) := Lib.hid (I4.out.par.own _ (List.mem_of_getElem? hx))
                have cc : w4.cell? ⟨g, A, none⟩ = some (.slice (some ⟨ga, 0, none⟩) xP.length xc) := rowcell I4.out.par hx
                have x1 : (Bq : Int) < (xP.length : Int) := by omega
                have HXx := Lib.hid (And.intro hx hxl)
                clear hx hxl
                go_wp2_with (refine wpList_stI rfl _ _ rfl w.heap.size ga xc Bq xP (r) rfl rfl HO.out (by omega) ?_)
                intro w6 o6 g6
                have I6 := Lib.hid (RlI.put' HL.out I4.out hBw HXx.out.1 (by simp) o6 g6)
                obtain ⟨L6, hL6⟩ : ∃ L6, L6 = L.set A ⟨some ⟨ga, 0, none⟩, xc, xP.set Bq (r)⟩ := ⟨_, rfl⟩
                rw [← hL6] at I6
                have HL6 : Hid (L6.length = n) := Lib.hid (by rw [hL6, List.length_set]; exact HL.out)
                clear hL6 o6 g6 cc HO HXx x1
                obtain ⟨x2, hx2⟩ : ∃ x, L6[Bq]? = some x := ⟨_, List.getElem?_eq_getElem (by have := HL6.out; omega)⟩
                obtain ⟨xa2, xc2, xP2⟩ := x2
                have hxl2 : xP2.length = n := I6.out.sq _ (List.mem_of_getElem? hx2)
                obtain ⟨gb, hgb⟩ := own_some (I6.out.par.own _ (List.mem_of_getElem? hx2)) (show 0 < xP2.length by omega)
                dsimp only at hgb
                subst hgb
                have HO2 : Hid (OwnI w6 w.heap.size (.slice (some ⟨gb, 0, none⟩) xP2.length xc2) xP2) := Lib.hid (I6.out.par.own _ (List.mem_of_getElem? hx2))
                have HC2 : Hid (w6.cell? ⟨g, Bq, none⟩ = some (.slice (some ⟨gb, 0, none⟩) xP2.length xc2)) := Lib.hid (rowcell I6.out.par hx2)
                have y1 : (A : Int) < (xP2.length : Int) := by omega
                have HX2 := Lib.hid hx2
                clear hx2
                go_wp2_with fail
                refine wp_region_held_drew (S := fun W => W.cell? ⟨g, Bq, none⟩ = some (.slice (some ⟨gb, 0, none⟩) xP2.length xc2) ∧ Hid True) (by kernel_rfl) ?_ (fun hHeld => ?_)
                · exact ⟨HC2.out, Lib.hid trivial⟩
                refine takeH (i := 0) (v := ?_) rfl rfl (by kernel_rfl) (by kernel_rfl) (by kernel_rfl) (fun _ _ _ h => h) (by rfl) ?_ (by assumption) ?_
                rotate_left 1
                · intro w hSw
                  (try dsimp only at hSw)
                  go_simp
                  try with_reducible rfl
                try simp only [List.setIfInBounds_toArray, List.set_cons_zero, List.set_cons_succ]
                refine takeH (i := 1) (v := ?_) rfl rfl (by kernel_rfl) (by kernel_rfl) (by kernel_rfl) (fun _ _ _ h => h) (by rfl) ?_ (by assumption) ?_
                rotate_left 1
                · intro w hSw
                  (try dsimp only at hSw)
                  go_simp
                  try with_reducible rfl
                try simp only [List.setIfInBounds_toArray, List.set_cons_zero, List.set_cons_succ]
                refine takeH (i := 2) (v := ?_) rfl rfl (by kernel_rfl) (by kernel_rfl) (by kernel_rfl) (fun _ _ _ h => h) (by rfl) ?_ (by assumption) ?_
                rotate_left 1
                · intro w hSw
                  (try dsimp only at hSw)
                  go_simp
                  try with_reducible rfl
                try simp only [List.setIfInBounds_toArray, List.set_cons_zero, List.set_cons_succ]
                refine takeH (i := 3) (v := ?_) rfl rfl (by kernel_rfl) (by kernel_rfl) (by kernel_rfl) (fun _ _ _ h => h) (by rfl) ?_ (by assumption) ?_
                rotate_left 1
                · intro w hSw
                  (try dsimp only at hSw)
                  go_simp
                  try with_reducible rfl
                try simp only [List.setIfInBounds_toArray, List.set_cons_zero, List.set_cons_succ]
                refine takeH (i := 4) (v := ?_) rfl rfl (by kernel_rfl) (by kernel_rfl) (by kernel_rfl) (fun _ _ _ h => h) (by rfl) ?_ (by assumption) ?_
                rotate_left 1
                · intro w hSw
                  (try dsimp only at hSw)
                  go_simp
                  try with_reducible rfl
                try simp only [List.setIfInBounds_toArray, List.set_cons_zero, List.set_cons_succ]
                refine takeH (i := 5) (v := ?_) rfl rfl (by kernel_rfl) (by kernel_rfl) (by kernel_rfl) (fun _ _ _ h => h) (by rfl) ?_ (by assumption) ?_
                rotate_left 1
                · intro w hSw
                  (try dsimp only at hSw)
                  go_simp
                  try with_reducible rfl
                try simp only [List.setIfInBounds_toArray, List.set_cons_zero, List.set_cons_succ]
                refine wpAnyH_ready (rs := [6]) (by kernel_rfl) (by simp) ?_
                refine AllReadyH.cons rfl (fun K hK => ?_) (AllReadyH.nil)
                go_simp
                refine (back_is (r) (by omega) (by omega) _).mono ?_
                rintro e wq ⟨rfl, bq⟩
                have bq6 : Below w6.heap.size w6 wq := next (Below.refl _ w6).drew bq
                have I6q := Lib.hid (I6.out.later bq6)
                have HOq := Lib.hid (owni_later HO2.out bq6)
                go_wp2_with fail
                refine hK.out _ _ ?_ (fun hNew => ?_)
                · exact ⟨cell_later bq hHeld.1, Lib.hid trivial⟩
                clear hK K hHeld
                have hHeld := hNew
                clear hNew
                try simp only [Act.put, List.setIfInBounds_toArray, List.set_cons_zero, List.set_cons_succ]
                refine takeH (i := 7) (v := ?_) rfl rfl (by kernel_rfl) (by kernel_rfl) (by kernel_rfl) (fun _ _ _ h => h) (by rfl) ?_ (by assumption) ?_
                rotate_left 1
                · intro w hSw
                  (try dsimp only at hSw)
                  go_simp
                  try with_reducible rfl
                try simp only [List.setIfInBounds_toArray, List.set_cons_zero, List.set_cons_succ]
                refine wpAnyH_ready (rs := [8]) (by kernel_rfl) (by simp) ?_
                refine AllReadyH.cons rfl (fun K hK => ?_) (AllReadyH.nil)
                refine wp_stI (.tmp 68) (.tmp 67) rfl w.heap.size gb xc2 A xP2 (relB (r)) (by simp [Act.eval]) (by simp [Act.eval]) HOq.out (by omega) ?_
                intro w7 o7 g7
                have I7 := Lib.hid (RlI.put' HL6.out I6q.out hBw HX2.out (by simp) o7 g7)
                have c7 : w7.cell? ⟨g, Bq, none⟩ = some (.slice (some ⟨gb, 0, none⟩) xP2.length xc2) := g7.cell hHeld.1 (by have h0 := mrows_apart I6q.out.par.row HOq.out (by decide); rcases h0 with h0 | h0; (simp [Value.ownBlock] at h0); (simpa [Value.ownBlock] using h0))
                refine hK.out _ _ ?_ (fun hNew => ?_)
                · exact ⟨c7, Lib.hid trivial⟩
                clear hK K hHeld
                have hHeld := hNew
                clear hNew
                try simp only [Act.put, List.setIfInBounds_toArray, List.set_cons_zero, List.set_cons_succ]
                refine wpAnyH_done (by kernel_rfl) ?_ _
                obtain ⟨L7, hL7⟩ : ∃ L7, L7 = L6.set Bq ⟨some ⟨gb, 0, none⟩, xc2, xP2.set A (relB (r))⟩ := ⟨_, rfl⟩
                rw [← hL7] at I7
                have HL7 : Hid (L7.length = n) := Lib.hid (by rw [hL7, List.length_set]; exact HL6.out)
                clear hL7 hHeld
                try clear o7 g7 c7 bq bq6 I6q HOq HO2 HC2 HX2 I6
                go_wp2_with fail
                go_roundw
                case rel => exact ⟨Bq + 1, L7, by omega, by omega, by go_num, HL7, I7.out.mono (by omega)⟩
                case measure => simp [intOf]; omega
              | true =>
                go_wp2_with fail
                clear cj
                obtain ⟨q5, hr5, hq5⟩ := I4.out.rd
                have HRd := Lib.hid hr5
                clear hr5
                refine (pick_any 2 _ B q5 (by omega) (by omega) HRd.out).mono ?_
                rintro en w5 ⟨y2, y20, y21, rfl, hr6, hg5⟩
                have I5 := Lib.hid (I4.out.picked hBw hg5 hr6 (show q5 + 1 ≤ 6 + A * 20 + Bq * 2 by omega))
                clear hr6 hg5 I4 HRd
                by_cases hy2 : y2 = 0
                · have e2 : (y2 == 0) = true := by simp [hy2]
                  clear hy2 y20 y21
                  obtain ⟨x, hx⟩ : ∃ x, L[A]? = some x := ⟨_, List.getElem?_eq_getElem (by have := HL.out; omega)⟩
                  obtain ⟨xa, xc, xP⟩ := x
                  have hxl : xP.length = n := I5.out.sq _ (List.mem_of_getElem? hx)
                  obtain ⟨ga, hga⟩ := own_some (I5.out.par.own _ (List.mem_of_getElem? hx)) (show 0 < xP.length by omega)
                  dsimp only at hga
                  subst hga
                  have HO : Hid (OwnI w5 w.heap.size (.slice (some ⟨ga, 0, none⟩) xP.length xc) xP) := Lib.hid (I5.out.par.own _ (List.mem_of_getElem? hx))
                  have cc : w5.cell? ⟨g, A, none⟩ = some (.slice (some ⟨ga, 0, none⟩) xP.length xc) := rowcell I5.out.par hx
                  have x1 : (Bq : Int) < (xP.length : Int) := by omega
                  have HXx := Lib.hid (And.intro hx hxl)
                  clear hx hxl
                  go_wp2_with (refine wpList_stI rfl _ _ rfl w.heap.size ga xc Bq xP (3) rfl rfl HO.out (by omega) ?_)
                  intro w6 o6 g6
                  have I6 := Lib.hid (RlI.put' HL.out I5.out hBw HXx.out.1 (by simp) o6 g6)
                  obtain ⟨L6, hL6⟩ : ∃ L6, L6 = L.set A ⟨some ⟨ga, 0, none⟩, xc, xP.set Bq (3)⟩ := ⟨_, rfl⟩
                  rw [← hL6] at I6
                  have HL6 : Hid (L6.length = n) := Lib.hid (by rw [hL6, List.length_set]; exact HL.out)
                  clear hL6 o6 g6 cc HO HXx x1
                  obtain ⟨x2, hx2⟩ : ∃ x, L6[Bq]? = some x := ⟨_, List.getElem?_eq_getElem (by have := HL6.out; omega)⟩
                  obtain ⟨xa2, xc2, xP2⟩ := x2
                  have hxl2 : xP2.length = n := I6.out.sq _ (List.mem_of_getElem? hx2)
                  obtain ⟨gb, hgb⟩ := own_some (I6.out.par.own _ (List.mem_of_getElem? hx2)) (show 0 < xP2.length by omega)
                  dsimp only at hgb
                  subst hgb
                  have HO2 : Hid (OwnI w6 w.heap.size (.slice (some ⟨gb, 0, none⟩) xP2.length xc2) xP2) := Lib.hid (I6.out.par.own _ (List.mem_of_getElem? hx2))
                  have HC2 : Hid (w6.cell? ⟨g, Bq, none⟩ = some (.slice (some ⟨gb, 0, none⟩) xP2.length xc2)) := Lib.hid (rowcell I6.out.par hx2)
                  have y1 : (A : Int) < (xP2.length : Int) := by omega
                  have HX2 := Lib.hid hx2
                  clear hx2
                  go_wp2_with fail
                  refine wp_region_held_drew (S := fun W => W.cell? ⟨g, Bq, none⟩ = some (.slice (some ⟨gb, 0, none⟩) xP2.length xc2) ∧ Hid True) (by kernel_rfl) ?_ (fun hHeld => ?_)
                  · exact ⟨HC2.out, Lib.hid trivial⟩
                  refine takeH (i := 0) (v := ?_) rfl rfl (by kernel_rfl) (by kernel_rfl) (by kernel_rfl) (fun _ _ _ h => h) (by rfl) ?_ (by assumption) ?_
                  rotate_left 1
                  · intro w hSw
                    (try dsimp only at hSw)
                    go_simp
                    try with_reducible rfl
                  try simp only [List.setIfInBounds_toArray, List.set_cons_zero, List.set_cons_succ]
                  refine takeH (i := 1) (v := ?_) rfl rfl (by kernel_rfl) (by kernel_rfl) (by kernel_rfl) (fun _ _ _ h => h) (by rfl) ?_ (by assumption) ?_
                  rotate_left 1
                  · intro w hSw
                    (try dsimp only at hSw)
                    go_simp
                    try with_reducible rfl
                  try simp only [List.setIfInBounds_toArray, List.set_cons_zero, List.set_cons_succ]
                  refine takeH (i := 2) (v := ?_) rfl rfl (by kernel_rfl) (by kernel_rfl) (by kernel_rfl) (fun _ _ _ h => h) (by rfl) ?_ (by assumption) ?_
                  rotate_left 1
                  · intro w hSw
                    (try dsimp only at hSw)
                    go_simp
                    try with_reducible rfl
                  try simp only [List.setIfInBounds_toArray, List.set_cons_zero, List.set_cons_succ]
                  refine takeH (i := 3) (v := ?_) rfl rfl (by kernel_rfl) (by kernel_rfl) (by kernel_rfl) (fun _ _ _ h => h) (by rfl) ?_ (by assumption) ?_
                  rotate_left 1
                  · intro w hSw
                    (try dsimp only at hSw)
                    go_simp
                    try with_reducible rfl
                  try simp only [List.setIfInBounds_toArray, List.set_cons_zero, List.set_cons_succ]
                  refine takeH (i := 4) (v := ?_) rfl rfl (by kernel_rfl) (by kernel_rfl) (by kernel_rfl) (fun _ _ _ h => h) (by rfl) ?_ (by assumption) ?_
                  rotate_left 1
                  · intro w hSw
                    (try dsimp only at hSw)
                    go_simp
                    try with_reducible rfl
                  try simp only [List.setIfInBounds_toArray, List.set_cons_zero, List.set_cons_succ]
                  refine takeH (i := 5) (v := ?_) rfl rfl (by kernel_rfl) (by kernel_rfl) (by kernel_rfl) (fun _ _ _ h => h) (by rfl) ?_ (by assumption) ?_
                  rotate_left 1
                  · intro w hSw
                    (try dsimp only at hSw)
                    go_simp
                    try with_reducible rfl
                  try simp only [List.setIfInBounds_toArray, List.set_cons_zero, List.set_cons_succ]
                  refine wpAnyH_ready (rs := [6]) (by kernel_rfl) (by simp) ?_
                  refine AllReadyH.cons rfl (fun K hK => ?_) (AllReadyH.nil)
                  go_simp
                  refine (back_is (3) (by omega) (by omega) _).mono ?_
                  rintro e wq ⟨rfl, bq⟩
                  have bq6 : Below w6.heap.size w6 wq := next (Below.refl _ w6).drew bq
                  have I6q := Lib.hid (I6.out.later bq6)
                  have HOq := Lib.hid (owni_later HO2.out bq6)
                  go_wp2_with fail
                  refine hK.out _ _ ?_ (fun hNew => ?_)
                  · exact ⟨cell_later bq hHeld.1, Lib.hid trivial⟩
                  clear hK K hHeld
                  have hHeld := hNew
                  clear hNew
                  try simp only [Act.put, List.setIfInBounds_toArray, List.set_cons_zero, List.set_cons_succ]
                  refine takeH (i := 7) (v := ?_) rfl rfl (by kernel_rfl) (by kernel_rfl) (by kernel_rfl) (fun _ _ _ h => h) (by rfl) ?_ (by assumption) ?_
                  rotate_left 1
                  · intro w hSw
                    (try dsimp only at hSw)
                    go_simp
                    try with_reducible rfl
                  try simp only [List.setIfInBounds_toArray, List.set_cons_zero, List.set_cons_succ]
                  refine wpAnyH_ready (rs := [8]) (by kernel_rfl) (by simp) ?_
                  refine AllReadyH.cons rfl (fun K hK => ?_) (AllReadyH.nil)
                  refine wp_stI (.tmp 68) (.tmp 67) rfl w.heap.size gb xc2 A xP2 (relB (3)) (by simp [Act.eval]) (by simp [Act.eval]) HOq.out (by omega) ?_
                  intro w7 o7 g7
                  have I7 := Lib.hid (RlI.put' HL6.out I6q.out hBw HX2.out (by simp) o7 g7)
                  have c7 : w7.cell? ⟨g, Bq, none⟩ = some (.slice (some ⟨gb, 0, none⟩) xP2.length xc2) := g7.cell hHeld.1 (by have h0 := mrows_apart I6q.out.par.row HOq.out (by decide); rcases h0 with h0 | h0; (simp [Value.ownBlock] at h0); (simpa [Value.ownBlock] using h0))
                  refine hK.out _ _ ?_ (fun hNew => ?_)
                  · exact ⟨c7, Lib.hid trivial⟩
                  clear hK K hHeld
                  have hHeld := hNew
                  clear hNew
                  try simp only [Act.put, List.setIfInBounds_toArray, List.set_cons_zero, List.set_cons_succ]
                  refine wpAnyH_done (by kernel_rfl) ?_ _
                  obtain ⟨L7, hL7⟩ : ∃ L7, L7 = L6.set Bq ⟨some ⟨gb, 0, none⟩, xc2, xP2.set A (relB (3))⟩ := ⟨_, rfl⟩
                  rw [← hL7] at I7
                  have HL7 : Hid (L7.length = n) := Lib.hid (by rw [hL7, List.length_set]; exact HL6.out)
                  clear hL7 hHeld
                  try clear o7 g7 c7 bq bq6 I6q HOq HO2 HC2 HX2 I6
                  go_wp2_with fail
                  go_roundw
                  case rel => exact ⟨Bq + 1, L7, by omega, by omega, by go_num, HL7, I7.out.mono (by omega)⟩
                  case measure => simp [intOf]; omega
                · have e2 : (y2 == 0) = false := by simp [hy2]
                  clear hy2 y20 y21
                  obtain ⟨x, hx⟩ : ∃ x, L[A]? = some x := ⟨_, List.getElem?_eq_getElem (by have := HL.out; omega)⟩
                  obtain ⟨xa, xc, xP⟩ := x
                  have hxl : xP.length = n := I5.out.sq _ (List.mem_of_getElem? hx)
                  obtain ⟨ga, hga⟩ := own_some (I5.out.par.own _ (List.mem_of_getElem? hx)) (show 0 < xP.length by omega)
                  dsimp only at hga
                  subst hga
                  have HO : Hid (OwnI w5 w.heap.size (.slice (some ⟨ga, 0, none⟩) xP.length xc) xP) := Lib.hid (I5.out.par.own _ (List.mem_of_getElem? hx))
                  have cc : w5.cell? ⟨g, A, none⟩ = some (.slice (some ⟨ga, 0, none⟩) xP.length xc) := rowcell I5.out.par hx
                  have x1 : (Bq : Int) < (xP.length : Int) := by omega
                  have HXx := Lib.hid (And.intro hx hxl)
                  clear hx hxl
                  go_wp2_with (refine wpList_stI rfl _ _ rfl w.heap.size ga xc Bq xP (r) rfl rfl HO.out (by omega) ?_)
                  intro w6 o6 g6
                  have I6 := Lib.hid (RlI.put' HL.out I5.out hBw HXx.out.1 (by simp) o6 g6)
                  obtain ⟨L6, hL6⟩ : ∃ L6, L6 = L.set A ⟨some ⟨ga, 0, none⟩, xc, xP.set Bq (r)⟩ := ⟨_, rfl⟩
                  rw [← hL6] at I6
                  have HL6 : Hid (L6.length = n) := Lib.hid (by rw [hL6, List.length_set]; exact HL.out)
                  clear hL6 o6 g6 cc HO HXx x1
                  obtain ⟨x2, hx2⟩ : ∃ x, L6[Bq]? = some x := ⟨_, List.getElem?_eq_getElem (by have := HL6.out; omega)⟩
                  obtain ⟨xa2, xc2, xP2⟩ := x2
                  have hxl2 : xP2.length = n := I6.out.sq _ (List.mem_of_getElem? hx2)
                  obtain ⟨gb, hgb⟩ := own_some (I6.out.par.own _ (List.mem_of_getElem? hx2)) (show 0 < xP2.length by omega)
                  dsimp only at hgb
                  subst hgb
                  have HO2 : Hid (OwnI w6 w.heap.size (.slice (some ⟨gb, 0, none⟩) xP2.length xc2) xP2) := Lib.hid (I6.out.par.own _ (List.mem_of_getElem? hx2))
                  have HC2 : Hid (w6.cell? ⟨g, Bq, none⟩ = some (.slice (some ⟨gb, 0, none⟩) xP2.length xc2)) := Lib.hid (rowcell I6.out.par hx2)
                  have y1 : (A : Int) < (xP2.length : Int) := by omega
                  have HX2 := Lib.hid hx2
                  clear hx2
                  go_wp2_with fail
                  refine wp_region_held_drew (S := fun W => W.cell? ⟨g, Bq, none⟩ = some (.slice (some ⟨gb, 0, none⟩) xP2.length xc2) ∧ Hid True) (by kernel_rfl) ?_ (fun hHeld => ?_)
                  · exact ⟨HC2.out, Lib.hid trivial⟩
                  refine takeH (i := 0) (v := ?_) rfl rfl (by kernel_rfl) (by kernel_rfl) (by kernel_rfl) (fun _ _ _ h => h) (by rfl) ?_ (by assumption) ?_
                  rotate_left 1
                  · intro w hSw
                    (try dsimp only at hSw)
                    go_simp
                    try with_reducible rfl
                  try simp only [List.setIfInBounds_toArray, List.set_cons_zero, List.set_cons_succ]
                  refine takeH (i := 1) (v := ?_) rfl rfl (by kernel_rfl) (by kernel_rfl) (by kernel_rfl) (fun _ _ _ h => h) (by rfl) ?_ (by assumption) ?_
                  rotate_left 1
                  · intro w hSw
                    (try dsimp only at hSw)
                    go_simp
                    try with_reducible rfl
                  try simp only [List.setIfInBounds_toArray, List.set_cons_zero, List.set_cons_succ]
                  refine takeH (i := 2) (v := ?_) rfl rfl (by kernel_rfl) (by kernel_rfl) (by kernel_rfl) (fun _ _ _ h => h) (by rfl) ?_ (by assumption) ?_
                  rotate_left 1
                  · intro w hSw
                    (try dsimp only at hSw)
                    go_simp
                    try with_reducible rfl
                  try simp only [List.setIfInBounds_toArray, List.set_cons_zero, List.set_cons_succ]
                  refine takeH (i := 3) (v := ?_) rfl rfl (by kernel_rfl) (by kernel_rfl) (by kernel_rfl) (fun _ _ _ h => h) (by rfl) ?_ (by assumption) ?_
                  rotate_left 1
                  · intro w hSw
                    (try dsimp only at hSw)
                    go_simp
                    try with_reducible rfl
                  try simp only [List.setIfInBounds_toArray, List.set_cons_zero, List.set_cons_succ]
                  refine takeH (i := 4) (v := ?_) rfl rfl (by kernel_rfl) (by kernel_rfl) (by kernel_rfl) (fun _ _ _ h => h) (by rfl) ?_ (by assumption) ?_
                  rotate_left 1
                  · intro w hSw
                    (try dsimp only at hSw)
                    go_simp
                    try with_reducible rfl
                  try simp only [List.setIfInBounds_toArray, List.set_cons_zero, List.set_cons_succ]
                  refine takeH (i := 5) (v := ?_) rfl rfl (by kernel_rfl) (by kernel_rfl) (by kernel_rfl) (fun _ _ _ h => h) (by rfl) ?_ (by assumption) ?_
                  rotate_left 1
                  · intro w hSw
                    (try dsimp only at hSw)
                    go_simp
                    try with_reducible rfl
                  try simp only [List.setIfInBounds_toArray, List.set_cons_zero, List.set_cons_succ]
                  refine wpAnyH_ready (rs := [6]) (by kernel_rfl) (by simp) ?_
                  refine AllReadyH.cons rfl (fun K hK => ?_) (AllReadyH.nil)
                  go_simp
                  refine (back_is (r) (by omega) (by omega) _).mono ?_
                  rintro e wq ⟨rfl, bq⟩
                  have bq6 : Below w6.heap.size w6 wq := next (Below.refl _ w6).drew bq
                  have I6q := Lib.hid (I6.out.later bq6)
                  have HOq := Lib.hid (owni_later HO2.out bq6)
                  go_wp2_with fail
                  refine hK.out _ _ ?_ (fun hNew => ?_)
                  · exact ⟨cell_later bq hHeld.1, Lib.hid trivial⟩
                  clear hK K hHeld
                  have hHeld := hNew
                  clear hNew
                  try simp only [Act.put, List.setIfInBounds_toArray, List.set_cons_zero, List.set_cons_succ]
                  refine takeH (i := 7) (v := ?_) rfl rfl (by kernel_rfl) (by kernel_rfl) (by kernel_rfl) (fun _ _ _ h => h) (by rfl) ?_ (by assumption) ?_
                  rotate_left 1
                  · intro w hSw
                    (try dsimp only at hSw)
                    go_simp
                    try with_reducible rfl
                  try simp only [List.setIfInBounds_toArray, List.set_cons_zero, List.set_cons_succ]
                  refine wpAnyH_ready (rs := [8]) (by kernel_rfl) (by simp) ?_
                  refine AllReadyH.cons rfl (fun K hK => ?_) (AllReadyH.nil)
                  refine wp_stI (.tmp 68) (.tmp 67) rfl w.heap.size gb xc2 A xP2 (relB (r)) (by simp [Act.eval]) (by simp [Act.eval]) HOq.out (by omega) ?_
                  intro w7 o7 g7
                  have I7 := Lib.hid (RlI.put' HL6.out I6q.out hBw HX2.out (by simp) o7 g7)
                  have c7 : w7.cell? ⟨g, Bq, none⟩ = some (.slice (some ⟨gb, 0, none⟩) xP2.length xc2) := g7.cell hHeld.1 (by have h0 := mrows_apart I6q.out.par.row HOq.out (by decide); rcases h0 with h0 | h0; (simp [Value.ownBlock] at h0); (simpa [Value.ownBlock] using h0))
                  refine hK.out _ _ ?_ (fun hNew => ?_)
                  · exact ⟨c7, Lib.hid trivial⟩
                  clear hK K hHeld
                  have hHeld := hNew
                  clear hNew
                  try simp only [Act.put, List.setIfInBounds_toArray, List.set_cons_zero, List.set_cons_succ]
                  refine wpAnyH_done (by kernel_rfl) ?_ _
                  obtain ⟨L7, hL7⟩ : ∃ L7, L7 = L6.set Bq ⟨some ⟨gb, 0, none⟩, xc2, xP2.set A (relB (r))⟩ := ⟨_, rfl⟩
                  rw [← hL7] at I7
                  have HL7 : Hid (L7.length = n) := Lib.hid (by rw [hL7, List.length_set]; exact HL6.out)
                  clear hL7 hHeld
                  try clear o7 g7 c7 bq bq6 I6q HOq HO2 HC2 HX2 I6
                  go_wp2_with fail
                  go_roundw
                  case rel => exact ⟨Bq + 1, L7, by omega, by omega, by go_num, HL7, I7.out.mono (by omega)⟩
                  case measure => simp [intOf]; omega
            · obtain rfl : n = Bq := by omega
              go_wp2_with fail
              go_roundw
              case rel => exact ⟨A + 1, L, by omega, by go_num, HL, HI.out.mono (by omega)⟩
              case measure => simp [intOf]; omega
        · obtain rfl : n = A := by omega
          obtain ⟨qn, hrn, hqn⟩ := HI.out.rd
          have HRn := Lib.hid hrn
          have HLL := HL
          clear hrn
          go_wp2_with fail
          refine (pick_any 2 _ B qn (by omega) (by omega) HRn.out).mono ?_
          rintro en w5 ⟨y2, y20, y21, rfl, hr5, hg5⟩
          have I5 := Lib.hid (HI.out.picked hBw hg5 hr5 (show qn + 1 ≤ 110 by omega))
          clear hr5 hg5 HI HRn HLL
          by_cases hy2 : y2 = 0
          · have e2 : (y2 == 0) = true := by simp [hy2]
            clear hy2 y20 y21
            have hw5 := I5.out.on.size
            have J0 : Hid (MaR (w5.alloc (.cells #[] 33)) w5.heap.size (.slice (some ⟨w5.heap.size, 0, none⟩) 0 0) []) := Lib.hid (mar_empty w5 w5.heap.size (Nat.le_refl _))
            have B0 := Lib.hid ((Below.refl w5.heap.size w5).alloc (Nat.le_refl _) (.cells #[] 33))
            have hwn : IntKind.i64.wrap ((n : Int) - 1) = (n : Int) - 1 := by rw [IntKind.wrap_i64]; omega
            have HMt := Lib.hid (MaR.mat I5.out.par)
            go_wp2_with fail
            generalize w5.alloc (.cells #[] 33) = w6 at *
            go_loopw [10, 11, 12, 13] (fun t a _ _ wr => ∃ (m : Nat) (z : Int) (N : List IR), a = .int .i64 z ∧ Hid (z = (m : Int) - 1) ∧ m ≤ n ∧ N.length ≤ 5 ∧ Hid (N.length + m = n) ∧ Hid (∀ x ∈ N, x.P.length = n) ∧ Hid (Below w5.heap.size w5 wr) ∧ MaR wr w5.heap.size t N) (fun _ a _ _ _ => (intOf a + 1).toNat)
            case atStart => exact ⟨n, _, [], rfl, Lib.hid rfl, Nat.le_refl _, by simp, Lib.hid (by simp), Lib.hid (fun x hx => by cases hx), B0, J0.out⟩
            case round =>
              clear J0 B0
              obtain ⟨m, z, N, rfl, hz, hm, hN5, HN, HS, HB, hJ⟩ := hrel
              obtain ⟨oa, oc, rfl, _⟩ := OwnM.tab hJ.row
              have HJ := Lib.hid hJ
              clear hJ
              generalize wr = wO at *
              cases m with
              | succ m =>
                obtain rfl : z = (m : Int) := by have := hz.out; omega
                clear hz
                obtain ⟨x, hx⟩ : ∃ x, L[m]? = some x := ⟨_, List.getElem?_eq_getElem (by have := HL.out; omega)⟩
                obtain ⟨xa, xc, xP⟩ := x
                have hxl : xP.length = n := I5.out.sq _ (List.mem_of_getElem? hx)
                obtain ⟨ga, hga⟩ := own_some (I5.out.par.own _ (List.mem_of_getElem? hx)) (show 0 < xP.length by omega)
                dsimp only at hga
                subst hga
                have HC0 : Hid (w5.cell? ⟨g, m, none⟩ = some (.slice (some ⟨ga, 0, none⟩) xP.length xc)) := Lib.hid (rowcell I5.out.par hx)
                have HIA : Hid (IntA w5 (some ⟨ga, 0, none⟩) xP) := Lib.hid (OwnI.intA (I5.out.par.own _ (List.mem_of_getElem? hx))).2.2
                have m0 : (0 : Int) ≤ (m : Int) := by omega
                have m1 : (m : Int) < (n : Int) := by omega
                have hwm : IntKind.i64.wrap ((m : Int) - 1) = (m : Int) - 1 := by rw [IntKind.wrap_i64]; omega
                have hwO := HB.out.size
                have R0 : Hid (RvI wO [] (.slice (some ⟨wO.heap.size, 0, none⟩) 0 0) (wO.alloc (.cells #[] 3))) := Lib.hid ⟨owni_empty wO wO.heap.size (Nat.le_refl _), (Below.refl _ _).alloc (Nat.le_refl _) _⟩
                clear hx
                go_wp2_with fail
                generalize wO.alloc (.cells #[] 3) = w7 at *
                go_loopw [12, 13] (fun t b wr => ∃ (k : Nat) (z : Int) (U : List Int), b = .int .i64 z ∧ Hid (z = (k : Int) - 1) ∧ k ≤ n ∧ U.length ≤ 5 ∧ Hid (U.length + k = n) ∧ RvI wO U t wr) (fun _ b _ => (intOf b + 1).toNat)
                case atStart => exact ⟨n, _, [], rfl, Lib.hid rfl, Nat.le_refl _, by simp, Lib.hid (by simp), R0.out⟩
                case round =>
                  clear R0
                  obtain ⟨k, z, U, rfl, hz, hk, hU5, HU, hV⟩ := hrel
                  obtain ⟨ta, tc2, rfl, _, _⟩ := OwnI.tab hV.1
                  have LV := Lib.hid hV
                  clear hV
                  have HBr := Lib.hid (next HB.out LV.out.2)
                  cases k with
                  | succ k =>
                    obtain rfl : z = (k : Int) := by have := hz.out; omega
                    clear hz
                    have k0 : (0 : Int) ≤ (k : Int) := by omega
                    have k1 : (k : Int) < (xP.length : Int) := by omega
                    have hwk : IntKind.i64.wrap ((k : Int) - 1) = (k : Int) - 1 := by rw [IntKind.wrap_i64]; omega
                    obtain ⟨bb, oo, r, eb, hr, cr⟩ := HIA.out.at (show k < xP.length by omega)
                    have ch := cell_later HBr.out HC0.out
                    have ce := cell_later HBr.out cr
                    obtain ⟨rfl, rfl⟩ : ga = bb ∧ 0 = oo := by simpa using eb
                    simp only [Nat.zero_add] at ce
                    clear eb cr hr
                    go_wp2_with (at_builtin; refine wpList_appI rfl (.tmp 86) (.tmp 94) rfl wO.heap.size _ U rfl (LV.out.1.alloc _) _ 1 [r] rfl (pnews1 wr _) (by simp) ?hl1 ?hR1 ?hgo1)
                    case hl1 => (first | omega | (simp; omega))
                    case hR1 => (have := LV.out.2.size; (try simp only [World.size_alloc]); omega)
                    intro v8 w8 own8 grow8
                    have I8 := Lib.hid (LV.out.app (by simpa using own8) grow8)
                    have HU8 : Hid ((U ++ [r]).length + k = n) := Lib.hid (by have := HU.out; simp; omega)
                    have hu8 : (U ++ [r]).length ≤ 5 := by have := HU8.out; omega
                    clear own8 grow8 ch ce
                    generalize U ++ [r] = U8 at *
                    go_wp2_with fail
                    go_roundw
                    case rel => exact ⟨k, _, U8, rfl, Lib.hid rfl, by omega, hu8, HU8, I8.out⟩
                    case measure => first | (simp [intOf]; done) | (simp [intOf]; omega)
                  | zero =>
                    obtain rfl : z = -1 := by have := hz.out; omega
                    clear hz
                    have HUn : Hid (U.length = n) := Lib.hid (by have := HU.out; omega)
                    have J1 := Lib.hid ((HJ.out.later LV.out.2).alloc (.cells #[.slice ta U.length tc2] 33))
                    have HY := Lib.hid (World.ownsRow.alloc LV.out.1 (.cells #[.slice ta U.length tc2] 33))
                    have HLT := Lib.hid (MaR.lt HJ.out)
                    have HB1 := Lib.hid (HBr.out.alloc HBr.out.size (.cells #[.slice ta U.length tc2] 33))
                    have hwr := HBr.out.size
                    go_wp2_with (at_builtin; refine wpList_appM rfl (.tmp 96) (.tmp 98) rfl w5.heap.size (.slice oa N.length oc) N ?s1b ?o1b wr.heap.size ⟨ta, tc2, U⟩ ?x1b ?m1b ?l1b ?r1b ?h1b)
                    try case s1b => rfl
                    try case o1b => exact J1.out.row
                    try case x1b => rfl
                    try case m1b => (rw [World.cell?_alloc_new]; simp)
                    try case l1b => omega
                    try case r1b => (simp; omega)
                    intro v9 w9 own9 grow9
                    have J9 := Lib.hid (MaR.app J1.out hwO HLT.out HY.out own9 grow9)
                    have HB9 := Lib.hid (HB1.out.grown grow9 HB1.out.size (fun k e => (World.ownsRow.lt J1.out.row k e).1))
                    have HS9 : Hid (∀ x ∈ N ++ [(⟨ta, tc2, U⟩ : IR)], x.P.length = n) := Lib.hid (fun x hx => by
                      rcases List.mem_append.1 hx with q | q
                      · exact HS.out x q
                      · obtain rfl : x = _ := by simpa using q
                        exact HUn.out)
                    have HN9 : Hid ((N ++ [(⟨ta, tc2, U⟩ : IR)]).length + m = n) := Lib.hid (by have := HN.out; simp; omega)
                    have hn9 : (N ++ [(⟨ta, tc2, U⟩ : IR)]).length ≤ 5 := by have := HN9.out; omega
                    clear own9 grow9 J1 HY HLT HB1
                    generalize N ++ [(⟨ta, tc2, U⟩ : IR)] = N9 at *
                    go_wp2_with fail
                    go_roundw
                    case rel => exact ⟨m, _, N9, rfl, Lib.hid rfl, by omega, hn9, HN9, HS9, HB9, J9.out⟩
                    case measure => first | (simp [intOf]; done) | (simp [intOf]; omega)
              | zero =>
                obtain rfl : z = -1 := by have := hz.out; omega
                clear hz
                have hNn : N.length = n := by have := HN.out; omega
                obtain ⟨qz, hrz, hqz⟩ := I5.out.rd
                have I9 : Hid (RlI w B n 110 (.slice oa N.length oc) N wO) := Lib.hid ⟨HJ.out.mono hw5, HS.out, ⟨qz, rd_below hrz HB.out, hqz⟩, only_below I5.out.on HB.out⟩
                clear hrz
                generalize hNm : N.length = m2 at *
                obtain rfl : n = m2 := by omega
                obtain ⟨g2, rfl⟩ : ∃ g, oa = some ⟨g, 0, none⟩ := by
                  rcases I9.out.par.row.2 with ⟨e, h0⟩ | ⟨g, cap, cur, e, _⟩
                  · omega
                  · injection e with e1 e2 e3; exact ⟨g, e1⟩
                have HNL := Lib.hid hNm
                clear hNm hNn HJ
                obtain ⟨qa, hra, hqa⟩ := I9.out.rd
                have HRd := Lib.hid hra
                clear hra
                go_wp2_with fail
                refine (pick_any 40 _ B qa (by omega) (by omega) HRd.out).mono ?_
                rintro en wA ⟨yA, yA0, yA1, rfl, hrA, hgA⟩
                have IA := Lib.hid (I9.out.picked hBw hgA hrA (show qa + 1 ≤ 120 by omega))
                clear hrA hgA HRd I9
                by_cases hyA : yA = 0
                · have eA : (yA == 0) = true := by simp [hyA]
                  clear hyA yA0 yA1
                  obtain ⟨qb, hrb, hqb⟩ := IA.out.rd
                  have HRb := Lib.hid (show Rd wA.drew B qb from hrb)
                  clear hrb
                  obtain ⟨x, hx⟩ : ∃ x, N[0]? = some x := ⟨_, List.getElem?_eq_getElem (by have := HNL.out; omega)⟩
                  obtain ⟨xa, xc, xP⟩ := x
                  have hxl : xP.length = n := IA.out.sq _ (List.mem_of_getElem? hx)
                  obtain ⟨ga, hga⟩ := own_some (IA.out.par.own _ (List.mem_of_getElem? hx)) (show 0 < xP.length by omega)
                  dsimp only at hga
                  subst hga
                  have HO : Hid (OwnI wA w.heap.size (.slice (some ⟨ga, 0, none⟩) xP.length xc) xP) := Lib.hid (IA.out.par.own _ (List.mem_of_getElem? hx))
                  have HC0 : Hid (wA.cell? ⟨g2, 0, none⟩ = some (.slice (some ⟨ga, 0, none⟩) xP.length xc)) := Lib.hid (rowcell IA.out.par hx)
                  have HgB : Hid (some g2 ≠ some B) := Lib.hid (fun e => by have h0 := (World.ownsRow.lt IA.out.par.row g2 rfl).1; have e2 := Option.some.inj e; omega)
                  have n0 : (0 : Int) < (n : Int) := by omega
                  have n00 : 0 < n := by omega
                  have x10 : 1 < xP.length := by omega
                  have x1 : (1 : Int) < (xP.length : Int) := by omega
                  have HXx := Lib.hid hx
                  clear hx hxl
                  go_wp2_with fail
                  refine wp_region_held_drew (S := fun W => W.cell? ⟨g2, 0, none⟩ = some (.slice (some ⟨ga, 0, none⟩) xP.length xc) ∧ Hid True) (by kernel_rfl) ?_ (fun hHeld => ?_)
                  · exact ⟨HC0.out, Lib.hid trivial⟩
                  refine takeH (i := 0) (v := ?_) rfl rfl (by kernel_rfl) (by kernel_rfl) (by kernel_rfl) (fun _ _ _ h => h) (by rfl) ?_ (by assumption) ?_
                  rotate_left 1
                  · intro w hSw
                    (try dsimp only at hSw)
                    go_simp
                    try with_reducible rfl
                  try simp only [List.setIfInBounds_toArray, List.set_cons_zero, List.set_cons_succ]
                  refine takeH (i := 1) (v := ?_) rfl rfl (by kernel_rfl) (by kernel_rfl) (by kernel_rfl) (fun _ _ _ h => h) (by rfl) ?_ (by assumption) ?_
                  rotate_left 1
                  · intro w hSw
                    (try dsimp only at hSw)
                    go_simp
                    try with_reducible rfl
                  try simp only [List.setIfInBounds_toArray, List.set_cons_zero, List.set_cons_succ]
                  refine takeH (i := 2) (v := ?_) rfl rfl (by kernel_rfl) (by kernel_rfl) (by kernel_rfl) (fun _ _ _ h => h) (by rfl) ?_ (by assumption) ?_
                  rotate_left 1
                  · intro w hSw
                    (try dsimp only at hSw)
                    go_simp
                    try with_reducible rfl
                  try simp only [List.setIfInBounds_toArray, List.set_cons_zero, List.set_cons_succ]
                  refine takeH (i := 3) (v := ?_) rfl rfl (by kernel_rfl) (by kernel_rfl) (by kernel_rfl) (fun _ _ _ h => h) (by rfl) ?_ (by assumption) ?_
                  rotate_left 1
                  · intro w hSw
                    (try dsimp only at hSw)
                    go_simp
                    try with_reducible rfl
                  try simp only [List.setIfInBounds_toArray, List.set_cons_zero, List.set_cons_succ]
                  refine wpAnyH_ready (rs := [4]) (by kernel_rfl) (by simp) ?_
                  refine AllReadyH.cons rfl (fun K hK => ?_) (AllReadyH.nil)
                  go_simp
                  refine (pick_any 5 _ B qb (by omega) (by omega) HRb.out).mono ?_
                  rintro e wq ⟨yz, yz0, yz1, rfl, hrz, hgz⟩
                  have hgq : wA.grownBy wq (some B) := only_on (only_drew (World.grownBy.refl wA _)) hgz
                  have IAq := Lib.hid (IA.out.picked hBw hgq hrz (show qb + 1 ≤ 130 by omega))
                  have HOq := Lib.hid (owni_pick HO.out hgq hBw)
                  go_wp2_with fail
                  refine hK.out _ _ ?_ (fun hNew => ?_)
                  · exact ⟨hgz.cell hHeld.1 HgB.out, Lib.hid trivial⟩
                  clear hK K hHeld
                  have hHeld := hNew
                  clear hNew
                  try simp only [Act.put, List.setIfInBounds_toArray, List.set_cons_zero, List.set_cons_succ]
                  refine takeH (i := 5) (v := ?_) rfl rfl (by kernel_rfl) (by kernel_rfl) (by kernel_rfl) (fun _ _ _ h => h) (by rfl) ?_ (by assumption) ?_
                  rotate_left 1
                  · intro w hSw
                    (try dsimp only at hSw)
                    go_simp
                    try with_reducible rfl
                  try simp only [List.setIfInBounds_toArray, List.set_cons_zero, List.set_cons_succ]
                  refine wpAnyH_ready (rs := [6]) (by kernel_rfl) (by simp) ?_
                  refine AllReadyH.cons rfl (fun K hK => ?_) (AllReadyH.nil)
                  refine wp_stI (.tmp 109) (.tmp 108) rfl w.heap.size ga xc 1 xP yz (by simp [Act.eval]) (by simp [Act.eval]) HOq.out (by omega) ?_
                  intro w7 o7 g7
                  have I7 := Lib.hid (RlI.put' HNL.out IAq.out hBw HXx.out (by simp) o7 g7)
                  have c7 : w7.cell? ⟨g2, 0, none⟩ = some (.slice (some ⟨ga, 0, none⟩) xP.length xc) := g7.cell hHeld.1 (by have h0 := mrows_apart IAq.out.par.row HOq.out (by decide); rcases h0 with h0 | h0; (simp [Value.ownBlock] at h0); (simpa [Value.ownBlock] using h0))
                  refine hK.out _ _ ?_ (fun hNew => ?_)
                  · exact ⟨c7, Lib.hid trivial⟩
                  clear hK K hHeld
                  have hHeld := hNew
                  clear hNew
                  try simp only [Act.put, List.setIfInBounds_toArray, List.set_cons_zero, List.set_cons_succ]
                  refine wpAnyH_done (by kernel_rfl) ?_ _
                  have HLs : Hid ((N.set 0 ⟨some ⟨ga, 0, none⟩, xc, xP.set 1 yz⟩).length = n) := Lib.hid (by rw [List.length_set]; exact HNL.out)
                  clear hHeld
                  go_wp2_with fail
                  go_ret
                  exact ⟨_, _, n, 0, rfl, hn2, HLs.out, I7.out.mono (by omega)⟩
                · have eA : (yA == 0) = false := by simp [hyA]
                  clear hyA yA0 yA1
                  go_wp2_with fail
                  go_ret
                  exact ⟨_, N, n, 0, rfl, hn2, HNL.out, IA.out.mono (by omega)⟩
          · have e2 : (y2 == 0) = false := by simp [hy2]
            clear hy2 y20 y21
            obtain ⟨qa, hra, hqa⟩ := I5.out.rd
            have HRd := Lib.hid hra
            clear hra
            go_wp2_with fail
            refine (pick_any 40 _ B qa (by omega) (by omega) HRd.out).mono ?_
            rintro en wA ⟨yA, yA0, yA1, rfl, hrA, hgA⟩
            have IA := Lib.hid (I5.out.picked hBw hgA hrA (show qa + 1 ≤ 120 by omega))
            clear hrA hgA HRd I5
            by_cases hyA : yA = 0
            · have eA : (yA == 0) = true := by simp [hyA]
              clear hyA yA0 yA1
              obtain ⟨qb, hrb, hqb⟩ := IA.out.rd
              have HRb := Lib.hid (show Rd wA.drew B qb from hrb)
              clear hrb
              obtain ⟨x, hx⟩ : ∃ x, L[0]? = some x := ⟨_, List.getElem?_eq_getElem (by have := HL.out; omega)⟩
              obtain ⟨xa, xc, xP⟩ := x
              have hxl : xP.length = n := IA.out.sq _ (List.mem_of_getElem? hx)
              obtain ⟨ga, hga⟩ := own_some (IA.out.par.own _ (List.mem_of_getElem? hx)) (show 0 < xP.length by omega)
              dsimp only at hga
              subst hga
              have HO : Hid (OwnI wA w.heap.size (.slice (some ⟨ga, 0, none⟩) xP.length xc) xP) := Lib.hid (IA.out.par.own _ (List.mem_of_getElem? hx))
              have HC0 : Hid (wA.cell? ⟨g, 0, none⟩ = some (.slice (some ⟨ga, 0, none⟩) xP.length xc)) := Lib.hid (rowcell IA.out.par hx)
              have HgB : Hid (some g ≠ some B) := Lib.hid (fun e => by have h0 := (World.ownsRow.lt IA.out.par.row g rfl).1; have e2 := Option.some.inj e; omega)
              have n0 : (0 : Int) < (n : Int) := by omega
              have n00 : 0 < n := by omega
              have x10 : 1 < xP.length := by omega
              have x1 : (1 : Int) < (xP.length : Int) := by omega
              have HXx := Lib.hid hx
              clear hx hxl
              go_wp2_with fail
              refine wp_region_held_drew (S := fun W => W.cell? ⟨g, 0, none⟩ = some (.slice (some ⟨ga, 0, none⟩) xP.length xc) ∧ Hid True) (by kernel_rfl) ?_ (fun hHeld => ?_)
              · exact ⟨HC0.out, Lib.hid trivial⟩
              refine takeH (i := 0) (v := ?_) rfl rfl (by kernel_rfl) (by kernel_rfl) (by kernel_rfl) (fun _ _ _ h => h) (by rfl) ?_ (by assumption) ?_
              rotate_left 1
              · intro w hSw
                (try dsimp only at hSw)
                go_simp
                try with_reducible rfl
              try simp only [List.setIfInBounds_toArray, List.set_cons_zero, List.set_cons_succ]
              refine takeH (i := 1) (v := ?_) rfl rfl (by kernel_rfl) (by kernel_rfl) (by kernel_rfl) (fun _ _ _ h => h) (by rfl) ?_ (by assumption) ?_
              rotate_left 1
              · intro w hSw
                (try dsimp only at hSw)
                go_simp
                try with_reducible rfl
              try simp only [List.setIfInBounds_toArray, List.set_cons_zero, List.set_cons_succ]
              refine takeH (i := 2) (v := ?_) rfl rfl (by kernel_rfl) (by kernel_rfl) (by kernel_rfl) (fun _ _ _ h => h) (by rfl) ?_ (by assumption) ?_
              rotate_left 1
              · intro w hSw
                (try dsimp only at hSw)
                go_simp
                try with_reducible rfl
              try simp only [List.setIfInBounds_toArray, List.set_cons_zero, List.set_cons_succ]
              refine takeH (i := 3) (v := ?_) rfl rfl (by kernel_rfl) (by kernel_rfl) (by kernel_rfl) (fun _ _ _ h => h) (by rfl) ?_ (by assumption) ?_
              rotate_left 1
              · intro w hSw
                (try dsimp only at hSw)
                go_simp
                try with_reducible rfl
              try simp only [List.setIfInBounds_toArray, List.set_cons_zero, List.set_cons_succ]
              refine wpAnyH_ready (rs := [4]) (by kernel_rfl) (by simp) ?_
              refine AllReadyH.cons rfl (fun K hK => ?_) (AllReadyH.nil)
              go_simp
              refine (pick_any 5 _ B qb (by omega) (by omega) HRb.out).mono ?_
              rintro e wq ⟨yz, yz0, yz1, rfl, hrz, hgz⟩
              have hgq : wA.grownBy wq (some B) := only_on (only_drew (World.grownBy.refl wA _)) hgz
              have IAq := Lib.hid (IA.out.picked hBw hgq hrz (show qb + 1 ≤ 130 by omega))
              have HOq := Lib.hid (owni_pick HO.out hgq hBw)
              go_wp2_with fail
              refine hK.out _ _ ?_ (fun hNew => ?_)
              · exact ⟨hgz.cell hHeld.1 HgB.out, Lib.hid trivial⟩
              clear hK K hHeld
              have hHeld := hNew
              clear hNew
              try simp only [Act.put, List.setIfInBounds_toArray, List.set_cons_zero, List.set_cons_succ]
              refine takeH (i := 5) (v := ?_) rfl rfl (by kernel_rfl) (by kernel_rfl) (by kernel_rfl) (fun _ _ _ h => h) (by rfl) ?_ (by assumption) ?_
              rotate_left 1
              · intro w hSw
                (try dsimp only at hSw)
                go_simp
                try with_reducible rfl
              try simp only [List.setIfInBounds_toArray, List.set_cons_zero, List.set_cons_succ]
              refine wpAnyH_ready (rs := [6]) (by kernel_rfl) (by simp) ?_
              refine AllReadyH.cons rfl (fun K hK => ?_) (AllReadyH.nil)
              refine wp_stI (.tmp 109) (.tmp 108) rfl w.heap.size ga xc 1 xP yz (by simp [Act.eval]) (by simp [Act.eval]) HOq.out (by omega) ?_
              intro w7 o7 g7
              have I7 := Lib.hid (RlI.put' HL.out IAq.out hBw HXx.out (by simp) o7 g7)
              have c7 : w7.cell? ⟨g, 0, none⟩ = some (.slice (some ⟨ga, 0, none⟩) xP.length xc) := g7.cell hHeld.1 (by have h0 := mrows_apart IAq.out.par.row HOq.out (by decide); rcases h0 with h0 | h0; (simp [Value.ownBlock] at h0); (simpa [Value.ownBlock] using h0))
              refine hK.out _ _ ?_ (fun hNew => ?_)
              · exact ⟨c7, Lib.hid trivial⟩
              clear hK K hHeld
              have hHeld := hNew
              clear hNew
              try simp only [Act.put, List.setIfInBounds_toArray, List.set_cons_zero, List.set_cons_succ]
              refine wpAnyH_done (by kernel_rfl) ?_ _
              have HLs : Hid ((L.set 0 ⟨some ⟨ga, 0, none⟩, xc, xP.set 1 yz⟩).length = n) := Lib.hid (by rw [List.length_set]; exact HL.out)
              clear hHeld
              go_wp2_with fail
              go_ret
              exact ⟨_, _, n, 0, rfl, hn2, HLs.out, I7.out.mono (by omega)⟩
            · have eA : (yA == 0) = false := by simp [hyA]
              clear hyA yA0 yA1
              go_wp2_with fail
              go_ret
              exact ⟨_, L, n, 0, rfl, hn2, HL.out, IA.out.mono (by omega)⟩
end Go.Proofs.Ytnljcppefnaapaa
