/-
  The door seat: what the list of laid variables gives; the walk of 'RangeText answers as the model does'.
-/
import Derived.Test.YtglmoacgaacmeaaDoorDoorB
import Derived.Lib.LaidTab
namespace Go.Proofs.YtglmoacgaacmeaaDoor
open Go.RowKit
set_option linter.unusedSimpArgs false

theorem vars_tail {P : Program} {W : World} {x : String × DataW Unit} {l : List (String × DataW Unit)} {ps : List MemPlace} (h : DataW.LaidVars P W (x :: l) ps) : ∃ qs, DataW.LaidVars P W l qs := by
  obtain ⟨_, _, _, _, _, q, _, _, _, _, h1, h2⟩ := h
  first | exact ⟨q, h1⟩ | exact ⟨q, h2⟩
theorem vars_tab {P : Program} {W : World} {name : String} {k : IntKind} {zs : List Int} {rest : List (String × DataW Unit)} {g : Nat} {t e : TypeId} {n : Nat} {ps : List MemPlace}
    (hg : P.globalNamed name = some g) (hty : (P.globals[g]?).map (·.type) = some t) (ht : P.underlying t = some (.array n e)) (he : P.underlying e = some (.int k)) (hce : P.cellsOf e = 1) (hct : P.cellsOf t = n)
    (h : DataW.LaidVars P W ((name, Lib.tabData k zs) :: rest) ps) : Lib.TabIs P W name k zs := by
  obtain ⟨g', t', cs, fuel, p, q, hg', ht', hvar, hd, _, _⟩ := h
  obtain rfl := Option.some.inj (hg.symm.trans hg')
  obtain rfl := Option.some.inj (hty.symm.trans ht')
  unfold Lib.TabIs
  rw [hvar, ← Lib.cells_of_tab ht he hce hct hd]
theorem gPowType : (Tryd.prog.globals[3]?).map (·.type) = some 88 := by kernel_rfl
theorem cellsPow : Tryd.prog.cellsOf 88 = 20 := by kernel_rfl
theorem cellsU64 : Tryd.prog.cellsOf 74 = 1 := by kernel_rfl

set_option maxHeartbeats 1000000 in
theorem exactText_walk (f b : Int) (w : World) (ht : Pow w) :
    Calls Tryd.prog 3 #[.agg #[.int .i64 f, .int .i64 b]] w fun e w' => e = .returned (.bool true) ∧ Below w.heap.size w w' := by
  go_enter Tryd.func3, Tryd.ntmps3
  go_wp2_with fail
  refine (to_any f b _).mono ?_
  rintro e w1 ⟨rfl, hb1⟩
  go_wp2_with fail
  refine (stext_any f b _).mono ?_
  rintro e w2 ⟨rfl, hb2⟩
  have c0 := cell_later hb2 (cell_later (a := ⟨w.heap.size, 0, none⟩) (v := .int .i64 f) hb1 (by simp))
  have c1 := cell_later hb2 (cell_later (a := ⟨w.heap.size, 1, none⟩) (v := .int .i64 b) hb1 (by simp))
  have h2 := next (below_box hb1 (by simp)) hb2
  go_wp2_with fail
  refine (to_any f b _).mono ?_
  rintro e w3 ⟨rfl, hb3⟩
  have h3 := next h2 hb3
  go_wp2_with fail
  refine (itext_any f b _ (ht.on h3 (Nat.le_refl _))).mono ?_
  rintro e w4 ⟨rfl, hb4⟩
  go_wp2
  go_ret
  exact ⟨rfl, next h3 hb4⟩
end Go.Proofs.YtglmoacgaacmeaaDoor
