/-
  The door seat: a range is read back from its text: the walk of the law.
-/
import Derived.Test.YtglmoacgaacmeaaDoorDoorG
import Derived.Test.YtglmoacgaacmeaaDoorDrawS
namespace Go.Proofs.YtglmoacgaacmeaaDoor
open Go.RowKit
set_option linter.unusedSimpArgs false

set_option maxHeartbeats 400000 in
theorem dText_any (a : Option Addr) (len cap : Nat) (zs : List Int) (w : World) (h : IsRow w a len cap zs) :
    Calls Tryd.prog 14 #[.slice a len cap] w (Drawn1 w) := by
  have H := Lib.hid (isRow_alloc h (.cells #[.int .i64 0, .int .i64 0] 25))
  clear h
  have r0 := At.new w 0 0 25
  go_enter Tryd.func14, Tryd.ntmps14
  go_wp2_with fail
  refine (open_any a len cap zs _ H.out).mono ?_
  rintro e w1 ⟨rfl, hr1, hb1⟩
  replace r0 := r0.below hb1
  have hb1' : Below w.heap.size w w1 := below_box hb1 (by simp)
  have hs1 := r0.lt
  clear hb1
  simp only [World.size_alloc] at hr1
  go_wp2_with fail
  refine (range_any _ _ 0 (by omega) hr1).mono ?_
  rintro e w2 ⟨f, b, p', hs, rfl, hr2, _, hg2⟩
  replace r0 := r0.only hg2 (by omega)
  have hb2 : Below w.heap.size w w2 := below_only hb1' hg2 (by omega) (by omega)
  obtain ⟨c0, c1, f0, f1⟩ := r0
  have r1 := At.put ⟨c0, c1, f0, f1⟩ f b
  have hb3 := below_set2 hb2 (.int .i64 f) (.int .i64 b) (Nat.le_refl _)
  clear hr1 hr2 hg2 hb1' hb2
  go_wp2
  obtain ⟨d0, d1, _, _⟩ := r1
  exact bodyPost_ret (v := .agg #[.int .i64 f, .int .i64 b]) (by simp [results, Tryd.results14, go_sem, d0, d1]) rfl ⟨f, b, hs, rfl, hb3⟩

theorem rok_is {f b : Int} {v : Bool} (h : okB f b = v) (w : World) :
    Calls Tryd.prog 15 #[.agg #[.int .i64 f, .int .i64 b]] w fun e w' => e = .returned (.bool v) ∧ Below w.heap.size w w' := by
  rw [← h]; exact rok_any f b w
theorem txt_some (f b : Int) : (txt f b).toList.isEmpty = false := by
  rw [ByteArray.toList_eq, txt_data]; simp

set_option maxRecDepth 4000 in
set_option maxHeartbeats 1000000 in
theorem lawBack (a : Option Addr) (len cap : Nat) (zs : List Int) (w : World) (h : IsRow w a len cap zs) (he : Errs w ∧ Pow w) :
    Calls Tryd.prog 5 #[.slice a len cap] w fun e w' => e = .returned (.bool true) ∧ Below w.heap.size w w' := by
  by_cases hl : 1048576 < len
  · clear h
    go_enter Tryd.func5, Tryd.ntmps5
    go_wp2
    go_ret
    exact ⟨rfl, Below.refl _ _⟩
  have H := Lib.hid h
  clear h
  have hlb : decide (1048576 < (len : Int)) = false := by simp; omega
  go_enter Tryd.func5, Tryd.ntmps5
  go_wp2_with fail
  refine (dText_any a len cap zs _ H.out).mono ?_
  rintro e w1 ⟨f, b, hs, rfl, hb1⟩
  clear hs
  have r1 := At.new w1 f b 25
  have B1 := hb1.alloc hb1.size (.cells #[.int .i64 f, .int .i64 b] 25)
  clear hb1
  go_wp2_with fail
  generalize w1.alloc (.cells #[.int .i64 f, .int .i64 b] 25) = W1 at *
  generalize w1.heap.size = R at *
  by_cases ho : okB f b = true
  · have HT := Lib.hid (show rtext f b = txt f b by rw [rtext, if_pos ho])
    have hne := txt_some f b
    refine (itext_any f b _ (he.2.on B1 (Nat.le_refl _))).mono ?_
    rintro e w2 ⟨rfl, hb⟩
    rw [HT.out]
    replace r1 := r1.below hb
    replace B1 := next B1 hb
    clear hb
    obtain ⟨c0, c1, _, _⟩ := id r1
    go_wp2_with fail
    refine (stext_any f b _).mono ?_
    rintro e w3 ⟨rfl, hb⟩
    rw [HT.out]
    replace r1 := r1.below hb
    replace B1 := next B1 hb
    clear hb c0 c1
    obtain ⟨c0, c1, _, _⟩ := id r1
    go_wp2_with fail
    refine (iread_yes f b _ (he.2.on B1 (Nat.le_refl _)) ho).mono ?_
    rintro e w4 ⟨rfl, hb⟩
    replace r1 := (r1.below hb).alloc (.cells #[.int .i64 f, .int .i64 b] 25)
    have B2 := next (next B1 hb) ((Below.refl _ _).alloc (Nat.le_refl _) (.cells #[.int .i64 f, .int .i64 b] 25))
    have r2 := At.new w4 f b 25
    clear hb c0 c1
    obtain ⟨c0, c1, _, _⟩ := id r1
    obtain ⟨x0, x1, _, _⟩ := id r2
    go_wp2_with fail
    refine (rok_is ho _).mono ?_
    rintro e w5 ⟨rfl, hb⟩
    replace B2 := next B2 hb
    clear hb
    go_wp2
    go_ret
    exact ⟨rfl, B2⟩
  · have HT := Lib.hid (show rtext f b = ⟨#[]⟩ by rw [rtext, if_neg ho])
    refine (itext_any f b _ (he.2.on B1 (Nat.le_refl _))).mono ?_
    rintro e w2 ⟨rfl, hb⟩
    rw [HT.out]
    replace r1 := r1.below hb
    replace B1 := next B1 hb
    clear hb
    obtain ⟨c0, c1, _, _⟩ := id r1
    go_wp2_with fail
    refine (stext_any f b _).mono ?_
    rintro e w3 ⟨rfl, hb⟩
    rw [HT.out]
    replace r1 := r1.below hb
    replace B1 := next B1 hb
    clear hb c0 c1
    obtain ⟨c0, c1, _, _⟩ := id r1
    go_wp2_with fail
    refine (stext_any f b _).mono ?_
    rintro e w4 ⟨rfl, hb⟩
    rw [HT.out]
    replace B1 := next B1 hb
    clear hb
    go_wp2
    go_ret
    exact ⟨rfl, B1⟩
end Go.Proofs.YtglmoacgaacmeaaDoor
