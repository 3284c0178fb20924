/-
  The door seat: the program reads what the model reads: the walk of the law.
-/
import Derived.Test.YtglmoacgaacmeaaDoorDoorE
import Derived.Test.YtglmoacgaacmeaaDoorDoorF
namespace Go.Proofs.YtglmoacgaacmeaaDoor
open Go.RowKit
set_option linter.unusedSimpArgs false

theorem num_dig : ∀ n, n < 256 → num (dig3 n) = (n : Int) := by decide +kernel
theorem len_dig : ∀ n, n < 256 → (dig3 n).length ≤ 3 := by decide +kernel
theorem len_dig1 : ∀ n, n < 10 → (dig3 n).length = 1 := by decide +kernel
theorem split47 : ∀ {p p' q q' : List UInt8}, (47 : UInt8) ∉ p → (47 : UInt8) ∉ p' → p ++ 47 :: q = p' ++ 47 :: q' → p = p' ∧ q = q'
  | [], [], _, _, _, _, h => by simp at h; exact ⟨rfl, h⟩
  | [], y :: p', _, _, _, h2, h => by simp at h; exact absurd (by simp [h.1]) h2
  | x :: p, [], _, _, h1, _, h => by simp at h; exact absurd (by simp [h.1]) h1
  | x :: p, y :: p', q, q', h1, h2, h => by
    simp only [List.cons_append, List.cons.injEq] at h
    obtain ⟨e1, e2⟩ := split47 (fun k => h1 (by simp [k])) (fun k => h2 (by simp [k])) h.2
    exact ⟨by rw [h.1, e1], e2⟩
theorem not_bad {f b : Int} (ho : okB f b = true) : ¬ Bad (txt f b) := by
  obtain ⟨f0, f1, b0, b8⟩ := okB_in ho
  rintro (h | h | ⟨p, q, h1, h2, h3⟩)
  · have e : (txt f b).size = (Lib.decDigits f.toNat ++ 47 :: Lib.decDigits b.toNat).length := by
      rw [← txt_data]; simp
    rw [e, List.length_append, List.length_cons, dec3 (by omega), dec3 (by omega), len_dig1 b.toNat (by omega)] at h
    have := len_dig f.toNat (by omega)
    omega
  · rw [txt_data] at h
    simp at h
  · rw [txt_data] at h1
    obtain ⟨e1, e2⟩ := split47 (no47 (by omega)) h2 h1
    subst e1 e2
    rw [dec3 (by omega), dec3 (by omega), num_dig _ (by omega), num_dig _ (by omega), Int.toNat_of_nonneg f0, Int.toNat_of_nonneg b0, rtext, if_pos ho] at h3
    exact h3 rfl
theorem txt_inj {f b g c : Int} (ho : okB f b = true) (hg : okB g c = true) (h : txt f b = txt g c) : f = g ∧ b = c := by
  obtain ⟨f0, f1, b0, b8⟩ := okB_in ho
  obtain ⟨g0, g1, c0, c8⟩ := okB_in hg
  have k := congrArg (fun s : ByteArray => back s.data.toList) h
  have t : ∀ f b, (txt f b).data.toList = Lib.decDigits f.toNat ++ [47] ++ Lib.decDigits b.toNat := by intro f b; rw [txt_data]; simp
  simp only [t] at k
  rw [back_text (by omega) (by omega), back_text (by omega) (by omega)] at k
  simp only [Prod.mk.injEq] at k
  omega

/-- the model and the program read the same of a text -/
theorem sread_yes {f b : Int} (ho : okB f b = true) (w : World) :
    Calls Tryd.prog 11 #[.string (txt f b)] w fun e w' => e = .returned (.tuple #[.agg #[.int .i64 f, .int .i64 b], .bool true]) ∧ Below w.heap.size w w' := by
  refine (sread (txt f b) w).mono ?_
  rintro e w' ⟨g, c, u, rfl, hb, ⟨rfl, rfl, rfl, hbad⟩ | ⟨rfl, hg, hs⟩⟩
  · exact absurd hbad (not_bad ho)
  · obtain ⟨rfl, rfl⟩ := txt_inj ho hg hs
    exact ⟨rfl, hb⟩
theorem sread_no {s : ByteArray} (hno : ∀ f b, okB f b = true → s ≠ txt f b) (w : World) :
    Calls Tryd.prog 11 #[.string s] w fun e w' => e = .returned (.tuple #[.agg #[.int .i64 0, .int .i64 0], .bool false]) ∧ Below w.heap.size w w' := by
  refine (sread s w).mono ?_
  rintro e w' ⟨g, c, u, rfl, hb, ⟨rfl, rfl, rfl, hbad⟩ | ⟨rfl, hg, hs⟩⟩
  · exact ⟨rfl, hb⟩
  · exact absurd hs (hno _ _ hg)
theorem read_either (s : ByteArray) : ∃ f b, ∃ u : Bool, (∀ w, Calls Tryd.prog 11 #[.string s] w fun e w' => e = .returned (.tuple #[.agg #[.int .i64 f, .int .i64 b], .bool u]) ∧ Below w.heap.size w w') ∧
    (∀ w, s.size ≤ 1048576 → Errs w → Pow w → Calls Tryd.prog 12 #[.string s] w fun e w' => e = .returned (.tuple #[.agg #[.int .i64 f, .int .i64 b], .bool u]) ∧ Below w.heap.size w w') := by
  by_cases h : ∃ f b, okB f b = true ∧ s = txt f b
  · obtain ⟨f, b, ho, rfl⟩ := h
    exact ⟨f, b, true, fun w => sread_yes ho w, fun w _ _ ht => iread_yes f b w ht ho⟩
  · have hno : ∀ f b, okB f b = true → s ≠ txt f b := fun f b ho e => h ⟨f, b, ho, e⟩
    exact ⟨0, 0, false, fun w => sread_no hno w, fun w hz he ht => iread_no s w hz he ht hno⟩

set_option maxHeartbeats 1000000 in
theorem eq_any (f b : Int) (w : World) :
    Calls Tryd.prog 13 #[.agg #[.int .i64 f, .int .i64 b], .agg #[.int .i64 f, .int .i64 b]] w fun e w' => e = .returned (.bool true) ∧ Below w.heap.size w w' := by
  go_enter Tryd.func13, Tryd.ntmps13
  go_wp2
  go_ret
  exact ⟨rfl, by go_grown⟩

set_option maxRecDepth 4000 in
set_option maxHeartbeats 1000000 in
theorem lawRead (s : ByteArray) (w : World) (he : Errs w) (ht : Pow w) :
    Calls Tryd.prog 4 #[.string s] w fun e w' => e = .returned (.bool true) ∧ Below w.heap.size w w' := by
  by_cases hl : 1048576 < s.size
  · go_enter Tryd.func4, Tryd.ntmps4
    go_wp2
    go_ret
    exact ⟨rfl, by go_grown⟩
  obtain ⟨f, b, u, h1, h2⟩ := read_either s
  have H1 := Lib.hid h1
  have H2 := Lib.hid h2
  clear h1 h2
  go_enter Tryd.func4, Tryd.ntmps4
  go_wp2_with fail
  refine (H1.out _).mono ?_
  rintro e w1 ⟨rfl, hb1⟩
  have q0 := At.new w1 f b 25
  have B1 := next hb1 ((Below.refl _ _).alloc (Nat.le_refl _) (.cells #[.int .i64 f, .int .i64 b] 25))
  clear hb1
  go_wp2_with fail
  generalize (w1.alloc (.cells #[.int .i64 f, .int .i64 b] 25)) = W1 at *
  refine (H2.out _ (by omega) (he.on B1 (Nat.le_refl _)) (ht.on B1 (Nat.le_refl _))).mono ?_
  rintro e w2 ⟨rfl, hb⟩
  replace q0 := (q0.below hb).alloc (.cells #[.int .i64 f, .int .i64 b] 25)
  replace B1 := next (next B1 hb) ((Below.refl _ _).alloc (Nat.le_refl _) (.cells #[.int .i64 f, .int .i64 b] 25))
  have q1 := At.new w2 f b 25
  clear hb
  obtain ⟨x0, x1, _, _⟩ := id q0
  obtain ⟨y0, y1, _, _⟩ := id q1
  go_wp2_with fail
  generalize (w2.alloc (.cells #[.int .i64 f, .int .i64 b] 25)) = W2 at *
  refine (eq_any f b _).mono ?_
  rintro e w3 ⟨rfl, hb⟩
  replace B1 := next B1 hb
  clear hb
  go_wp2
  go_ret
  exact ⟨rfl, B1⟩
end Go.Proofs.YtglmoacgaacmeaaDoor
