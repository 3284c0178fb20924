/-
  What the model's l2Drop and l2Find answer.
-/
import Derived.Test.YtmbcfdlemapppaaSpecP
namespace Go.Proofs.Ytmbcfdlemapppaa
open Go.RowKit
set_option linter.unusedSimpArgs false

theorem neqR (g c f b : Int) (w : World) : (binOp .neq 35 (.agg #[.int .i64 g, .int .i64 c]) (.agg #[.int .i64 f, .int .i64 b])).run Try.prog w = .ok (.bool (!(decide (g = f ∧ c = b)))) w := by
  by_cases h1 : g = f
  · subst h1
    by_cases h2 : c = b
    · subst h2
      go_simp
    · go_simp
  · go_simp
theorem eqlR (g c f b : Int) (w : World) : (binOp .eql 35 (.agg #[.int .i64 g, .int .i64 c]) (.agg #[.int .i64 f, .int .i64 b])).run Try.prog w = .ok (.bool (decide (g = f ∧ c = b))) w := by
  by_cases h1 : g = f
  · subst h1
    by_cases h2 : c = b
    · subst h2
      go_simp
    · go_simp
  · go_simp
theorem eqlE (x y : E) (w : World) : (binOp .eql 37 (.agg #[.int .i64 x.1, .int .i64 x.2.1, .int .i64 x.2.2]) (.agg #[.int .i64 y.1, .int .i64 y.2.1, .int .i64 y.2.2])).run Try.prog w = .ok (.bool (decide (x = y))) w := by
  obtain ⟨a, b, c⟩ := x
  obtain ⟨d, e, f⟩ := y
  by_cases h1 : a = d
  · subst h1
    by_cases h2 : b = e
    · subst h2
      by_cases h3 : c = f
      · subst h3
        go_simp
      · go_simp
    · go_simp
  · go_simp
theorem neqE (x y : E) (w : World) : (binOp .neq 37 (.agg #[.int .i64 x.1, .int .i64 x.2.1, .int .i64 x.2.2]) (.agg #[.int .i64 y.1, .int .i64 y.2.1, .int .i64 y.2.2])).run Try.prog w = .ok (.bool (!(decide (x = y)))) w := by
  obtain ⟨a, b, c⟩ := x
  obtain ⟨d, e, f⟩ := y
  by_cases h1 : a = d
  · subst h1
    by_cases h2 : b = e
    · subst h2
      by_cases h3 : c = f
      · subst h3
        go_simp
      · go_simp
    · go_simp
  · go_simp

def keepD (f b : Int) (a : E) : Bool := !(decide (a.1 = f ∧ a.2.1 = b))
def DS (T : List E) (f b : Int) (k : Nat) : List E := (T.take k).filter (keepD f b)
theorem DS_end (T : List E) (f b : Int) : dropM T f b = DS T f b T.length := by unfold DS dropM; rw [List.take_length]; rfl
theorem DS_keep {T : List E} {f b : Int} {k : Nat} {a : E} (h : T[k]? = some a) (hn : ¬ (a.1 = f ∧ a.2.1 = b)) : DS T f b (k + 1) = DS T f b k ++ [a] := by
  unfold DS; rw [List.take_add_one, h]; simp only [Option.toList_some, List.filter_append]
  congr 1
  simp [keepD, hn]
theorem DS_drop {T : List E} {f b : Int} {k : Nat} {a : E} (h : T[k]? = some a) (hn : a.1 = f ∧ a.2.1 = b) : DS T f b (k + 1) = DS T f b k := by
  unfold DS; rw [List.take_add_one, h]; simp only [Option.toList_some, List.filter_append]
  simp [keepD, hn]
theorem DS_len (T : List E) (f b : Int) (k : Nat) : (DS T f b k).length ≤ k := by
  unfold DS; exact Nat.le_trans (List.length_filter_le _ _) (by simp; omega)

set_option maxRecDepth 100000 in
set_option maxHeartbeats 4000000 in
theorem ldrop_any (a : Option Addr) (cap : Nat) (T : List E) (f b : Int) (w : World) (hT : TabA w a T) (hl : T.length ≤ 2000) :
    Calls Try.prog 62 #[.slice a T.length cap, .agg #[.int .i64 f, .int .i64 b]] w (Own1 w (dropM T f b)) := by
  have hTX := hT.alloc (.cells #[.int .i64 f, .int .i64 b] 35)
  have hAX := At.new w f b 35
  have hBX := (Below.refl w.heap.size w).alloc (Nat.le_refl _) (.cells #[.int .i64 f, .int .i64 b] 35)
  have hPE := Lib.hid (DS_end T f b)
  have HL := Lib.hid (DS_len T f b)
  have hXs : (w.alloc (.cells #[.int .i64 f, .int .i64 b] 35)).heap.size = w.heap.size + 1 := by simp
  have I0 := owns_empty (w.alloc (.cells #[.int .i64 f, .int .i64 b] 35)) (w.alloc (.cells #[.int .i64 f, .int .i64 b] 35)).heap.size (Nat.le_refl _)
  rw [hXs] at I0
  have HX := Lib.hid (And.intro hTX (And.intro hAX hBX))
  have HI := Lib.hid I0
  obtain ⟨i0, hi, hz0, hz1, hz2⟩ := info_parts infoE
  clear hT hTX hAX hBX I0
  generalize hU : dropM T f b = U at *
  clear hU
  go_enter Try.func62, Try.ntmps62
  go_wp2_with fail
  generalize w.alloc (.cells #[.int .i64 f, .int .i64 b] 35) = wX at *
  go_loopw [5, 6] (fun v' i wr => ∃ k : Nat, k ≤ T.length ∧ i = .int .i64 k ∧ Owns wr wX.heap.size v' (DS T f b k) ∧ Below wX.heap.size wX wr) (fun _ i _ => T.length - (intOf i).toNat)
  case atStart => exact ⟨0, Nat.zero_le _, rfl, by rw [hXs]; exact HI.out, (Below.refl _ _).alloc (Nat.le_refl _) _⟩
  case round =>
    obtain ⟨k, hk, rfl, ho, hb⟩ := hrel
    clear HI
    have hlk := HL.out k
    have hsX := hb.size
    by_cases hlt : k < T.length
    · obtain ⟨bb, off, g, c, u, rfl, hTk, c0, c1, c2⟩ := HX.out.1.at hlt
      have y0 := cell_later hb c0
      have y1 := cell_later hb c1
      have y2 := cell_later hb c2
      have x0 := cell_later hb HX.out.2.1.1
      have x1 := cell_later hb HX.out.2.1.2.1
      have HO1 := Lib.hid ho
      have HB1 := Lib.hid hb
      have j0 : (0 : Int) ≤ (k : Int) := by omega
      have j1 : (k : Int) < (T.length : Int) := by omega
      clear ho hb c0 c1 c2
      by_cases hsm : g = f ∧ c = b
      · have HS := Lib.hid (DS_drop hTk hsm)
        obtain ⟨rfl, rfl⟩ := hsm
        clear hTk
        go_wp2_with fail
        go_quiet (fail)
        go_wp2_with fail
        go_roundw
        case rel => exact ⟨k + 1, by omega, by go_num, by rw [HS.out]; exact owns_later HO1.out (below_drewN (Below.refl _ _) _), below_drewN HB1.out _⟩
        case measure => simp [intOf]; omega
      · have HS := Lib.hid (DS_keep hTk hsm)
        have hnq : ∀ W, (binOp .neq 35 (.agg #[.int .i64 g, .int .i64 c]) (.agg #[.int .i64 f, .int .i64 b])).run Try.prog W = .ok (.bool true) W := fun W => by rw [neqR]; simp [hsm]
        clear hTk
        go_wp2_with fail
        go_quiet (fail)
        have HO2 := Lib.hid (owns_later HO1.out (below_drewN (Below.refl _ wr) nq))
        have HB2 := Lib.hid (below_drewN HB1.out nq)
        have z0 := cell_later (below_drewN (Below.refl _ wr) nq) y0
        have z1 := cell_later (below_drewN (Below.refl _ wr) nq) y1
        have z2 := cell_later (below_drewN (Below.refl _ wr) nq) y2
        have hs2 := HB2.out.size
        clear y0 y1 y2 x0 x1 hnq HO1 HB1
        generalize wr.drewN nq = w1 at *
        go_wp2_with (first | (at_builtin; refine wpList_append_own _ rfl (.tmp 21) (.tmp 26) 25 rfl wX.heap.size 37 i0 (.agg #[.int .i64 0, .int .i64 0, .int .i64 0]) 3 24 Try.underlying25 hi hz0 hz1 hz2 rfl (by decide) _ (DS T f b k).length (cellsT (DS T f b k)) rfl (HO2.out.alloc _) ⟨w1.heap.size, 0, none⟩ 1 1 (cellsT [(g, c, u)]) rfl rfl (news1 w1 g c u _) (oneT _) (by unfold maxLen; omega) (by omega) (by simp only [World.size_alloc]; omega) ?_; intro v3 w3 own3 grow3 _; have HO3 := Lib.hid (owns_app own3); have HB3 := Lib.hid ((HB2.out.alloc (by omega) _).trans (app_below (L := DS T f b k) (HO2.out.alloc _) grow3 (by simp only [World.size_alloc]; omega))); clear own3 grow3))
        go_roundw
        case rel => exact ⟨k + 1, by omega, by go_num, by rw [HS.out]; exact HO3.out, HB3.out⟩
        case measure => simp [intOf]; omega
    · obtain rfl : k = T.length := by omega
      have HO1 := Lib.hid ho
      have HB1 := Lib.hid hb
      clear ho hb
      go_wp2_with fail
      go_ret
      exact ⟨_, rfl, by rw [hPE.out]; exact owns_mono HO1.out (by omega), HX.out.2.2.trans (HB1.out.mono (by omega))⟩
end Go.Proofs.Ytmbcfdlemapppaa
