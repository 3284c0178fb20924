/-
  Marks put and cleared, by the document's model.
-/
import Derived.Test.YtioppkalehnoaaaGreatDoorRtOwn
import Derived.Test.YtioppkalehnoaaaGreatDoorJ2
namespace Go.Proofs.YtioppkalehnoaaaGreatDoor
open Go.RowKit
set_option linter.unusedSimpArgs false
set_option linter.unusedVariables false

theorem mins_snoc {T : List Int} {m x : Int} (h : m < x) : mins (T ++ [x]) m = mins T m ++ [x] := by
  unfold mins
  rw [List.filter_append, List.filter_append, List.filter_cons_of_neg (by simp; omega), List.filter_cons_of_pos (by simpa using h)]
  simp
theorem mins_end {T : List Int} {m : Int} (h : ∀ y ∈ T, y < m) : mins T m = T ++ [m] := by
  unfold mins
  rw [filter_full (fun y hy => by simpa using h y hy), filter_none (fun y hy => by have := h y hy; simp; omega)]
theorem mins_self {T : List Int} {m : Int} (h : ∀ y ∈ T, y < m) : mins (T ++ [m]) m = T ++ [m] := by
  unfold mins
  rw [List.filter_append, List.filter_append, filter_full (fun y hy => by simpa using h y hy), filter_none (M := T) (fun y hy => by have := h y hy; simp; omega)]
  simp
/-- what has been put out, of the first marks -/
def MkI (T : List Int) (m : Int) (put : Bool) (U : List Int) : Prop := (put = false ∧ U = T ∧ ∀ y ∈ T, y < m) ∨ (put = true ∧ U = mins T m ∧ ∃ y ∈ T, m ≤ y)
theorem mins_len (T : List Int) (m : Int) : (mins T m).length ≤ T.length + 1 := by
  have h : ∀ T : List Int, (T.filter (fun x => decide (x < m))).length + (T.filter (fun x => decide (m < x))).length ≤ T.length := by
    intro T
    induction T with
    | nil => simp
    | cons a l ih =>
      by_cases h1 : a < m
      · rw [List.filter_cons_of_pos (by simpa using h1), List.filter_cons_of_neg (by simp; omega)]; simp only [List.length_cons]; omega
      · by_cases h2 : m < a
        · rw [List.filter_cons_of_neg (by simpa using h1), List.filter_cons_of_pos (by simpa using h2)]; simp only [List.length_cons]; omega
        · rw [List.filter_cons_of_neg (by simpa using h1), List.filter_cons_of_neg (by simpa using h2)]; simp only [List.length_cons]; omega
  have := h T
  unfold mins
  simp only [List.length_append, List.length_cons]; omega
theorem MkI.len {T : List Int} {m : Int} {put : Bool} {U : List Int} (h : MkI T m put U) : U.length ≤ T.length + 1 := by
  rcases h with ⟨_, rfl, _⟩ | ⟨_, rfl, _⟩
  · omega
  · exact mins_len T m
theorem take_snoc {L : List Int} {k : Nat} {x : Int} (h : L[k]? = some x) : L.take (k + 1) = L.take k ++ [x] := by rw [List.take_add_one, h]; rfl
theorem asc_at {L : List Int} {k : Nat} {x y : Int} (hp : L.Pairwise (· < ·)) (hx : L[k]? = some x) (hy : y ∈ L.take k) : y < x := by
  rw [← List.take_append_drop k L] at hp
  have := (List.pairwise_append.1 hp).2.2 y hy x
  obtain ⟨h1, e1⟩ := List.getElem?_eq_some_iff.1 hx
  exact this (by rw [List.drop_eq_getElem_cons h1, e1]; simp)
theorem MkI.lt {L : List Int} {k : Nat} {m x : Int} {U : List Int} (h : MkI (L.take k) m false U) (hx : L[k]? = some x) (hlt : x < m) : MkI (L.take (k + 1)) m false (U ++ [x]) := by
  rcases h with ⟨_, rfl, h⟩ | ⟨h, _⟩
  · rw [take_snoc hx]
    refine .inl ⟨rfl, rfl, fun y hy => ?_⟩
    rcases List.mem_append.1 hy with q | q
    · exact h y q
    · simp at q; omega
  · cases h
theorem MkI.eq {L : List Int} {k : Nat} {m x : Int} {U : List Int} (h : MkI (L.take k) m false U) (hx : L[k]? = some x) (he : x = m) : MkI (L.take (k + 1)) m true (U ++ [m]) := by
  subst he
  rcases h with ⟨_, rfl, h⟩ | ⟨h, _⟩
  · rw [take_snoc hx]
    exact .inr ⟨rfl, (mins_self h).symm, x, by simp, by omega⟩
  · cases h
theorem MkI.gt {L : List Int} {k : Nat} {m x : Int} {U : List Int} (h : MkI (L.take k) m false U) (hx : L[k]? = some x) (he : m < x) : MkI (L.take (k + 1)) m true ((U ++ [m]) ++ [x]) := by
  rcases h with ⟨_, rfl, h⟩ | ⟨h, _⟩
  · rw [take_snoc hx]
    exact .inr ⟨rfl, by rw [mins_snoc he, mins_end h], x, by simp, by omega⟩
  · cases h
theorem MkI.past {L : List Int} {k : Nat} {m x : Int} {U : List Int} (hp : L.Pairwise (· < ·)) (h : MkI (L.take k) m true U) (hx : L[k]? = some x) : m < x ∧ MkI (L.take (k + 1)) m true (U ++ [x]) := by
  rcases h with ⟨h, _⟩ | ⟨_, rfl, y, hy, hm⟩
  · cases h
  · have hlt : m < x := by have := asc_at hp hx hy; omega
    refine ⟨hlt, .inr ⟨rfl, ?_, y, ?_, hm⟩⟩
    · rw [take_snoc hx, mins_snoc hlt]
    · rw [take_snoc hx]; simp [hy]
theorem MkI.fin {L : List Int} {m : Int} {put : Bool} {U : List Int} (h : MkI L m put U) : (put = true ∧ U = mins L m) ∨ (put = false ∧ U ++ [m] = mins L m) := by
  rcases h with ⟨h, rfl, h2⟩ | ⟨h, rfl, _⟩
  · exact .inr ⟨h, (mins_end h2).symm⟩
  · exact .inl ⟨h, rfl⟩
/-- a slice of ints of the call's own comes back -/
def OwnL (w : World) (U : List Int) (e : Ending) (w' : World) : Prop := ∃ v, e = .returned v ∧ OwnI w' w.heap.size v U ∧ Below w.heap.size w w'
/-- an own slice, seen from before -/
def LvI (w : World) (U : List Int) (v : Value) (W : World) : Prop := OwnI W w.heap.size v U ∧ Below w.heap.size w W
theorem LvI.app {w W W' : World} {U : List Int} {v v' : Value} {x : Int} (h : LvI w U v W) (own : OwnI W' w.heap.size v' (U ++ [x])) (grow : (W.alloc (.cells #[.int .i64 x] 3)).grownBy W' v.ownBlock) : LvI w (U ++ [x]) v' W' :=
  ⟨own, (h.2.alloc h.2.size _).grown grow (by have := h.2.size; simp; omega) (OwnI.lt' h.1)⟩

set_option maxRecDepth 100000 in
set_option maxHeartbeats 4000000 in
theorem l4mark_is {M : List Int} {m : Int} (hp : M.Pairwise (· < ·)) (hl : M.length ≤ 9) (a : Option Addr) (cap n : Nat) (w : World) (hn : n = M.length) (hM : IntA w a M) :
    Calls Tryz.prog 55 #[.slice a n cap, .int .i64 m] w (OwnL w (mins M m)) := by
  subst hn
  have HP := Lib.hid hp
  have HI := Lib.hid (show LvI w [] (.slice (some ⟨w.heap.size, 0, none⟩) 0 0) (w.alloc (.cells #[] 3)) from ⟨owni_empty w w.heap.size (Nat.le_refl _), (Below.refl _ _).alloc (Nat.le_refl _) _⟩)
  clear hp
  go_enter Tryz.func55, Tryz.ntmps55
  go_wp2_with fail
  go_loopw [5, 6, 7] (fun v q i wr => ∃ (k : Nat) (U : List Int) (put : Bool), k ≤ M.length ∧ i = .int .i64 k ∧ q = .bool put ∧ Hid (MkI (M.take k) m put U) ∧ LvI w U v wr) (fun _ _ i _ => M.length - (intOf i).toNat)
  case atStart => exact ⟨0, [], false, Nat.zero_le _, rfl, rfl, Lib.hid (.inl ⟨rfl, by simp, by simp⟩), HI.out⟩
  case round =>
    obtain ⟨k, U, put, hk, rfl, rfl, hI, hv⟩ := hrel
    have hU : U.length ≤ 10 := by have := hI.out.len; rw [List.length_take] at this; omega
    clear HI
    have LV := Lib.hid hv
    have hs0 := hv.2.size
    clear hv
    by_cases hlt : k < M.length
    · obtain ⟨b, off, x, rfl, hMk, c00⟩ := hM.at hlt
      have i0 : (0 : Int) ≤ (k : Int) := by omega
      have i1 : (k : Int) < (M.length : Int) := by omega
      have c0 := cell_later LV.out.2 c00
      have C00 := Lib.hid c00
      clear c00 hM
      cases put with
      | true =>
        obtain ⟨hlt2, hnx⟩ := hI.out.past HP.out hMk
        have HN := Lib.hid hnx
        have hne : (x != m) = true := by simp; omega
        clear hnx hI hMk
        go_wp2_with (at_builtin; refine wpList_appI rfl (.tmp 35) (.tmp 40) rfl w.heap.size _ (U) rfl (LV.out.1.alloc _) _ 1 [x] rfl (pnews1 wr _) (by simp) ?hl1 ?hR1 ?hgo1)
        case hl1 => (first | omega | (simp; omega))
        case hR1 => (have := LV.out.2.size; (try simp only [World.size_alloc]); omega)
        intro v5 w5 own5 grow5
        have I5 := Lib.hid (LV.out.app (by simpa using own5) grow5)
        clear own5 grow5
        go_wp2_with fail
        go_roundw
        case rel => exact ⟨k + 1, U ++ [x], true, by omega, by go_num, rfl, HN, I5.out⟩
        case measure => simp [intOf]; omega
      | false =>
        by_cases hxm : x < m
        · have HN := Lib.hid (hI.out.lt hMk hxm)
          have hne : (x != m) = true := by simp; omega
          clear hI hMk
          go_wp2_with (at_builtin; refine wpList_appI rfl (.tmp 35) (.tmp 40) rfl w.heap.size _ (U) rfl (LV.out.1.alloc _) _ 1 [x] rfl (pnews1 wr _) (by simp) ?hl2 ?hR2 ?hgo2)
          case hl2 => (first | omega | (simp; omega))
          case hR2 => (have := LV.out.2.size; (try simp only [World.size_alloc]); omega)
          intro v5 w5 own5 grow5
          have I5 := Lib.hid (LV.out.app (by simpa using own5) grow5)
          clear own5 grow5
          go_wp2_with fail
          go_roundw
          case rel => exact ⟨k + 1, U ++ [x], false, by omega, by go_num, rfl, HN, I5.out⟩
          case measure => simp [intOf]; omega
        · by_cases hxe : x = m
          · have HN := Lib.hid (hI.out.eq hMk hxe)
            have hne : (x != m) = false := by simp [hxe]
            have hge : m ≤ x := by omega
            clear hI hMk hxe
            go_wp2_with (at_builtin; refine wpList_appI rfl (.tmp 25) (.tmp 27) rfl w.heap.size _ (U) rfl (LV.out.1.alloc _) _ 1 [m] rfl (pnews1 wr _) (by simp) ?hl3 ?hR3 ?hgo3)
            case hl3 => (first | omega | (simp; omega))
            case hR3 => (have := LV.out.2.size; (try simp only [World.size_alloc]); omega)
            intro v5 w5 own5 grow5
            have I5 := Lib.hid (LV.out.app (by simpa using own5) grow5)
            clear own5 grow5
            clear c0
            have c0 := cell_later I5.out.2 C00.out
            go_wp2_with fail
            go_roundw
            case rel => exact ⟨k + 1, U ++ [m], true, by omega, by go_num, rfl, HN, I5.out⟩
            case measure => simp [intOf]; omega
          · have HN := Lib.hid (hI.out.gt hMk (by omega))
            have hne : (x != m) = true := by simp; omega
            have hge : m ≤ x := by omega
            clear hI hMk hxe
            go_wp2_with (at_builtin; refine wpList_appI rfl (.tmp 25) (.tmp 27) rfl w.heap.size _ (U) rfl (LV.out.1.alloc _) _ 1 [m] rfl (pnews1 wr _) (by simp) ?hl4 ?hR4 ?hgo4)
            case hl4 => (first | omega | (simp; omega))
            case hR4 => (have := LV.out.2.size; (try simp only [World.size_alloc]); omega)
            intro v5 w5 own5 grow5
            have I5 := Lib.hid (LV.out.app (by simpa using own5) grow5)
            clear own5 grow5
            clear c0
            have c0 := cell_later I5.out.2 C00.out
            go_wp2_with (at_builtin; refine wpList_appI rfl (.tmp 35) (.tmp 40) rfl w.heap.size _ (U ++ [m]) rfl (I5.out.1.alloc _) _ 1 [x] rfl (pnews1 w5 _) (by simp) ?hl5 ?hR5 ?hgo5)
            case hl5 => (first | omega | (simp; omega))
            case hR5 => (have := I5.out.2.size; (try simp only [World.size_alloc]); omega)
            intro v6 w6 own6 grow6
            have I6 := Lib.hid (I5.out.app (by simpa using own6) grow6)
            clear own6 grow6
            go_wp2_with fail
            go_roundw
            case rel => exact ⟨k + 1, (U ++ [m]) ++ [x], true, by omega, by go_num, rfl, HN, I6.out⟩
            case measure => simp [intOf]; omega
    · obtain rfl : k = M.length := by omega
      have hF := hI.out
      rw [List.take_length] at hF
      rcases hF.fin with ⟨rfl, e⟩ | ⟨rfl, e⟩
      · rw [e] at LV
        clear hI hF hM e
        go_wp2_with fail
        go_ret
        exact ⟨_, rfl, LV.out.1, LV.out.2⟩
      · have HE := Lib.hid e
        clear hI hF hM e
        go_wp2_with (at_builtin; refine wpList_appI rfl (.tmp 44) (.tmp 46) rfl w.heap.size _ (U) rfl (LV.out.1.alloc _) _ 1 [m] rfl (pnews1 wr _) (by simp) ?hl6 ?hR6 ?hgo6)
        case hl6 => (first | omega | (simp; omega))
        case hR6 => (have := LV.out.2.size; (try simp only [World.size_alloc]); omega)
        intro v5 w5 own5 grow5
        have I5 := Lib.hid (LV.out.app (by simpa using own5) grow5)
        clear own5 grow5
        have R : Hid (LvI w (mins M m) v5 w5) := Lib.hid (by rw [← HE.out]; exact I5.out)
        clear I5
        go_wp2_with fail
        go_ret
        exact ⟨_, rfl, R.out.1, R.out.2⟩

theorem mdel_snoc_yes {T : List Int} {m x : Int} (h : x ≠ m) : mdel (T ++ [x]) m = mdel T m ++ [x] := by
  unfold mdel; rw [List.filter_append, List.filter_cons_of_pos (by simpa using h)]; rfl
theorem mdel_snoc_no {T : List Int} {m x : Int} (h : x = m) : mdel (T ++ [x]) m = mdel T m := by
  unfold mdel; rw [List.filter_append, List.filter_cons_of_neg (by simpa using h)]; simp
theorem mdel_len (T : List Int) (m : Int) : (mdel T m).length ≤ T.length := List.length_filter_le _ _

set_option maxRecDepth 100000 in
set_option maxHeartbeats 4000000 in
theorem l4clear_is {M : List Int} {m : Int} (hl : M.length ≤ 9) (a : Option Addr) (cap n : Nat) (w : World) (hn : n = M.length) (hM : IntA w a M) :
    Calls Tryz.prog 56 #[.slice a n cap, .int .i64 m] w (OwnL w (mdel M m)) := by
  subst hn
  have HI := Lib.hid (show LvI w [] (.slice (some ⟨w.heap.size, 0, none⟩) 0 0) (w.alloc (.cells #[] 3)) from ⟨owni_empty w w.heap.size (Nat.le_refl _), (Below.refl _ _).alloc (Nat.le_refl _) _⟩)
  go_enter Tryz.func56, Tryz.ntmps56
  go_wp2_with fail
  go_loopw [5, 6] (fun v i wr => ∃ (k : Nat) (U : List Int), k ≤ M.length ∧ i = .int .i64 k ∧ Hid (U = mdel (M.take k) m) ∧ LvI w U v wr) (fun _ i _ => M.length - (intOf i).toNat)
  case atStart => exact ⟨0, [], Nat.zero_le _, rfl, Lib.hid (by simp [mdel]), HI.out⟩
  case round =>
    obtain ⟨k, U, hk, rfl, hI, hv⟩ := hrel
    have hU : U.length ≤ 10 := by rw [hI.out]; have := mdel_len (M.take k) m; rw [List.length_take] at this; omega
    clear HI
    have LV := Lib.hid hv
    have hs0 := hv.2.size
    clear hv
    by_cases hlt : k < M.length
    · obtain ⟨b, off, x, rfl, hMk, c00⟩ := hM.at hlt
      have i0 : (0 : Int) ≤ (k : Int) := by omega
      have i1 : (k : Int) < (M.length : Int) := by omega
      have c0 := cell_later LV.out.2 c00
      clear c00 hM
      by_cases hxe : x = m
      · have HN : Hid (U = mdel (M.take (k + 1)) m) := Lib.hid (by rw [take_snoc hMk, mdel_snoc_no hxe]; exact hI.out)
        have hne : (x != m) = false := by simp [hxe]
        clear hI hMk hxe
        go_wp2_with fail
        go_roundw
        case rel => exact ⟨k + 1, U, by omega, by go_num, HN, LV.out⟩
        case measure => simp [intOf]; omega
      · have HN : Hid (U ++ [x] = mdel (M.take (k + 1)) m) := Lib.hid (by rw [take_snoc hMk, mdel_snoc_yes hxe, hI.out])
        have hne : (x != m) = true := by simp [hxe]
        clear hI hMk hxe
        go_wp2_with (at_builtin; refine wpList_appI rfl (.tmp 20) (.tmp 25) rfl w.heap.size _ (U) rfl (LV.out.1.alloc _) _ 1 [x] rfl (pnews1 wr _) (by simp) ?hl7 ?hR7 ?hgo7)
        case hl7 => (first | omega | (simp; omega))
        case hR7 => (have := LV.out.2.size; (try simp only [World.size_alloc]); omega)
        intro v5 w5 own5 grow5
        have I5 := Lib.hid (LV.out.app (by simpa using own5) grow5)
        clear own5 grow5
        go_wp2_with fail
        go_roundw
        case rel => exact ⟨k + 1, U ++ [x], by omega, by go_num, HN, I5.out⟩
        case measure => simp [intOf]; omega
    · obtain rfl : k = M.length := by omega
      have hF := hI.out
      rw [List.take_length] at hF
      rw [hF] at LV
      clear hI hF hM
      go_wp2_with fail
      go_ret
      exact ⟨_, rfl, LV.out.1, LV.out.2⟩
end Go.Proofs.YtioppkalehnoaaaGreatDoor
