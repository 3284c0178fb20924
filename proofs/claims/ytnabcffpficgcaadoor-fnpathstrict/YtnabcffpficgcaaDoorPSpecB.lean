/-
  What the model's functions on paths answer: has, add, which stands ahead.
-/
import Derived.Test.YtnabcffpficgcaaDoorPSpec
namespace Go.Proofs.YtnabcffpficgcaaDoor
open Go.RowKit
set_option linter.unusedSimpArgs false
set_option linter.unusedVariables false

set_option maxHeartbeats 400000 in
theorem shasP_is {L : List Int} {h : Int} {x : Bool} (k : pHas L h = x) (a : Option Addr) (cap n : Nat) (w : World) (hn : n = L.length) (hL : IntA w a L) (hc : L.length ≤ cap) (hl : L.length ≤ 4000000) :
    Calls Tryd.prog 22 #[.slice a n cap, .int .i64 h] w fun e w' => e = .returned (.bool x) ∧ Below w.heap.size w w' := by
  subst hn
  cases ho : pOk L with
  | true =>
    have hr : decide (h ∈ L) = x := by rw [← k, pHas, ho]; rfl
    clear k
    go_enter Tryd.func22, Tryd.ntmps22
    go_wp2_with fail
    refine (psok_is ho a cap _ _ rfl hL hc hl).mono ?_
    rintro e w1 ⟨rfl, hb1⟩
    go_wp2_with fail
    refine (pshas_is hr a cap _ _ rfl (hL.below hb1) hl).mono ?_
    rintro e w2 ⟨rfl, rfl⟩
    go_wp2_with fail
    go_ret
    exact ⟨rfl, hb1⟩
  | false =>
    have hr := Lib.hid (show false = x by rw [← k, pHas, ho]; rfl)
    clear k
    go_enter Tryd.func22, Tryd.ntmps22
    go_wp2_with fail
    refine (psok_is ho a cap _ _ rfl hL hc hl).mono ?_
    rintro e w1 ⟨rfl, hb1⟩
    go_wp2_with fail
    go_ret
    exact ⟨ret_bool hr.out, hb1⟩

/-- what PathAdd answers -/
def padd (L : List Int) (h : Int) : List Int × Bool := if pOk (h :: L) = true then (h :: L, true) else ([], false)
theorem padd_yes {L : List Int} {h : Int} (k : Path (h :: L)) : padd L h = (h :: L, true) := by simp [padd, pOk_yes k]
theorem padd_no {L : List Int} {h : Int} (k : ¬ Path (h :: L)) : padd L h = ([], false) := by simp [padd, pOk_no k]
def OwnA (w : World) (r : List Int × Bool) (e : Ending) (w' : World) : Prop := ∃ v, e = .returned (.tuple #[v, .bool r.2]) ∧ OwnI w' w.heap.size v r.1 ∧ Below w.heap.size w w'

set_option maxHeartbeats 400000 in
theorem sadd_no1 (L : List Int) (h : Int) (ho : pOk L = false) (a : Option Addr) (cap n : Nat) (w : World) (hn : n = L.length) (hL : IntA w a L) (hc : L.length ≤ cap) (hl : L.length ≤ 4000000) :
    Calls Tryd.prog 24 #[.slice a n cap, .int .i64 h] w (OwnA w ([], false)) := by
  subst hn
  go_enter Tryd.func24, Tryd.ntmps24
  go_wp2_with fail
  refine (psok_is ho a cap _ _ rfl hL hc hl).mono ?_
  rintro e w1 ⟨rfl, hb1⟩
  have HE := Lib.hid (owni_empty w1 w.heap.size hb1.size)
  go_wp2_with fail
  go_ret2
  exact ⟨_, rfl, HE.out, hb1.alloc hb1.size _⟩
set_option maxHeartbeats 400000 in
theorem sadd_no2 (L : List Int) (h : Int) (ho : pOk L = true) (hh : isH h = false) (a : Option Addr) (cap n : Nat) (w : World) (hn : n = L.length) (hL : IntA w a L) (hc : L.length ≤ cap) (hl : L.length ≤ 4000000) :
    Calls Tryd.prog 24 #[.slice a n cap, .int .i64 h] w (OwnA w ([], false)) := by
  subst hn
  go_enter Tryd.func24, Tryd.ntmps24
  go_wp2_with fail
  refine (psok_is ho a cap _ _ rfl hL hc hl).mono ?_
  rintro e w1 ⟨rfl, hb1⟩
  have HE := Lib.hid (owni_empty w1 w.heap.size hb1.size)
  go_wp2_with fail
  refine (shouse_is hh _).mono ?_
  rintro e w2 ⟨rfl, rfl⟩
  go_wp2_with fail
  go_ret2
  exact ⟨_, rfl, HE.out, hb1.alloc hb1.size _⟩
set_option maxHeartbeats 400000 in
theorem sadd_no3 (L : List Int) (h : Int) (ho : pOk L = true) (hh : isH h = true) (hm : decide (h ∈ L) = true) (a : Option Addr) (cap n : Nat) (w : World) (hn : n = L.length) (hL : IntA w a L) (hc : L.length ≤ cap) (hl : L.length ≤ 4000000) :
    Calls Tryd.prog 24 #[.slice a n cap, .int .i64 h] w (OwnA w ([], false)) := by
  subst hn
  go_enter Tryd.func24, Tryd.ntmps24
  go_wp2_with fail
  refine (psok_is ho a cap _ _ rfl hL hc hl).mono ?_
  rintro e w1 ⟨rfl, hb1⟩
  have HE := Lib.hid (owni_empty w1 w.heap.size hb1.size)
  go_wp2_with fail
  refine (shouse_is hh _).mono ?_
  rintro e w2 ⟨rfl, rfl⟩
  go_wp2_with fail
  refine (pshas_is hm a cap _ _ rfl (hL.below hb1) hl).mono ?_
  rintro e w2 ⟨rfl, rfl⟩
  go_wp2_with fail
  go_ret2
  exact ⟨_, rfl, HE.out, hb1.alloc hb1.size _⟩
set_option maxHeartbeats 1000000 in
theorem sadd_yes (L : List Int) (h : Int) (ho : pOk L = true) (hh : isH h = true) (hm : decide (h ∈ L) = false) (a : Option Addr) (cap n : Nat) (w : World) (hn : n = L.length) (hL : IntA w a L) (hc : L.length ≤ cap) (hl : L.length ≤ 4000000) :
    Calls Tryd.prog 24 #[.slice a n cap, .int .i64 h] w (OwnA w (h :: L, true)) := by
  subst hn
  have h5 := ((pOk_iff L).1 ho).len
  go_enter Tryd.func24, Tryd.ntmps24
  go_wp2_with fail
  refine (psok_is ho a cap _ _ rfl hL hc hl).mono ?_
  rintro e w1 ⟨rfl, hb1⟩
  have HE := Lib.hid (owni_one w1 w.heap.size hb1.size h)
  have HL := Lib.hid ((hL.below hb1).alloc (.cells #[.int .i64 h] 3))
  have hs1 := hb1.size
  go_wp2_with fail
  refine (shouse_is hh _).mono ?_
  rintro e w2 ⟨rfl, rfl⟩
  go_wp2_with fail
  refine (pshas_is hm a cap _ _ rfl (hL.below hb1) hl).mono ?_
  rintro e w2 ⟨rfl, rfl⟩
  have HB := Lib.hid hb1
  clear hL hb1
  go_wp2_with (first | (at_builtin; refine wpList_appI rfl (.tmp 21) (.tmp 22) rfl w.heap.size _ [h] rfl HE.out a cap L rfl HL.out hc (by simp; omega) (by simp only [World.size_alloc]; omega) ?_; intro v5 w5 own5 grow5; have HO5 := Lib.hid own5; have HB5 := Lib.hid ((HB.out.alloc hs1 _).trans (appi_below (L := [h]) HE.out grow5 (by simp only [World.size_alloc]; omega))); clear own5 grow5))
  go_ret2
  exact ⟨_, rfl, HO5.out, HB5.out⟩
theorem sadd_any (a : Option Addr) (cap : Nat) (L : List Int) (h : Int) (w : World) (hL : IntA w a L) (hc : L.length ≤ cap) (hl : L.length ≤ 4000000) :
    Calls Tryd.prog 24 #[.slice a L.length cap, .int .i64 h] w (OwnA w (padd L h)) := by
  cases ho : pOk L with
  | false => rw [padd_no (fun k => by have := pOk_yes (path_cons.1 k).2.2; rw [ho] at this; cases this)]; exact sadd_no1 L h ho a cap _ w rfl hL hc hl
  | true =>
    cases hh : isH h with
    | false => rw [padd_no (fun k => isH_no hh (path_cons.1 k).1)]; exact sadd_no2 L h ho hh a cap _ w rfl hL hc hl
    | true =>
      by_cases hm : h ∈ L
      · rw [padd_no (fun k => (path_cons.1 k).2.1 hm)]; exact sadd_no3 L h ho hh (decide_eq_true hm) a cap _ w rfl hL hc hl
      · rw [padd_yes (path_cons.2 ⟨(isH_iff h).1 hh, hm, (pOk_iff L).1 ho⟩)]; exact sadd_yes L h ho hh (decide_eq_false hm) a cap _ w rfl hL hc hl
theorem sadd_is {L : List Int} {h : Int} {r : List Int × Bool} (k : padd L h = r) (a : Option Addr) (cap n : Nat) (w : World) (hn : n = L.length) (hL : IntA w a L) (hc : L.length ≤ cap) (hl : L.length ≤ 4000000) :
    Calls Tryd.prog 24 #[.slice a n cap, .int .i64 h] w (OwnA w r) := by
  rw [← k, hn]; exact sadd_any a cap L h w hL hc hl

theorem cmpL_step {L M : List Int} {k : Nat} {x y : Int} (hx : L[k]? = some x) (hy : M[k]? = some y) (h : x = y) : cmpL (L.drop k) (M.drop k) = cmpL (L.drop (k + 1)) (M.drop (k + 1)) := by
  obtain ⟨h1, e1⟩ := List.getElem?_eq_some_iff.1 hx
  obtain ⟨h2, e2⟩ := List.getElem?_eq_some_iff.1 hy
  rw [List.drop_eq_getElem_cons h1, List.drop_eq_getElem_cons h2, e1, e2, h]
  simp [cmpL]
theorem cmpL_here {L M : List Int} {k : Nat} {x y : Int} (hx : L[k]? = some x) (hy : M[k]? = some y) : cmpL (L.drop k) (M.drop k) = if x < y then -1 else if y < x then 1 else cmpL (L.drop (k + 1)) (M.drop (k + 1)) := by
  obtain ⟨h1, e1⟩ := List.getElem?_eq_some_iff.1 hx
  obtain ⟨h2, e2⟩ := List.getElem?_eq_some_iff.1 hy
  rw [List.drop_eq_getElem_cons h1, List.drop_eq_getElem_cons h2, e1, e2]
  simp [cmpL]

set_option maxHeartbeats 2000000 in
theorem slcmp_any (a b : Option Addr) (cap cap' : Nat) (L M : List Int) (w : World) (hL : IntA w a L) (hM : IntA w b M) (hl : L.length ≤ 4000000) (hm : M.length ≤ 4000000) :
    Calls Tryd.prog 51 #[.slice a L.length cap, .slice b M.length cap'] w fun e w' => e = .returned (.int .i64 (lcmp L M)) ∧ Below w.heap.size w w' := by
  by_cases he : L.length = M.length
  · have he' : ((L.length : Int) != (M.length : Int)) = false := by simp [he]
    have HR := Lib.hid (show lcmp L M = cmpL L M by simp [lcmp, he])
    have HE := Lib.hid he
    clear he
    go_enter Tryd.func51, Tryd.ntmps51
    go_wp2_with fail
    go_loopw [5] (fun i wr => ∃ k : Nat, k ≤ L.length ∧ i = .int .i64 k ∧ Hid (cmpL L M = cmpL (L.drop k) (M.drop k)) ∧ Below w.heap.size w wr) (fun i _ => L.length - (intOf i).toNat)
    case atStart => exact ⟨0, Nat.zero_le _, rfl, Lib.hid (by simp), Below.refl _ _⟩
    case round =>
      obtain ⟨k, hk, rfl, hn, hb⟩ := hrel
      by_cases hlt : k < L.length
      · obtain ⟨b1, off1, x, rfl, hLk, c0⟩ := (hL.below hb).at hlt
        obtain ⟨b2, off2, y, rfl, hMk, d0⟩ := (hM.below hb).at (show k < M.length by rw [← HE.out]; exact hlt)
        have i0 : (0 : Int) ≤ (k : Int) := by omega
        have i1 : (k : Int) < (L.length : Int) := by omega
        have i2 : (k : Int) < (M.length : Int) := by have := HE.out; omega
        have HC := Lib.hid (hn.out.trans (cmpL_here hLk hMk))
        have HB := Lib.hid hb
        clear hn hLk hMk hL hM hb
        by_cases h1 : x < y
        · have HZ := Lib.hid (show lcmp L M = -1 by rw [HR.out, HC.out, if_pos h1])
          clear HC
          go_wp2_with fail
          go_quiet (fail)
          go_wp2_with fail
          go_ret
          exact ⟨ret_int HZ.out.symm, below_drewN HB.out _⟩
        · by_cases h2 : y < x
          · have HZ := Lib.hid (show lcmp L M = 1 by rw [HR.out, HC.out, if_neg h1, if_pos h2])
            clear HC
            go_wp2_with fail
            go_quiet (fail)
            go_wp2_with fail
            go_quiet (fail)
            go_wp2_with fail
            go_ret
            exact ⟨ret_int HZ.out.symm, below_drewN (below_drewN HB.out _) _⟩
          · have HZ := Lib.hid (show cmpL L M = cmpL (L.drop (k + 1)) (M.drop (k + 1)) by rw [HC.out, if_neg h1, if_neg h2])
            clear HC
            go_wp2_with fail
            go_quiet (fail)
            go_wp2_with fail
            go_quiet (fail)
            go_wp2_with fail
            go_roundw
            case rel => exact ⟨k + 1, by omega, by go_num, HZ, below_drewN HB.out _⟩
            case measure => simp [intOf]; omega
      · obtain rfl : k = L.length := by omega
        have HZ := Lib.hid (show lcmp L M = 0 by
          rw [HR.out, hn.out, List.drop_length, show L.length = M.length from HE.out, List.drop_length]; rfl)
        have HB := Lib.hid hb
        clear hn hL hM hb
        go_wp2_with fail
        go_ret
        exact ⟨ret_int HZ.out.symm, HB.out⟩
  · have he' : ((L.length : Int) != (M.length : Int)) = true := by simp; omega
    by_cases h1 : L.length < M.length
    · have h1' : (L.length : Int) < (M.length : Int) := by omega
      have HR := Lib.hid (show lcmp L M = -1 by simp [lcmp, h1])
      clear he h1
      go_enter Tryd.func51, Tryd.ntmps51
      go_wp2_with fail
      go_ret
      exact ⟨ret_int HR.out.symm, Below.refl _ _⟩
    · have h1' : ¬ (L.length : Int) < (M.length : Int) := by omega
      have HR := Lib.hid (show lcmp L M = 1 by simp [lcmp, h1]; intro; omega)
      clear he h1
      go_enter Tryd.func51, Tryd.ntmps51
      go_wp2_with fail
      go_ret
      exact ⟨ret_int HR.out.symm, Below.refl _ _⟩
theorem slcmp_is {L M : List Int} {z : Int} (h : lcmp L M = z) (a b : Option Addr) (cap cap' n m : Nat) (w : World) (hn : n = L.length) (hm : m = M.length) (hL : IntA w a L) (hM : IntA w b M) (hl : L.length ≤ 4000000) (hml : M.length ≤ 4000000) :
    Calls Tryd.prog 51 #[.slice a n cap, .slice b m cap'] w fun e w' => e = .returned (.int .i64 z) ∧ Below w.heap.size w w' := by
  rw [← h, hn, hm]; exact slcmp_any a b cap cap' L M w hL hM hl hml

set_option maxHeartbeats 1000000 in
theorem pscmp_is {L M : List Int} {z : Int} (h : pcmp L M = z) (a b : Option Addr) (cap cap' n m : Nat) (w : World) (hn : n = L.length) (hm : m = M.length) (hL : IntA w a L) (hM : IntA w b M)
    (hc : L.length ≤ cap) (hc' : M.length ≤ cap') (hl : L.length ≤ 4000000) (hml : M.length ≤ 4000000) :
    Calls Tryd.prog 32 #[.slice a n cap, .slice b m cap'] w fun e w' => e = .returned (.int .i64 z) ∧ Below w.heap.size w w' := by
  subst hn hm
  cases ho : pOk L with
  | false =>
    have HR := Lib.hid (show 0 = z by rw [← h, pcmp, ho]; rfl)
    clear h
    go_enter Tryd.func32, Tryd.ntmps32
    go_wp2_with fail
    refine (psok_is ho a cap _ _ rfl hL hc hl).mono ?_
    rintro e w1 ⟨rfl, hb1⟩
    go_wp2_with fail
    go_ret
    exact ⟨ret_int HR.out, hb1⟩
  | true =>
    cases hq : pOk M with
    | false =>
      have HR := Lib.hid (show 0 = z by rw [← h, pcmp, hq]; simp)
      clear h
      go_enter Tryd.func32, Tryd.ntmps32
      go_wp2_with fail
      refine (psok_is ho a cap _ _ rfl hL hc hl).mono ?_
      rintro e w1 ⟨rfl, hb1⟩
      go_wp2_with fail
      refine (psok_is hq b cap' _ _ rfl (hM.below hb1) hc' hml).mono ?_
      rintro e w2 ⟨rfl, hb2⟩
      go_wp2_with fail
      go_ret
      exact ⟨ret_int HR.out, next hb1 hb2⟩
    | true =>
      have hz : lcmp L M = z := by rw [← h, pcmp, ho, hq]; rfl
      clear h
      go_enter Tryd.func32, Tryd.ntmps32
      go_wp2_with fail
      refine (psok_is ho a cap _ _ rfl hL hc hl).mono ?_
      rintro e w1 ⟨rfl, hb1⟩
      go_wp2_with fail
      refine (psok_is hq b cap' _ _ rfl (hM.below hb1) hc' hml).mono ?_
      rintro e w2 ⟨rfl, hb2⟩
      go_wp2_with fail
      refine (slcmp_is hz a b cap cap' _ _ _ rfl rfl ((hL.below hb1).below hb2) ((hM.below hb1).below hb2) hl hml).mono ?_
      rintro e w3 ⟨rfl, hb3⟩
      go_wp2_with fail
      go_ret
      exact ⟨rfl, next (next hb1 hb2) hb3⟩
end Go.Proofs.YtnabcffpficgcaaDoor
