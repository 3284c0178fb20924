/-
  What lacks, and what does not: the mathematics of the laws on seals.
-/
import Derived.Test.YtnnmgbgkgnejlaaDoorSlLk
namespace Go.Proofs.YtnnmgbgkgnejlaaDoor
set_option linter.unusedSimpArgs false
set_option linter.unusedVariables false

theorem hasS_in (L : List SV) (s : SP) : hasS L s = true ↔ s ∈ sealsP L := by
  unfold hasS sealsP
  rw [List.any_eq_true]
  constructor
  · rintro ⟨v, hv, e⟩; exact List.mem_map.2 ⟨v, hv, of_decide_eq_true e⟩
  · intro h
    obtain ⟨v, hv, e⟩ := List.mem_map.1 h
    exact ⟨v, hv, decide_eq_true e⟩
theorem firstLack_all {S : List SV} : ∀ {Q : List SP}, (∀ s ∈ Q, s ∈ sealsP S) → firstLack S Q = 0
  | [], _ => rfl
  | s :: Q, h => by
    rw [firstLack, if_pos ((hasS_in S s).2 (h s List.mem_cons_self))]
    exact firstLack_all fun x hx => h x (List.mem_cons_of_mem _ hx)
theorem firstLack_zero {S : List SV} : ∀ {Q : List SP}, (∀ s ∈ Q, s.y ≠ 0) → firstLack S Q = 0 → ∀ s ∈ Q, s ∈ sealsP S
  | [], _, _, s, hs => by cases hs
  | q :: Q, hy, h, s, hs => by
    rw [firstLack] at h
    by_cases e : hasS S q = true
    · rw [if_pos e] at h
      rcases List.mem_cons.1 hs with rfl | k
      · exact (hasS_in S _).1 e
      · exact firstLack_zero (fun x hx => hy x (List.mem_cons_of_mem _ hx)) h s k
    · rw [if_neg e] at h
      exact (hy q List.mem_cons_self h).elim
theorem firstLack_at {S : List SV} : ∀ {Q : List SP} {k : Nat} {s : SP}, Q[k]? = some s → (∀ i x, i < k → Q[i]? = some x → x ∈ sealsP S) → s ∉ sealsP S → firstLack S Q = s.y
  | [], k, s, h, _, _ => by simp at h
  | q :: Q, 0, s, h, _, hn => by
    obtain rfl : q = s := by simpa using h
    rw [firstLack, if_neg (fun e => hn ((hasS_in S _).1 e))]
  | q :: Q, k + 1, s, h, hi, hn => by
    rw [firstLack, if_pos ((hasS_in S q).2 (hi 0 q (by omega) rfl))]
    exact firstLack_at (by simpa using h) (fun i x hik hx => hi (i + 1) x (by omega) (by simpa using hx)) hn
theorem tellB_of {f b l t : Int} {P M : List Int} (h1 : rtOk (f, b, P, l, M) = true) (h2 : 1 ≤ t ∧ t ≤ 5) (h3 : t ∉ P) : tellB f b P l M t = true := by
  unfold tellB
  rw [h1, (isH_iff t).2 h2, decide_eq_false h3]; rfl
theorem path_ne {P : List Int} (h : Path P) {i : Nat} (hi : i < P.length) : P.getD i 0 ≠ 0 := by
  have := h.1 (P.getD i 0) (by rw [List.getD_eq_getElem?_getD, List.getElem?_eq_getElem hi]; exact List.getElem_mem hi)
  omega
theorem sealsOf_in {f b t : Int} {P : List Int} {s : SP} : s ∈ sealsOf f b t P ↔ ∃ i, i < P.length ∧ sealAt f b t P i = s := by
  constructor
  · intro h
    obtain ⟨i, hi⟩ := List.mem_iff_getElem?.1 h
    have hl : i < P.length := by have := (List.getElem?_eq_some_iff.1 hi).1; rw [sealsOf_len] at this; exact this
    rw [sealsOf_at f b t P i hl] at hi
    exact ⟨i, hl, Option.some.inj hi⟩
  · rintro ⟨i, hi, rfl⟩
    exact List.mem_of_getElem? (sealsOf_at f b t P i hi)
theorem seals_ny {f b t : Int} {P : List Int} (h : Path P) : ∀ s ∈ sealsOf f b t P, s.y ≠ 0 := fun s hs => by
  obtain ⟨i, hi, rfl⟩ := sealsOf_in.1 hs
  exact path_ne h hi
theorem lackM_zero {H : List HV} {S : List SV} {f b l t : Int} {P M : List Int} : lackM H S f b P l M t = 0 ↔ tellB f b P l M t = true ∧ holdsB H (P.getD (P.length - 1) 0) f b = true ∧ ∀ s ∈ sealsOf f b t P, s ∈ sealsP S := by
  unfold lackM
  by_cases ht : tellB f b P l M t = true
  · rw [if_pos ht]
    by_cases hh : holdsB H (P.getD (P.length - 1) 0) f b = true
    · rw [if_pos hh]
      exact ⟨fun h => ⟨ht, hh, firstLack_zero (seals_ny ((rtOk_iff _).1 (tellB_rt ht).1).path) h⟩, fun h => firstLack_all h.2.2⟩
    · rw [if_neg hh]
      exact ⟨fun h => by omega, fun h => (hh h.2.1).elim⟩
  · rw [if_neg ht]
    exact ⟨fun h => by omega, fun h => (ht h.1).elim⟩
theorem sealsP_app (L M : List SV) : sealsP (L ++ M) = sealsP L ++ sealsP M := by simp [sealsP]
theorem holdsB_app (H G : List HV) (h f b : Int) : holdsB (H ++ G) h f b = (holdsB H h f b || holdsB G h f b) := by simp [holdsB]
theorem hasB_self {f b : Int} (h : okB f b = true) : hasB f b f = true := by
  rw [hasB_iff]
  have hk := (okB_iff f b).1 h
  have := sz_bd hk.1 hk.2.1
  exact ⟨h, by omega, by omega⟩
theorem inB_self {f b : Int} (h : okB f b = true) : inB f b f b = true := (inB_iff f b f b).2 ⟨h, hasB_self h, by omega⟩
theorem nodup_getD {P : List Int} (h : P.Nodup) {i j : Nat} (hi : i < P.length) (hj : j < P.length) (e : P.getD i 0 = P.getD j 0) : i = j := by
  rw [List.getD_eq_getElem?_getD, List.getD_eq_getElem?_getD, List.getElem?_eq_getElem hi, List.getElem?_eq_getElem hj] at e
  exact (List.getElem_inj h).1 (by simpa using e)
theorem getD_mem {P : List Int} {i : Nat} (hi : i < P.length) : P.getD i 0 ∈ P := by
  rw [List.getD_eq_getElem?_getD, List.getElem?_eq_getElem hi]; exact List.getElem_mem hi
/-! a route with all its seals -/
theorem tell_pos {f b l t : Int} {P M : List Int} (h : tellB f b P l M t = true) : 0 < P.length := rtOk_path (tellB_rt h).1
theorem ok_all {H : List HV} {L A : List SV} {f b l t : Int} {P M : List Int} (h : tellB f b P l M t = true) (hA : sealsP A = sealsOf f b t P) : lackM (H ++ [⟨P.getD (P.length - 1) 0, f, b⟩]) (L ++ A) f b P l M t = 0 := by
  refine lackM_zero.2 ⟨h, ?_, fun s hs => ?_⟩
  · rw [holdsB_app]
    have := inB_self ((rtOk_iff _).1 (tellB_rt h).1).ran
    simp [holdsB, this]
  · rw [sealsP_app, hA]; exact List.mem_append_right _ hs
theorem lack_one {H : List HV} {A : List SV} {f b l t : Int} {P M : List Int} (h : tellB f b P l M t = true) (hA : sealsP A = sealsOf f b t P) {k : Nat} (hk : k < P.length) :
    lackM (H ++ [⟨P.getD (P.length - 1) 0, f, b⟩]) (A.take k ++ A.drop (k + 1)) f b P l M t = P.getD k 0 := by
  have hp : Path P := ((rtOk_iff _).1 (tellB_rt h).1).path
  have hh : holdsB (H ++ [⟨P.getD (P.length - 1) 0, f, b⟩]) (P.getD (P.length - 1) 0) f b = true := by
    rw [holdsB_app]
    have := inB_self ((rtOk_iff _).1 (tellB_rt h).1).ran
    simp [holdsB, this]
  rw [lackM, if_pos h, if_pos hh]
  have e : sealsP (A.take k ++ A.drop (k + 1)) = (sealsOf f b t P).take k ++ (sealsOf f b t P).drop (k + 1) := by
    rw [sealsP_app, ← hA]; simp [sealsP]
  refine (firstLack_at (s := sealAt f b t P k) (sealsOf_at f b t P k hk) (fun i x hi hx => ?_) (fun hm => ?_))
  · rw [e]
    refine List.mem_append_left _ (List.mem_of_getElem? (i := i) ?_)
    rw [List.getElem?_take, if_pos hi]; exact hx
  · rw [e] at hm
    have key : ∀ i, i < P.length → sealAt f b t P i = sealAt f b t P k → i = k := fun i hi q => nodup_getD hp.2 hi hk (congrArg SP.y q)
    rcases List.mem_append.1 hm with hm | hm
    · obtain ⟨i, hi⟩ := List.mem_iff_getElem?.1 hm
      rw [List.getElem?_take] at hi
      split at hi
      · rw [sealsOf_at f b t P i (by omega)] at hi
        have := key i (by omega) (Option.some.inj hi); omega
      · cases hi
    · obtain ⟨i, hi⟩ := List.mem_iff_getElem?.1 hm
      rw [List.getElem?_drop] at hi
      have hl : k + 1 + i < P.length := by have := (List.getElem?_eq_some_iff.1 hi).1; rw [sealsOf_len] at this; exact this
      rw [sealsOf_at f b t P _ hl] at hi
      have := key _ hl (Option.some.inj hi); omega
/-! more seals, more holders -/
theorem ok_more {H H2 : List HV} {L L2 : List SV} {f b l l' t : Int} {P M M' : List Int} (h : lackM H L f b P l M t = 0) (h2 : tellB f b P l' M' t = true) : lackM (H2 ++ H) (L2 ++ L) f b P l' M' t = 0 := by
  obtain ⟨h1, hh, hs⟩ := lackM_zero.1 h
  refine lackM_zero.2 ⟨h2, by rw [holdsB_app, hh, Bool.or_true], fun s k => ?_⟩
  rw [sealsP_app]; exact List.mem_append_right _ (hs s k)
theorem tell_like {f b l l' t : Int} {P M : List Int} (h : tellB f b P l M t = true) (hl : 0 ≤ l' ∧ l' ≤ 9) : tellB f b P l' [] t = true := by
  obtain ⟨h1, h2, h3⟩ := tellB_rt h
  have g := (rtOk_iff _).1 h1
  exact tellB_of ((rtOk_iff _).2 ⟨g.ran, g.path, g.some, hl, Marks.nil⟩) h2 h3
/-! the seals of one range are none of another one's -/
theorem no_range {H : List HV} {A : List SV} {f b l t g c : Int} {P M : List Int} (h : tellB f b P l M t = true) (hA : sealsP A = sealsOf f b t P) (hne : ¬ (g = f ∧ c = b)) : lackM H A g c P l M t ≠ 0 := fun h0 => by
  obtain ⟨_, _, hs⟩ := lackM_zero.1 h0
  have h1 := hs (sealAt g c t P 0) (sealsOf_in.2 ⟨0, tell_pos h, rfl⟩)
  rw [hA] at h1
  obtain ⟨i, hi, e⟩ := sealsOf_in.1 h1
  exact hne ⟨(congrArg SP.f e).symm, (congrArg SP.b e).symm⟩
theorem inB_all {f b : Int} (h : okB f b = true) : inB f b 0 0 = true := by
  have hk := (okB_iff f b).1 h
  refine (inB_iff f b 0 0).2 ⟨h, (hasB_iff 0 0 f).2 ⟨by decide, by omega, ?_⟩, by omega⟩
  have : sz 0 = 256 := by decide
  omega
theorem ok_self {A : List SV} {f b l t : Int} {P M : List Int} (h : tellB f b P l M t = true) (hA : sealsP A = sealsOf f b t P) : lackM [⟨P.getD (P.length - 1) 0, 0, 0⟩] A f b P l M t = 0 :=
  lackM_zero.2 ⟨h, by simp [holdsB, inB_all ((rtOk_iff _).1 (tellB_rt h).1).ran], fun s hs => by rw [hA]; exact hs⟩
/-! nobody can be left out -/
theorem path_drop {P : List Int} (h : Path P) (k : Nat) : Path (P.drop k) := ⟨fun x hx => h.1 x (List.mem_of_mem_drop hx), h.2.sublist (List.drop_sublist k P)⟩
theorem path_less {P : List Int} (h : Path P) (k : Nat) : Path (P.take k ++ P.drop (k + 1)) := by
  have hs : (P.take k ++ P.drop (k + 1)).Sublist P := by
    have e : P.take k ++ P.drop k = P := List.take_append_drop k P
    conv => rhs; rw [← e]
    refine List.Sublist.append (List.Sublist.refl _) ?_
    rw [show P.drop (k + 1) = (P.drop k).drop 1 by rw [List.drop_drop]]
    exact List.drop_sublist 1 _
  exact ⟨fun x hx => h.1 x (hs.mem hx), h.2.sublist hs⟩
theorem less_mem {P : List Int} {k : Nat} {x : Int} (h : x ∈ P.take k ++ P.drop (k + 1)) : x ∈ P := (List.mem_append.1 h).elim List.mem_of_mem_take List.mem_of_mem_drop
theorem tell_less {f b l t : Int} {P M : List Int} (h : tellB f b P l M t = true) (h2 : 2 ≤ P.length) {k : Nat} (hk : k < P.length - 1) : tellB f b (P.take k ++ P.drop (k + 1)) 0 M t = true := by
  obtain ⟨h1, ht, hn⟩ := tellB_rt h
  have g := (rtOk_iff _).1 h1
  refine tellB_of ((rtOk_iff _).2 ⟨g.ran, path_less g.path k, fun e => ?_, ⟨by simp, by simp⟩, g.marks⟩) ht (fun hx => hn (less_mem hx))
  have := congrArg List.length e
  simp at this
  omega
/-- the seal of the first house of a route is told to another house, or of another path -/
theorem less_no {H : List HV} {A : List SV} {f b l t : Int} {P M : List Int} (h : tellB f b P l M t = true) (hA : sealsP A = sealsOf f b t P) (h2 : 2 ≤ P.length) {k : Nat} (hk : k < P.length - 1) :
    lackM H A f b (P.take k ++ P.drop (k + 1)) 0 M t ≠ 0 := fun h0 => by
  obtain ⟨_, _, hs⟩ := lackM_zero.1 h0
  have hl : (P.take k ++ P.drop (k + 1)).length = P.length - 1 := by simp; omega
  have h1 := hs (sealAt f b t (P.take k ++ P.drop (k + 1)) 0) (sealsOf_in.2 ⟨0, by omega, rfl⟩)
  rw [hA] at h1
  obtain ⟨i, hi, e⟩ := sealsOf_in.1 h1
  have et : whomAt t P i = t := congrArg SP.t e
  have eP : P.drop i = P.take k ++ P.drop (k + 1) := congrArg SP.P e
  have hi0 : i = 0 := by
    by_cases hz : i = 0
    · exact hz
    · rw [whomAt, if_neg hz] at et
      exact ((tellB_rt h).2.2 (et ▸ getD_mem (by omega))).elim
  subst hi0
  have := congrArg List.length eP
  rw [hl, List.drop_zero] at this
  omega
theorem tell_rest {f b l t : Int} {P M : List Int} (h : tellB f b P l M t = true) {k : Nat} (hk : k < P.length - 1) : tellB f b (P.drop (k + 1)) 0 M (P.getD k 0) = true := by
  obtain ⟨h1, ht, hn⟩ := tellB_rt h
  have g := (rtOk_iff _).1 h1
  have gp : Path P := g.path
  refine tellB_of ((rtOk_iff _).2 ⟨g.ran, path_drop gp _, fun e => ?_, ⟨by simp, by simp⟩, g.marks⟩) (gp.1 _ (getD_mem (by omega))) (fun hx => ?_)
  · have := congrArg List.length e
    simp at this
    omega
  · obtain ⟨j, hj⟩ := List.mem_iff_getElem?.1 hx
    rw [List.getElem?_drop] at hj
    have hjl := (List.getElem?_eq_some_iff.1 hj).1
    have := nodup_getD gp.2 (i := k + 1 + j) (j := k) hjl (by omega) (by rw [List.getD_eq_getElem?_getD, hj]; rfl)
    omega
theorem drop_getD {P : List Int} (n i : Nat) : (P.drop n).getD i 0 = P.getD (n + i) 0 := by simp [List.getD_eq_getElem?_getD, List.getElem?_drop]
theorem rest_at {f b t : Int} {P : List Int} {k i : Nat} (h : k + 1 + i < P.length) : sealAt f b (P.getD k 0) (P.drop (k + 1)) i = sealAt f b t P (k + 1 + i) := by
  unfold sealAt
  rw [drop_getD, List.drop_drop]
  congr 1
  unfold whomAt
  by_cases hi : i = 0
  · subst hi; rw [if_pos rfl, if_neg (by omega)]; congr 1
  · rw [if_neg hi, if_neg (by omega), drop_getD]; congr 1; omega
theorem rest_ok {A : List SV} {f b l t : Int} {P M : List Int} (h : tellB f b P l M t = true) (hA : sealsP A = sealsOf f b t P) {k : Nat} (hk : k < P.length - 1) :
    lackM [⟨P.getD (P.length - 1) 0, 0, 0⟩] A f b (P.drop (k + 1)) 0 M (P.getD k 0) = 0 := by
  refine lackM_zero.2 ⟨tell_rest h hk, ?_, fun s hs => ?_⟩
  · rw [drop_getD, List.length_drop, show k + 1 + (P.length - (k + 1) - 1) = P.length - 1 by omega]
    simp [holdsB, inB_all ((rtOk_iff _).1 (tellB_rt h).1).ran]
  · obtain ⟨i, hi, rfl⟩ := sealsOf_in.1 hs
    rw [List.length_drop] at hi
    rw [rest_at (t := t) (by omega), hA]
    exact sealsOf_in.2 ⟨_, by omega, rfl⟩
theorem rest_no {H : List HV} {A : List SV} {f b l t o : Int} {P M : List Int} (h : tellB f b P l M t = true) (hA : sealsP A = sealsOf f b t P) {k : Nat} (hk : k < P.length - 1) (ho : o ≠ P.getD k 0) :
    lackM H A f b (P.drop (k + 1)) 0 M o ≠ 0 := fun h0 => by
  obtain ⟨_, _, hs⟩ := lackM_zero.1 h0
  have hp : Path P := ((rtOk_iff _).1 (tellB_rt h).1).path
  have h1 := hs (sealAt f b o (P.drop (k + 1)) 0) (sealsOf_in.2 ⟨0, by simp; omega, rfl⟩)
  rw [hA] at h1
  obtain ⟨i, hi, e⟩ := sealsOf_in.1 h1
  have ey : P.getD i 0 = P.getD (k + 1) 0 := by have := congrArg SP.y e; rw [show (sealAt f b o (P.drop (k + 1)) 0).y = (P.drop (k + 1)).getD 0 0 from rfl, drop_getD] at this; exact this
  have hik := nodup_getD hp.2 hi (by omega) ey
  subst hik
  have et : whomAt t P (k + 1) = o := congrArg SP.t e
  rw [whomAt, if_neg (by omega)] at et
  exact ho et.symm
/-! a route that is told on -/
theorem tell_on {f b l t n : Int} {P M : List Int} (h : tellB f b P l M t = true) (hn : 1 ≤ n ∧ n ≤ 5) (hp : n ∉ t :: P) : tellB f b (t :: P) 0 [] n = true := by
  obtain ⟨h1, ht, hx⟩ := tellB_rt h
  have g := (rtOk_iff _).1 h1
  exact tellB_of ((rtOk_iff _).2 ⟨g.ran, path_cons.2 ⟨ht, hx, g.path⟩, by simp, ⟨by simp, by simp⟩, Marks.nil⟩) hn hp
theorem told_ok {H : List HV} {L G : List SV} {f b l t n : Int} {P M : List Int} (h : lackM H L f b P l M t = 0) (hn : 1 ≤ n ∧ n ≤ 5) (hp : n ∉ t :: P) (hG : sealsP G = [⟨t, n, f, b, t :: P⟩]) : lackM H (L ++ G) f b (t :: P) 0 [] n = 0 := by
  obtain ⟨h1, hh, hs⟩ := lackM_zero.1 h
  have h0 := tell_pos h1
  refine lackM_zero.2 ⟨tell_on h1 hn hp, ?_, fun s k => ?_⟩
  · have e : (t :: P).getD ((t :: P).length - 1) 0 = P.getD (P.length - 1) 0 := by
      rw [List.length_cons, show P.length + 1 - 1 = (P.length - 1) + 1 by omega]; rfl
    rw [e]; exact hh
  · rw [sealsP_app]
    obtain ⟨i, hi, rfl⟩ := sealsOf_in.1 k
    cases i with
    | zero => exact List.mem_append_right _ (by rw [hG]; exact List.mem_singleton.2 rfl)
    | succ i =>
      refine List.mem_append_left _ (hs _ (sealsOf_in.2 ⟨i, by simpa using hi, ?_⟩))
      unfold sealAt
      rw [List.getD_cons_succ, List.drop_succ_cons]
      congr 1
      cases i with
      | zero => simp [whomAt]
      | succ i => simp [whomAt]
end Go.Proofs.YtnnmgbgkgnejlaaDoor
