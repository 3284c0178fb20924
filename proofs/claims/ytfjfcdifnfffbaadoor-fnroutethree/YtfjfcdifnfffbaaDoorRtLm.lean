/-
  Plain facts on marks that the laws ask.
-/
import Derived.Test.YtfjfcdifnfffbaaDoorRtMs
namespace Go.Proofs.YtfjfcdifnfffbaaDoor
set_option linter.unusedVariables false

theorem mdel_mins {M : List Int} {m : Int} (h : Marks M) (hm : 1 ≤ m ∧ m ≤ 9) : mdel (mins M m) m = mdel M m :=
  asc_ext (h.mins hm).mdel.2 h.mdel.2 fun x => by
    rw [mem_mdel, mem_mdel, mem_mins]
    exact ⟨fun ⟨a, b⟩ => ⟨a, b.resolve_left a⟩, fun ⟨a, b⟩ => ⟨a, .inr b⟩⟩
theorem mins_mdel {M : List Int} {m : Int} (h : Marks M) (hm : 1 ≤ m ∧ m ≤ 9) (hin : m ∈ M) : mins (mdel M m) m = M :=
  asc_ext (h.mdel.mins hm).2 h.2 fun x => by
    rw [mem_mins, mem_mdel]
    by_cases e : x = m
    · subst e; simp [hin]
    · simp [e]
theorem mins_swap {M : List Int} {m n : Int} (h : Marks M) (hm : 1 ≤ m ∧ m ≤ 9) (hn : 1 ≤ n ∧ n ≤ 9) : mins (mins M m) n = mins (mins M n) m :=
  asc_ext ((h.mins hm).mins hn).2 ((h.mins hn).mins hm).2 fun x => by
    rw [mem_mins, mem_mins, mem_mins, mem_mins]
    exact ⟨fun h => by rcases h with h | h | h <;> simp [h], fun h => by rcases h with h | h | h <;> simp [h]⟩
theorem mins_twice {M : List Int} {m : Int} (h : Marks M) (hm : 1 ≤ m ∧ m ≤ 9) : mins (mins M m) m = mins M m := mins_there (h.mins hm).2 (mem_mins.2 (.inl rfl))
theorem good_marks {r : Rt} (h : RtGood r) {N : List Int} (hN : Marks N) : RtGood (r.1, r.2.1, r.2.2.1, r.2.2.2.1, N) := ⟨h.ran, h.path, h.some, h.like, hN⟩
/-- what a mark that was put says -/
structure MkF (r U : Rt) (m : Int) : Prop where
  good : RtGood r
  mark : 1 ≤ m ∧ m ≤ 9
  is : U = (r.1, r.2.1, r.2.2.1, r.2.2.2.1, mins r.2.2.2.2 m)
  goodU : RtGood U
theorem mkF {r U : Rt} {m : Int} (h : rtMark r m = (U, true)) : MkF r U m := by
  cases ho : rtOk r with
  | false => rw [rtMark_no1 ho] at h; simp at h
  | true =>
    cases hi : isM m with
    | false => rw [rtMark_no2 hi] at h; simp at h
    | true =>
      rw [rtMark_yes ho hi] at h
      have e : U = (r.1, r.2.1, r.2.2.1, r.2.2.2.1, mins r.2.2.2.2 m) := by
        have := congrArg Prod.fst h; exact this.symm
      have hg := (rtOk_iff r).1 ho
      have hm := (isM_iff m).1 hi
      exact ⟨hg, hm, e, by rw [e]; exact good_marks hg (hg.marks.mins hm)⟩
theorem mark_of {r : Rt} {m : Int} (h : RtGood r) (hm : 1 ≤ m ∧ m ≤ 9) : rtMark r m = ((r.1, r.2.1, r.2.2.1, r.2.2.2.1, mins r.2.2.2.2 m), true) := rtMark_yes ((rtOk_iff r).2 h) ((isM_iff m).2 hm)
theorem clear_of {r : Rt} {m : Int} (h : RtGood r) (hm : 1 ≤ m ∧ m ≤ 9) : rtClear r m = ((r.1, r.2.1, r.2.2.1, r.2.2.2.1, mdel r.2.2.2.2 m), true) := rtClear_yes ((rtOk_iff r).2 h) ((isM_iff m).2 hm)
theorem MkF.again {r U : Rt} {m : Int} (h : MkF r U m) : rtMark U m = (U, true) := by
  have e := h.is
  rw [mark_of h.goodU h.mark]
  subst e
  simp only [mins_twice h.good.marks h.mark]
theorem MkF.clears {r U : Rt} {m : Int} (h : MkF r U m) : rtClear U m = rtClear r m := by
  have e := h.is
  rw [clear_of h.goodU h.mark, clear_of h.good h.mark]
  subst e
  simp only [mdel_mins h.good.marks h.mark]
theorem MkF.mem {r U : Rt} {m : Int} (h : MkF r U m) (x : Int) : x ∈ U.2.2.2.2 ↔ x = m ∨ x ∈ r.2.2.2.2 := by rw [h.is]; exact mem_mins
/-- what a mark that was cleared says -/
structure ClF (r U : Rt) (m : Int) : Prop where
  good : RtGood r
  mark : 1 ≤ m ∧ m ≤ 9
  is : U = (r.1, r.2.1, r.2.2.1, r.2.2.2.1, mdel r.2.2.2.2 m)
  goodU : RtGood U
theorem clF {r U : Rt} {m : Int} (h : rtClear r m = (U, true)) : ClF r U m := by
  cases ho : rtOk r with
  | false => rw [rtClear_no1 ho] at h; simp at h
  | true =>
    cases hi : isM m with
    | false => rw [rtClear_no2 hi] at h; simp at h
    | true =>
      rw [rtClear_yes ho hi] at h
      have e : U = (r.1, r.2.1, r.2.2.1, r.2.2.2.1, mdel r.2.2.2.2 m) := by
        have := congrArg Prod.fst h; exact this.symm
      have hg := (rtOk_iff r).1 ho
      exact ⟨hg, (isM_iff m).1 hi, e, by rw [e]; exact good_marks hg hg.marks.mdel⟩
theorem ClF.mem {r U : Rt} {m : Int} (h : ClF r U m) (x : Int) : x ∈ U.2.2.2.2 ↔ x ≠ m ∧ x ∈ r.2.2.2.2 := by rw [h.is]; exact mem_mdel
theorem ClF.back {r U : Rt} {m : Int} (h : ClF r U m) (hin : m ∈ r.2.2.2.2) : rtMark U m = (r, true) := by
  have e := h.is
  rw [mark_of h.goodU h.mark]
  subst e
  simp only [mins_mdel h.good.marks h.mark hin]
theorem ClF.same {r U : Rt} {m : Int} (h : ClF r U m) (hin : m ∉ r.2.2.2.2) : U = r := by
  rw [h.is, mdel_none hin]
theorem rtCmp0_marks {a b : Rt} (h : ¬ (a.2.2.2.1 = b.2.2.2.1 ∧ a.2.2.1 = b.2.2.1 ∧ a.1 = b.1 ∧ a.2.1 = b.2.1)) (N N' : List Int) :
    rtCmp0 (a.1, a.2.1, a.2.2.1, a.2.2.2.1, N) (b.1, b.2.1, b.2.2.1, b.2.2.2.1, N') = rtCmp0 a b := by
  unfold rtCmp0
  dsimp only
  split
  · rfl
  · split
    · rfl
    · split
      · rfl
      · split
        · rfl
        · rename_i h1 h2 h3 h4
          exact (h ⟨by omega, (lcmp_zero _ _).1 (by omega), (cmpI_zero _ _ _ _).1 (by omega)⟩).elim
end Go.Proofs.YtfjfcdifnfffbaaDoor
