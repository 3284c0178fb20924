/-
  Plain arithmetic: which addresses two ranges share.
-/
import Derived.Test.YtnnmgbgkgnejlaaJ1
namespace Go.Proofs.Ytnnmgbgkgnejlaa

theorem first_has {f b : Int} (h : okB f b = true) : hasB f b f = true := by
  obtain ⟨b0, b8, _⟩ := (okB_iff f b).1 h
  have := sz_bd b0 b8
  rw [hasB_iff]; exact ⟨h, by omega, by omega⟩

/-- the end of a range -/
theorem hasB_iff' {f b a : Int} (h : okB f b = true) : hasB f b a = true ↔ f ≤ a ∧ a < f + sz b := by
  rw [hasB_iff]; exact ⟨fun k => by omega, fun k => ⟨h, by omega, by omega⟩⟩

/-- of two ranges the smaller lies in the larger, or beside it -/
theorem nest {f b g c : Int} (hf : okB f b = true) (hg : okB g c = true) (h : c ≤ b) (x : Int) (h1 : hasB f b x = true) (h2 : hasB g c x = true) : g ≤ f ∧ f + sz b ≤ g + sz c := by
  obtain ⟨b0, b8, f0, f1, hm⟩ := (okB_iff f b).1 hf
  obtain ⟨c0, c8, g0, g1, hn⟩ := (okB_iff g c).1 hg
  obtain ⟨k1, k2⟩ := (hasB_iff' hf).1 h1
  obtain ⟨k3, k4⟩ := (hasB_iff' hg).1 h2
  have hb := sz_cases b0 b8
  have hc := sz_cases c0 c8
  clear h1 h2 hf hg
  generalize sz b = s at *
  generalize sz c = t at *
  rcases hb with ⟨rfl, rfl⟩ | ⟨rfl, rfl⟩ | ⟨rfl, rfl⟩ | ⟨rfl, rfl⟩ | ⟨rfl, rfl⟩ | ⟨rfl, rfl⟩ | ⟨rfl, rfl⟩ | ⟨rfl, rfl⟩ | ⟨rfl, rfl⟩ <;>
  rcases hc with ⟨rfl, rfl⟩ | ⟨rfl, rfl⟩ | ⟨rfl, rfl⟩ | ⟨rfl, rfl⟩ | ⟨rfl, rfl⟩ | ⟨rfl, rfl⟩ | ⟨rfl, rfl⟩ | ⟨rfl, rfl⟩ | ⟨rfl, rfl⟩ <;> omega

theorem in_iff {f b g c : Int} (hf : okB f b = true) (hg : okB g c = true) : inB f b g c = true ↔ (g ≤ f ∧ f + sz b ≤ g + sz c) := by
  obtain ⟨b0, b8, f0, f1, hm⟩ := (okB_iff f b).1 hf
  obtain ⟨c0, c8, g0, g1, hn⟩ := (okB_iff g c).1 hg
  rw [inB_iff]
  constructor
  · rintro ⟨_, h2, h3⟩
    exact nest hf hg h3 f (first_has hf) h2
  · rintro ⟨h1, h2⟩
    have hs := sz_bd b0 b8
    refine ⟨hf, (hasB_iff' hg).2 ⟨h1, by omega⟩, ?_⟩
    by_cases hbc : c ≤ b
    · exact hbc
    · exfalso
      have hb := sz_cases b0 b8
      have hc := sz_cases c0 c8
      clear hf hg hm hn
      generalize sz b = s at *
      generalize sz c = t at *
      rcases hb with ⟨rfl, rfl⟩ | ⟨rfl, rfl⟩ | ⟨rfl, rfl⟩ | ⟨rfl, rfl⟩ | ⟨rfl, rfl⟩ | ⟨rfl, rfl⟩ | ⟨rfl, rfl⟩ | ⟨rfl, rfl⟩ | ⟨rfl, rfl⟩ <;>
      rcases hc with ⟨rfl, rfl⟩ | ⟨rfl, rfl⟩ | ⟨rfl, rfl⟩ | ⟨rfl, rfl⟩ | ⟨rfl, rfl⟩ | ⟨rfl, rfl⟩ | ⟨rfl, rfl⟩ | ⟨rfl, rfl⟩ | ⟨rfl, rfl⟩ <;> omega

theorem in_refl {f b : Int} (hf : okB f b = true) : inB f b f b = true := (in_iff hf hf).2 ⟨by omega, by omega⟩
theorem in_trans {f b g c h d : Int} (h1 : inB f b g c = true) (h2 : inB g c h d = true) : inB f b h d = true := by
  have o1 := ((inB_iff f b g c).1 h1).1
  have o2 := ((inB_iff g c h d).1 h2).1
  have o3 := ((hasB_iff h d g).1 ((inB_iff g c h d).1 h2).2.1).1
  have k1 := (in_iff o1 o2).1 h1
  have k2 := (in_iff o2 o3).1 h2
  exact (in_iff o1 o3).2 ⟨by omega, by omega⟩
/-- only equal ranges lie in each other -/
theorem in_both {f b g c : Int} (hf : okB f b = true) (hg : okB g c = true) : (inB f b g c = true ∧ inB g c f b = true) ↔ (f = g ∧ b = c) := by
  constructor
  · rintro ⟨h1, h2⟩
    have k1 := (in_iff hf hg).1 h1
    have k2 := (in_iff hg hf).1 h2
    have k3 := ((inB_iff f b g c).1 h1).2.2
    have k4 := ((inB_iff g c f b).1 h2).2.2
    exact ⟨by omega, by omega⟩
  · rintro ⟨rfl, rfl⟩
    exact ⟨in_refl hf, in_refl hf⟩
theorem in_all {f b : Int} (hf : okB f b = true) : inB f b 0 0 = true := by
  obtain ⟨b0, b8, f0, f1, hm⟩ := (okB_iff f b).1 hf
  have h0 : okB 0 0 = true := okB_of (by omega) (by omega) (by omega) (by omega) (by simp)
  refine (in_iff hf h0).2 ⟨by omega, ?_⟩
  rcases sz_cases b0 b8 with h3 | h3 | h3 | h3 | h3 | h3 | h3 | h3 | h3 <;> obtain ⟨rfl, e1⟩ := h3 <;> rw [e1] at hm <;> simp [sz] <;> omega

/-- so far all addresses of the one are in the other -/
def canB (f b g c : Int) (k : Nat) : Bool := (List.range k).all fun (x : Nat) => !hasB f b (x : Int) || hasB g c (x : Int)
theorem canB_succ (f b g c : Int) (k : Nat) : canB f b g c (k + 1) = (canB f b g c k && (!hasB f b (k : Int) || hasB g c (k : Int))) := by
  simp [canB, List.range_succ]
/-- so far the two share an address -/
def bothB (f b g c : Int) (k : Nat) : Bool := (List.range k).any fun (x : Nat) => hasB f b (x : Int) && hasB g c (x : Int)
theorem bothB_succ (f b g c : Int) (k : Nat) : bothB f b g c (k + 1) = (bothB f b g c k || (hasB f b (k : Int) && hasB g c (k : Int))) := by
  simp [bothB, List.range_succ]

theorem can_all {f b g c : Int} (hf : okB f b = true) (hg : okB g c = true) : canB f b g c 256 = inB f b g c := by
  obtain ⟨b0, b8, f0, f1, hm⟩ := (okB_iff f b).1 hf
  have hs := sz_bd b0 b8
  have he : f + sz b ≤ 256 := by
    rcases sz_cases b0 b8 with h3 | h3 | h3 | h3 | h3 | h3 | h3 | h3 | h3 <;> obtain ⟨rfl, e1⟩ := h3 <;> rw [e1] at hm ⊢ <;> omega
  rw [Bool.eq_iff_iff, in_iff hf hg]
  simp only [canB, List.all_eq_true, List.mem_range, Bool.or_eq_true, Bool.not_eq_true']
  constructor
  · intro h
    have h1 := h f.toNat (by omega)
    have h2 := h (f + sz b - 1).toNat (by omega)
    have e1 : ((f.toNat : Nat) : Int) = f := by omega
    have e2 : (((f + sz b - 1).toNat : Nat) : Int) = f + sz b - 1 := by omega
    rw [e1, first_has hf] at h1
    have h3 : hasB f b (f + sz b - 1) = true := (hasB_iff' hf).2 ⟨by omega, by omega⟩
    rw [e2, h3] at h2
    simp at h1 h2
    have k1 := (hasB_iff' hg).1 h1
    have k2 := (hasB_iff' hg).1 h2
    omega
  · intro h x hx
    by_cases hb : hasB f b (x : Int) = true
    · have := (hasB_iff' hf).1 hb
      exact .inr ((hasB_iff' hg).2 ⟨by omega, by omega⟩)
    · exact .inl (by simpa using hb)

theorem both_all {f b g c : Int} (hf : okB f b = true) (hg : okB g c = true) : bothB f b g c 256 = (inB f b g c || inB g c f b) := by
  obtain ⟨b0, b8, f0, f1, hm⟩ := (okB_iff f b).1 hf
  obtain ⟨c0, c8, g0, g1, hn⟩ := (okB_iff g c).1 hg
  rw [Bool.eq_iff_iff]
  simp only [bothB, List.any_eq_true, List.mem_range, Bool.and_eq_true, Bool.or_eq_true]
  constructor
  · rintro ⟨x, _, h1, h2⟩
    by_cases hbc : c ≤ b
    · exact .inl ((in_iff hf hg).2 (nest hf hg hbc x h1 h2))
    · exact .inr ((in_iff hg hf).2 (nest hg hf (by omega) x h2 h1))
  · rintro (h | h)
    · refine ⟨f.toNat, by omega, ?_, ?_⟩
      · rw [show ((f.toNat : Nat) : Int) = f by omega]; exact first_has hf
      · rw [show ((f.toNat : Nat) : Int) = f by omega]; exact ((inB_iff f b g c).1 h).2.1
    · refine ⟨g.toNat, by omega, ?_, ?_⟩
      · rw [show ((g.toNat : Nat) : Int) = g by omega]; exact ((inB_iff g c f b).1 h).2.1
      · rw [show ((g.toNat : Nat) : Int) = g by omega]; exact first_has hg

end Go.Proofs.Ytnnmgbgkgnejlaa
