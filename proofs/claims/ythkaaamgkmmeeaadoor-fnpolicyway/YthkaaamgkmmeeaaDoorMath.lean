/-
  Plain arithmetic of address ranges: no Go in sight. Sizes of ranges, when a range is valid, which addresses it has.
-/
namespace Go.Proofs.YthkaaamgkmmeeaaDoor

/-- how many addresses a range of so many bits has -/
def sz (b : Int) : Int := ((256 / 2 ^ b.toNat : Nat) : Int)

theorem sz_cases {b : Int} (h0 : 0 ≤ b) (h8 : b ≤ 8) :
    (b = 0 ∧ sz b = 256) ∨ (b = 1 ∧ sz b = 128) ∨ (b = 2 ∧ sz b = 64) ∨ (b = 3 ∧ sz b = 32) ∨ (b = 4 ∧ sz b = 16) ∨
    (b = 5 ∧ sz b = 8) ∨ (b = 6 ∧ sz b = 4) ∨ (b = 7 ∧ sz b = 2) ∨ (b = 8 ∧ sz b = 1) := by
  have h : b = 0 ∨ b = 1 ∨ b = 2 ∨ b = 3 ∨ b = 4 ∨ b = 5 ∨ b = 6 ∨ b = 7 ∨ b = 8 := by omega
  rcases h with rfl | rfl | rfl | rfl | rfl | rfl | rfl | rfl | rfl <;> simp [sz]

theorem sz_bd {b : Int} (h0 : 0 ≤ b) (h8 : b ≤ 8) : 1 ≤ sz b ∧ sz b ≤ 256 := by
  rcases sz_cases h0 h8 with h | h | h | h | h | h | h | h | h <;> omega

/-- a range is valid -/
def okB (f b : Int) : Bool := decide (0 ≤ b ∧ b ≤ 8 ∧ 0 ≤ f ∧ f ≤ 255 ∧ f % sz b = 0)

theorem okB_iff (f b : Int) : okB f b = true ↔ (0 ≤ b ∧ b ≤ 8 ∧ 0 ≤ f ∧ f ≤ 255 ∧ f % sz b = 0) := by simp [okB]
theorem okB_of {f b : Int} (h0 : 0 ≤ b) (h8 : b ≤ 8) (f0 : 0 ≤ f) (f1 : f ≤ 255) (h : f % sz b = 0) : okB f b = true := (okB_iff f b).2 ⟨h0, h8, f0, f1, h⟩
theorem okB_no {f b : Int} (h : ¬ (0 ≤ b ∧ b ≤ 8 ∧ 0 ≤ f ∧ f ≤ 255 ∧ f % sz b = 0)) : okB f b = false := by
  rw [← Bool.not_eq_true, okB_iff]; exact h

theorem okB_mod {f b : Int} (h0 : 0 ≤ b) (h8 : b ≤ 8) (f0 : 0 ≤ f) (f1 : f ≤ 255) : (f % sz b == 0) = okB f b := by
  rw [Bool.eq_iff_iff, okB_iff, beq_iff_eq]; exact ⟨fun h => ⟨h0, h8, f0, f1, h⟩, fun h => h.2.2.2.2⟩

/-- an address is in a range -/
def hasB (f b a : Int) : Bool := decide (okB f b = true ∧ f ≤ a ∧ a - f < sz b)
theorem hasB_iff (f b a : Int) : hasB f b a = true ↔ (okB f b = true ∧ f ≤ a ∧ a - f < sz b) := by simp [hasB]
theorem hasB_no {f b a : Int} (h : ¬ (okB f b = true ∧ f ≤ a ∧ a - f < sz b)) : hasB f b a = false := by
  rw [← Bool.not_eq_true, hasB_iff]; exact h
theorem hasB_addr {f b a : Int} (h : hasB f b a = true) : 0 ≤ a ∧ a ≤ 255 := by
  obtain ⟨h1, h2, h3⟩ := (hasB_iff f b a).1 h
  obtain ⟨b0, b8, f0, f1, hm⟩ := (okB_iff f b).1 h1
  rcases sz_cases b0 b8 with h | h | h | h | h | h | h | h | h <;> obtain ⟨_, e⟩ := h <;> rw [e] at h3 hm <;> omega
theorem hasB_div {f b a : Int} (h1 : okB f b = true) (a0 : 0 ≤ a) (_a1 : a ≤ 255) : (a / sz b == f / sz b) = hasB f b a := by
  obtain ⟨b0, b8, f0, f1, hm⟩ := (okB_iff f b).1 h1
  rw [Bool.eq_iff_iff, hasB_iff]
  simp only [h1, beq_iff_eq, true_and]
  rcases sz_cases b0 b8 with h | h | h | h | h | h | h | h | h <;> obtain ⟨_, e⟩ := h <;> rw [e] at hm ⊢ <;> omega

/-- one range is in another one -/
def inB (f b g c : Int) : Bool := decide (okB f b = true ∧ hasB g c f = true ∧ c ≤ b)
theorem inB_iff (f b g c : Int) : inB f b g c = true ↔ (okB f b = true ∧ hasB g c f = true ∧ c ≤ b) := by simp [inB]
theorem inB_no {f b g c : Int} (h : ¬ (okB f b = true ∧ hasB g c f = true ∧ c ≤ b)) : inB f b g c = false := by
  rw [← Bool.not_eq_true, inB_iff]; exact h

/-- which of two ranges stands ahead -/
def cmpI (f b g c : Int) : Int := if f < g then -1 else if g < f then 1 else if b < c then -1 else if c < b then 1 else 0
def cmpOk (f b g c : Int) : Int := if okB f b = true ∧ okB g c = true then cmpI f b g c else 0

end Go.Proofs.YthkaaamgkmmeeaaDoor
