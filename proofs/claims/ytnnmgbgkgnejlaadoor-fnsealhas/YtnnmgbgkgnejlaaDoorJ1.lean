/-
  Several texts joined: Base, Math, MathP, MathR, MathV, Draw, WalksA, WalksB, WalksC, WalksD, WalksE, Box.
-/
import Derived.WalkKit
import Derived.WalkSpells
import Derived.WalkLawsBesides
import Derived.Handy
import Derived.IntWalk
import Derived.Lib.Hide
import Derived.BigQuiet
import Derived.Deep.QuietTactic
import Derived.Deep.RegionHeld3
import Derived.Lib.Join
import Derived.Lib.ItoaNum
import Derived.Test.YtnnmgbgkgnejlaaDoorProg
import Derived.OpenShut
/-
  Small facts that every text of mine leans on: endings, worlds that only grow, regions that draw their order.
-/
namespace Go.Proofs.YtnnmgbgkgnejlaaDoor
open Go.RowKit

theorem ret_int {k : IntKind} {a b : Int} (h : a = b) : Ending.returned (.int k a) = .returned (.int k b) := by rw [h]
theorem ret_bool {a b : Bool} (h : a = b) : Ending.returned (.bool a) = .returned (.bool b) := by rw [h]
theorem below_on {n m : Nat} {w0 W w1 : World} (h : Below n w0 W) (k : Below m W w1) (hn : n ≤ m) : Below n w0 w1 := h.trans (k.mono hn)
theorem below_box {w w1 : World} {o : Obj} {m : Nat} (h : Below m (w.alloc o) w1) (hm : w.heap.size ≤ m) : Below w.heap.size w w1 :=
  below_on ((Below.refl _ _).alloc (Nat.le_refl _) _) h hm
theorem next {w W w1 : World} (h : Below w.heap.size w W) (k : Below W.heap.size W w1) : Below w.heap.size w w1 := h.trans (k.mono h.size)
theorem quietL {P : Program} {f : FuncId} {args : Array Value} {w : World} {n : Nat} {v : Value}
    (h : Calls P f args (w.drewN n) fun e w' => e = .returned v ∧ w.drewN n = w') : Calls P f args (w.drewN n) fun e w'' => e = .returned v ∧ ∃ m, w'' = w.drewN m :=
  h.mono fun _ _ ⟨he, hm⟩ => ⟨he, n, hm.symm⟩

section
variable {P : Program} {ops : Array Oper} {Q : Exit → Act → World → Prop} {md : Region.Mode} {S : World → Prop}
theorem put_some (a : Act) (d : Nat) (v : Value) : a.put (some d) v = { tmps := a.tmps.setIfInBounds d v, defers := a.defers } := rfl
/-- an operation whose guard says no is passed over first -/
theorem skipH {i d : Nat} {oi : Oper} {fuel : Nat} {listed : Array Bool} {a : Act} {w : World} (hi : ops[i]? = some oi) (hd : oi.dst = some d)
    (hs : Region.noSelect ops = true) (hf : Region.free md ops listed i = true) (hr : (Region.ready md ops listed).contains i = true)
    (hQ : ∀ c a w, Q (.panic c) (a.put oi.dst undef) w → Q (.panic c) a w) (hw : Region.wanted oi (yielded ops a.tmps) = false) (hS : S w)
    (h : wpAnyH P md ops Q S fuel (listed.setIfInBounds i true) { tmps := a.tmps.setIfInBounds d undef, defers := a.defers } w) : wpAnyH P md ops Q S (fuel + 1) listed a w :=
  wpAnyH_take hi hs hf hr hQ (.inr ⟨hw, rfl⟩) hS (by rw [hd]; exact h)
/-- an operation that runs without turning the world is taken first -/
theorem takeH {i d : Nat} {oi : Oper} {v : Value} {fuel : Nat} {listed : Array Bool} {a : Act} {w : World} (hi : ops[i]? = some oi) (hd : oi.dst = some d)
    (hs : Region.noSelect ops = true) (hf : Region.free md ops listed i = true) (hr : (Region.ready md ops listed).contains i = true)
    (hQ : ∀ c a w, Q (.panic c) (a.put oi.dst v) w → Q (.panic c) a w) (hw : Region.wanted oi (yielded ops a.tmps) = true)
    (hv : ∀ w, S w → (execOp a.eval oi).run P w = .ok (.value v) w) (hS : S w)
    (h : wpAnyH P md ops Q S fuel (listed.setIfInBounds i true) { tmps := a.tmps.setIfInBounds d v, defers := a.defers } w) : wpAnyH P md ops Q S (fuel + 1) listed a w :=
  wpAnyH_take hi hs hf hr hQ (.inl ⟨hw, hv⟩) hS (by rw [hd]; exact h)
end

end Go.Proofs.YtnnmgbgkgnejlaaDoor

/-
  Plain arithmetic of address ranges: no Go in sight. Sizes of ranges, when a range is valid, which addresses it has.
-/
namespace Go.Proofs.YtnnmgbgkgnejlaaDoor

/-- how many addresses a range of so many bits has -/
def sz (b : Int) : Int := ((256 / 2 ^ b.toNat : Nat) : Int)

theorem sz_cases {b : Int} (h0 : 0 ≤ b) (h8 : b ≤ 8) :
    (b = 0 ∧ sz b = 256) ∨ (b = 1 ∧ sz b = 128) ∨ (b = 2 ∧ sz b = 64) ∨ (b = 3 ∧ sz b = 32) ∨ (b = 4 ∧ sz b = 16) ∨
    (b = 5 ∧ sz b = 8) ∨ (b = 6 ∧ sz b = 4) ∨ (b = 7 ∧ sz b = 2) ∨ (b = 8 ∧ sz b = 1) := by
  have h : b = 0 ∨ b = 1 ∨ b = 2 ∨ b = 3 ∨ b = 4 ∨ b = 5 ∨ b = 6 ∨ b = 7 ∨ b = 8 := by omega
  rcases h with rfl | rfl | rfl | rfl | rfl | rfl | rfl | rfl | rfl <;> simp [sz]

theorem sz_bd {b : Int} (h0 : 0 ≤ b) (h8 : b ≤ 8) : 1 ≤ sz b ∧ sz b ≤ 256 := by
  rcases sz_cases h0 h8 with h | h | h | h | h | h | h | h | h <;> omega

/-- a range is valid -/
def okB (f b : Int) : Bool := decide (0 ≤ b ∧ b ≤ 8 ∧ 0 ≤ f ∧ f ≤ 255 ∧ f % sz b = 0)

theorem okB_iff (f b : Int) : okB f b = true ↔ (0 ≤ b ∧ b ≤ 8 ∧ 0 ≤ f ∧ f ≤ 255 ∧ f % sz b = 0) := by simp [okB]
theorem okB_of {f b : Int} (h0 : 0 ≤ b) (h8 : b ≤ 8) (f0 : 0 ≤ f) (f1 : f ≤ 255) (h : f % sz b = 0) : okB f b = true := (okB_iff f b).2 ⟨h0, h8, f0, f1, h⟩
theorem okB_no {f b : Int} (h : ¬ (0 ≤ b ∧ b ≤ 8 ∧ 0 ≤ f ∧ f ≤ 255 ∧ f % sz b = 0)) : okB f b = false := by
  rw [← Bool.not_eq_true, okB_iff]; exact h

theorem okB_mod {f b : Int} (h0 : 0 ≤ b) (h8 : b ≤ 8) (f0 : 0 ≤ f) (f1 : f ≤ 255) : (f % sz b == 0) = okB f b := by
  rw [Bool.eq_iff_iff, okB_iff, beq_iff_eq]; exact ⟨fun h => ⟨h0, h8, f0, f1, h⟩, fun h => h.2.2.2.2⟩

/-- an address is in a range -/
def hasB (f b a : Int) : Bool := decide (okB f b = true ∧ f ≤ a ∧ a - f < sz b)
theorem hasB_iff (f b a : Int) : hasB f b a = true ↔ (okB f b = true ∧ f ≤ a ∧ a - f < sz b) := by simp [hasB]
theorem hasB_no {f b a : Int} (h : ¬ (okB f b = true ∧ f ≤ a ∧ a - f < sz b)) : hasB f b a = false := by
  rw [← Bool.not_eq_true, hasB_iff]; exact h
theorem hasB_addr {f b a : Int} (h : hasB f b a = true) : 0 ≤ a ∧ a ≤ 255 := by
  obtain ⟨h1, h2, h3⟩ := (hasB_iff f b a).1 h
  obtain ⟨b0, b8, f0, f1, hm⟩ := (okB_iff f b).1 h1
  rcases sz_cases b0 b8 with h | h | h | h | h | h | h | h | h <;> obtain ⟨_, e⟩ := h <;> rw [e] at h3 hm <;> omega
theorem hasB_div {f b a : Int} (h1 : okB f b = true) (a0 : 0 ≤ a) (_a1 : a ≤ 255) : (a / sz b == f / sz b) = hasB f b a := by
  obtain ⟨b0, b8, f0, f1, hm⟩ := (okB_iff f b).1 h1
  rw [Bool.eq_iff_iff, hasB_iff]
  simp only [h1, beq_iff_eq, true_and]
  rcases sz_cases b0 b8 with h | h | h | h | h | h | h | h | h <;> obtain ⟨_, e⟩ := h <;> rw [e] at hm ⊢ <;> omega

/-- one range is in another one -/
def inB (f b g c : Int) : Bool := decide (okB f b = true ∧ hasB g c f = true ∧ c ≤ b)
theorem inB_iff (f b g c : Int) : inB f b g c = true ↔ (okB f b = true ∧ hasB g c f = true ∧ c ≤ b) := by simp [inB]
theorem inB_no {f b g c : Int} (h : ¬ (okB f b = true ∧ hasB g c f = true ∧ c ≤ b)) : inB f b g c = false := by
  rw [← Bool.not_eq_true, inB_iff]; exact h

/-- which of two ranges stands ahead -/
def cmpI (f b g c : Int) : Int := if f < g then -1 else if g < f then 1 else if b < c then -1 else if c < b then 1 else 0
def cmpOk (f b g c : Int) : Int := if okB f b = true ∧ okB g c = true then cmpI f b g c else 0

end Go.Proofs.YtnnmgbgkgnejlaaDoor

/-
  Plain arithmetic of paths: houses, each once; their texts; their order. No Go in sight.
-/
namespace Go.Proofs.YtnnmgbgkgnejlaaDoor

def isH (h : Int) : Bool := decide (1 ≤ h ∧ h ≤ 5)
theorem isH_iff (h : Int) : isH h = true ↔ 1 ≤ h ∧ h ≤ 5 := by simp [isH]
theorem isH_no {h : Int} (k : isH h = false) : ¬ (1 ≤ h ∧ h ≤ 5) := by simpa [isH] using k

/-- a path: houses, each once -/
def Path (L : List Int) : Prop := (∀ h ∈ L, 1 ≤ h ∧ h ≤ 5) ∧ L.Nodup
instance (L : List Int) : Decidable (Path L) := inferInstanceAs (Decidable (_ ∧ _))
def pOk (L : List Int) : Bool := decide (Path L)
theorem pOk_iff (L : List Int) : pOk L = true ↔ Path L := by simp [pOk]
theorem pOk_yes {L : List Int} (h : Path L) : pOk L = true := (pOk_iff L).2 h
theorem pOk_no {L : List Int} (h : ¬ Path L) : pOk L = false := by simp [pOk, h]
theorem Path.nil : Path [] := ⟨fun _ h => (by cases h), List.nodup_nil⟩
theorem path_cons {h : Int} {L : List Int} : Path (h :: L) ↔ (1 ≤ h ∧ h ≤ 5) ∧ h ∉ L ∧ Path L := by
  unfold Path
  rw [List.nodup_cons]
  constructor
  · rintro ⟨a, b, c⟩
    exact ⟨a h (List.mem_cons_self ..), b, fun x hx => a x (List.mem_cons_of_mem _ hx), c⟩
  · rintro ⟨a, b, c, d⟩
    refine ⟨fun x hx => ?_, b, d⟩
    rcases List.mem_cons.1 hx with rfl | hx
    · exact a
    · exact c x hx
theorem path_snoc {h : Int} {L : List Int} : Path (L ++ [h]) ↔ Path L ∧ (1 ≤ h ∧ h ≤ 5) ∧ h ∉ L := by
  unfold Path
  rw [List.nodup_append]
  constructor
  · rintro ⟨a, b, c, d⟩
    exact ⟨⟨fun x hx => a x (by simp [hx]), b⟩, a h (by simp), fun hh => d h hh h (by simp) rfl⟩
  · rintro ⟨⟨a, b⟩, c, d⟩
    refine ⟨fun x hx => ?_, b, by simp, fun x hx y hy => ?_⟩
    · rcases List.mem_append.1 hx with hx | hx
      · exact a x hx
      · simp at hx; subst hx; exact c
    · simp at hy; subst hy; rintro rfl; exact d hx
theorem Path.sub {L M : List Int} (h : Path L) (k : M.Sublist L) : Path M := ⟨fun x hx => h.1 x (k.subset hx), h.2.sublist k⟩
theorem Path.take {L : List Int} (h : Path L) (k : Nat) : Path (L.take k) := h.sub (List.take_sublist k L)
theorem Path.drop {L : List Int} (h : Path L) (k : Nat) : Path (L.drop k) := h.sub (List.drop_sublist k L)
theorem path_take_all {L : List Int} : (∀ k, k < L.length → Path (L.take (k + 1))) → Path L := by
  intro h
  cases hl : L.length with
  | zero => rw [List.eq_nil_of_length_eq_zero hl]; exact Path.nil
  | succ n => have := h n (by omega); rwa [List.take_of_length_le (by omega)] at this

/-- how many of the houses 1 to n are on a path -/
def cntH (L : List Int) : Nat → Nat
  | 0 => 0
  | n + 1 => cntH L n + if ((n + 1 : Nat) : Int) ∈ L then 1 else 0
theorem cntH_same {L M : List Int} : ∀ n : Nat, (∀ x : Int, x ≤ n → (x ∈ L ↔ x ∈ M)) → cntH L n = cntH M n
  | 0, _ => rfl
  | n + 1, h => by
    have ih := cntH_same n (L := L) (M := M) (fun x hx => h x (by omega))
    have e := h ((n + 1 : Nat) : Int) (Int.le_refl _)
    simp only [cntH, ih, e]
theorem cntH_len : ∀ (n : Nat) (L : List Int), (∀ h ∈ L, 1 ≤ h ∧ h ≤ n) → L.Nodup → cntH L n = L.length
  | 0, L, h, _ => by
    cases L with
    | nil => rfl
    | cons a l => have := h a (List.mem_cons_self ..); omega
  | n + 1, L, h, hn => by
    by_cases hm : ((n + 1 : Nat) : Int) ∈ L
    · have ih := cntH_len n (L.erase ((n + 1 : Nat) : Int)) (fun x hx => by
        have h1 := h x (List.mem_of_mem_erase hx)
        have h2 : x ≠ ((n + 1 : Nat) : Int) := fun e => by subst e; exact (hn.not_mem_erase) hx
        omega) (hn.erase _)
      rw [List.length_erase_of_mem hm] at ih
      have e : cntH L n = cntH (L.erase ((n + 1 : Nat) : Int)) n := cntH_same n fun x hx => by
        rw [List.mem_erase_of_ne (by omega)]
      have hl := List.length_pos_of_mem hm
      simp only [cntH, if_pos hm, e, ih]
      omega
    · have ih := cntH_len n L (fun x hx => by
        have h1 := h x hx
        have h2 : x ≠ ((n + 1 : Nat) : Int) := fun e => by subst e; exact hm hx
        omega) hn
      simp only [cntH, if_neg hm, ih]
      omega
theorem cntH_le (L : List Int) : ∀ n, cntH L n ≤ n
  | 0 => Nat.le_refl _
  | n + 1 => by have := cntH_le L n; simp only [cntH]; split <;> omega
theorem Path.count {L : List Int} (h : Path L) : cntH L 5 = L.length := cntH_len 5 L h.1 h.2
theorem Path.len {L : List Int} (h : Path L) : L.length ≤ 5 := by rw [← h.count]; exact cntH_le L 5

/-- is a house on a path -/
def pHas (L : List Int) (h : Int) : Bool := pOk L && decide (h ∈ L)
theorem pHas_yes {L : List Int} (h : Path L) (x : Int) : pHas L x = decide (x ∈ L) := by simp [pHas, pOk_yes h]

/-- the bits of the houses on a path -/
def bitsH : List Int → Nat
  | [] => 0
  | h :: L => bitsH L ||| 1 <<< h.toNat
theorem bits_step : ∀ m, m < 64 → ∀ h, h < 6 → m ||| 1 <<< h < 64 := by decide +kernel
theorem bits_lt : ∀ {L : List Int}, (∀ h ∈ L, 1 ≤ h ∧ h ≤ 5) → bitsH L < 64
  | [], _ => by decide
  | h :: L, k => by
    have h1 := k h (List.mem_cons_self ..)
    exact bits_step _ (bits_lt (L := L) fun x hx => k x (List.mem_cons_of_mem _ hx)) _ (by omega)
theorem bits_on : ∀ m, m < 64 → ∀ h, h < 6 → ∀ g, g < 6 → (m ||| 1 <<< h).testBit g = (m.testBit g || decide (h = g)) := by decide +kernel
theorem bits_has : ∀ {L : List Int}, (∀ h ∈ L, 1 ≤ h ∧ h ≤ 5) → ∀ {g : Int}, 1 ≤ g → g ≤ 5 → (bitsH L).testBit g.toNat = decide (g ∈ L)
  | [], _, g, _, _ => by simp [bitsH]
  | h :: L, k, g, g1, g5 => by
    have h1 := k h (List.mem_cons_self ..)
    have k' : ∀ h ∈ L, 1 ≤ h ∧ h ≤ 5 := fun x hx => k x (List.mem_cons_of_mem _ hx)
    rw [bitsH, bits_on _ (bits_lt k') _ (by omega) _ (by omega), bits_has k' g1 g5]
    by_cases e : g = h
    · subst e; simp
    · have : ¬ h.toNat = g.toNat := by omega
      simp [e, this]

/-! texts -/
def dgt (h : Int) : UInt8 := UInt8.ofNat (48 + h.toNat)
def ptxt (L : List Int) : List UInt8 := if L = [] then [46] else Lib.join (L.map fun h => [dgt h]) [45]
def ptext (L : List Int) : ByteArray := if pOk L = true then ⟨(ptxt L).toArray⟩ else ⟨#[]⟩
theorem dgt_toNat {h : Int} (h1 : 1 ≤ h) (h5 : h ≤ 5) : (dgt h).toNat = 48 + h.toNat := by
  unfold dgt
  rw [UInt8.toNat_ofNat']
  omega
theorem dgt_inj {h g : Int} (h1 : 1 ≤ h) (h5 : h ≤ 5) (g1 : 1 ≤ g) (g5 : g ≤ 5) (e : dgt h = dgt g) : h = g := by
  have := congrArg UInt8.toNat e
  rw [dgt_toNat h1 h5, dgt_toNat g1 g5] at this
  omega
/-- every second byte is a house -/
def evens : List UInt8 → List Int
  | [] => []
  | [a] => [(a.toNat : Int) - 48]
  | a :: _ :: l => ((a.toNat : Int) - 48) :: evens l
def strk : List Int → List UInt8
  | [] => []
  | h :: l => 45 :: dgt h :: strk l
theorem joinTail_strk : ∀ L : List Int, Lib.joinTail [45] (L.map fun h => [dgt h]) = strk L
  | [] => rfl
  | h :: l => by
    have ih := joinTail_strk l
    simp only [Lib.joinTail, List.map_cons, List.flatten_cons] at ih ⊢
    rw [ih]
    rfl
theorem ptxt_cons (h : Int) (L : List Int) : ptxt (h :: L) = dgt h :: strk L := by
  unfold ptxt
  rw [if_neg (by simp), List.map_cons, Lib.join_cons, joinTail_strk]
  rfl
theorem strk_len : ∀ L : List Int, (strk L).length = 2 * L.length
  | [] => rfl
  | h :: l => by have := strk_len l; simp only [strk, List.length_cons, this]; omega
theorem evens_txt : ∀ (L : List Int) (h : Int), (∀ g ∈ h :: L, 1 ≤ g ∧ g ≤ 5) → evens (dgt h :: strk L) = h :: L
  | [], h, k => by
    have h1 := k h (List.mem_cons_self ..)
    simp only [strk, evens, dgt_toNat h1.1 h1.2]
    congr 1; omega
  | g :: l, h, k => by
    have h1 := k h (List.mem_cons_self ..)
    have ih := evens_txt l g (fun x hx => k x (List.mem_cons_of_mem _ hx))
    simp only [strk, evens, dgt_toNat h1.1 h1.2]
    rw [ih]
    congr 1; omega
theorem ptxt_len {L : List Int} (h : Path L) : (ptxt L).length ≤ 9 := by
  cases L with
  | nil => simp [ptxt]
  | cons a l =>
    have := h.len
    rw [ptxt_cons, List.length_cons, strk_len]
    simp at this; omega
theorem ptxt_pos (L : List Int) : 0 < (ptxt L).length := by
  cases L with
  | nil => simp [ptxt]
  | cons a l => rw [ptxt_cons]; simp
theorem ptxt_inj {L M : List Int} (hL : Path L) (hM : Path M) (e : ptxt L = ptxt M) : L = M := by
  have pt : ∀ h : Int, 1 ≤ h → h ≤ 5 → dgt h ≠ 46 := fun h h1 h5 e => by
    have := congrArg UInt8.toNat e
    rw [dgt_toNat h1 h5] at this
    simp at this; omega
  cases L with
  | nil =>
    cases M with
    | nil => rfl
    | cons b m =>
      rw [ptxt_cons] at e
      have h1 := hM.1 b (List.mem_cons_self ..)
      simp only [ptxt, if_true, List.cons.injEq] at e
      exact (pt b h1.1 h1.2 e.1.symm).elim
  | cons a l =>
    cases M with
    | nil =>
      rw [ptxt_cons] at e
      have h1 := hL.1 a (List.mem_cons_self ..)
      simp only [ptxt, if_true, List.cons.injEq] at e
      exact (pt a h1.1 h1.2 e.1).elim
    | cons b m =>
      rw [ptxt_cons, ptxt_cons] at e
      rw [← evens_txt l a hL.1, ← evens_txt m b hM.1, e]
theorem ptext_yes {L : List Int} (h : Path L) : ptext L = ⟨(ptxt L).toArray⟩ := by simp [ptext, pOk_yes h]
theorem ptext_no {L : List Int} (h : pOk L = false) : ptext L = ⟨#[]⟩ := by simp [ptext, h]
theorem ptext_size {L : List Int} (h : Path L) : (ptext L).size ≤ 9 := by
  rw [ptext_yes h]
  have := ptxt_len h
  show (ptxt L).toArray.size ≤ 9
  simpa using this
theorem ptext_pos {L : List Int} (h : Path L) : 0 < (ptext L).size := by
  rw [ptext_yes h]
  have := ptxt_pos L
  show 0 < (ptxt L).toArray.size
  simpa using this
theorem ptext_inj {L M : List Int} (hL : Path L) (hM : Path M) (e : ptext L = ptext M) : L = M := by
  rw [ptext_yes hL, ptext_yes hM] at e
  refine ptxt_inj hL hM ?_
  have := congrArg (fun b => b.data.toList) e
  simpa using this
theorem text_eq {a b : ByteArray} : (a.toList == b.toList) = decide (a = b) := by
  rw [Bool.eq_iff_iff, beq_iff_eq, decide_eq_true_eq]
  constructor
  · intro k; exact ByteArray.ext (by simpa [ByteArray.toList_eq] using k)
  · rintro rfl; rfl
theorem ptexts_eq {L M : List Int} (hL : Path L) (hM : Path M) : decide (ptext L = ptext M) = decide (L = M) := by
  rw [Bool.eq_iff_iff, decide_eq_true_eq, decide_eq_true_eq]
  exact ⟨ptext_inj hL hM, fun e => by rw [e]⟩

/-! order -/
def cmpL : List Int → List Int → Int
  | a :: l, b :: m => if a < b then -1 else if b < a then 1 else cmpL l m
  | _, _ => 0
def lcmp (L M : List Int) : Int := if L.length < M.length then -1 else if M.length < L.length then 1 else cmpL L M
def pcmp (L M : List Int) : Int := if pOk L && pOk M then lcmp L M else 0
theorem cmpL_neg : ∀ L M : List Int, cmpL M L = - cmpL L M
  | [], [] => rfl
  | [], _ :: _ => rfl
  | _ :: _, [] => rfl
  | a :: l, b :: m => by
    have ih := cmpL_neg l m
    simp only [cmpL]
    split <;> split <;> first | omega | (split <;> omega) | skip
    all_goals first | omega | rfl | (exact ih)
theorem cmpL_zero : ∀ L M : List Int, L.length = M.length → (cmpL L M = 0 ↔ L = M)
  | [], [], _ => by simp [cmpL]
  | [], _ :: _, h => by simp at h
  | _ :: _, [], h => by simp at h
  | a :: l, b :: m, h => by
    have ih := cmpL_zero l m (by simpa using h)
    simp only [cmpL, List.cons.injEq]
    split
    · constructor
      · intro k; omega
      · rintro ⟨k, _⟩; omega
    · split
      · constructor
        · intro k; omega
        · rintro ⟨k, _⟩; omega
      · rw [ih]
        constructor
        · intro k; exact ⟨by omega, k⟩
        · rintro ⟨_, k⟩; exact k
theorem cmpL_trans : ∀ A B C : List Int, A.length = B.length → B.length = C.length → cmpL A B = -1 → cmpL B C = -1 → cmpL A C = -1
  | [], [], _, _, _, h, _ => by simp [cmpL] at h
  | [], _ :: _, _, h, _, _, _ => by simp at h
  | _ :: _, [], _, h, _, _, _ => by simp at h
  | _ :: _, _ :: _, [], _, h, _, _ => by simp at h
  | a :: l, b :: m, c :: n, h1, h2, k1, k2 => by
    have ih := cmpL_trans l m n (by simpa using h1) (by simpa using h2)
    simp only [cmpL] at k1 k2 ⊢
    by_cases e1 : a < b
    · by_cases e2 : b < c
      · rw [if_pos (by omega)]
      · rw [if_neg e2] at k2
        by_cases e3 : c < b
        · rw [if_pos e3] at k2; omega
        · rw [if_pos (by omega)]
    · rw [if_neg e1] at k1
      by_cases e3 : b < a
      · rw [if_pos e3] at k1; omega
      · rw [if_neg e3] at k1
        by_cases e2 : b < c
        · rw [if_pos (by omega)]
        · rw [if_neg e2] at k2
          by_cases e4 : c < b
          · rw [if_pos e4] at k2; omega
          · rw [if_neg e4] at k2
            rw [if_neg (by omega), if_neg (by omega)]
            exact ih k1 k2
theorem cmpL_vals : ∀ L M : List Int, cmpL L M = -1 ∨ cmpL L M = 0 ∨ cmpL L M = 1
  | [], _ => .inr (.inl (by cases ‹List Int› <;> rfl))
  | _ :: _, [] => .inr (.inl rfl)
  | a :: l, b :: m => by
    have ih := cmpL_vals l m
    simp only [cmpL]
    split
    · exact .inl rfl
    · split
      · exact .inr (.inr rfl)
      · exact ih
theorem lcmp_vals (L M : List Int) : lcmp L M = -1 ∨ lcmp L M = 0 ∨ lcmp L M = 1 := by
  unfold lcmp
  split
  · exact .inl rfl
  · split
    · exact .inr (.inr rfl)
    · exact cmpL_vals L M
theorem lcmp_neg (L M : List Int) : lcmp M L = - lcmp L M := by
  unfold lcmp
  have := cmpL_neg L M
  split <;> split <;> first | omega | (split <;> omega) | skip
  all_goals first | omega | exact this
theorem lcmp_lt {L M : List Int} (h : L.length < M.length) : lcmp L M = -1 := by simp [lcmp, h]
theorem lcmp_zero (L M : List Int) : lcmp L M = 0 ↔ L = M := by
  unfold lcmp
  split
  · constructor
    · intro k; omega
    · rintro rfl; omega
  · split
    · constructor
      · intro k; omega
      · rintro rfl; omega
    · exact cmpL_zero L M (by omega)
theorem lcmp_cons (h : Int) (L M : List Int) : lcmp (h :: L) (h :: M) = lcmp L M := by
  simp [lcmp, cmpL]
theorem lcmp_trans {A B C : List Int} (h1 : lcmp A B = -1) (h2 : lcmp B C = -1) : lcmp A C = -1 := by
  unfold lcmp at *
  by_cases a : A.length < B.length
  · by_cases b : B.length < C.length
    · rw [if_pos (by omega)]
    · rw [if_neg b] at h2
      by_cases c : C.length < B.length
      · rw [if_pos c] at h2; omega
      · rw [if_pos (by omega)]
  · rw [if_neg a] at h1
    by_cases d : B.length < A.length
    · rw [if_pos d] at h1; omega
    · rw [if_neg d] at h1
      by_cases b : B.length < C.length
      · rw [if_pos (by omega)]
      · rw [if_neg b] at h2
        by_cases c : C.length < B.length
        · rw [if_pos c] at h2; omega
        · rw [if_neg c] at h2
          rw [if_neg (by omega), if_neg (by omega)]
          exact cmpL_trans A B C (by omega) (by omega) h1 h2
theorem pcmp_yes {L M : List Int} (hL : Path L) (hM : Path M) : pcmp L M = lcmp L M := by simp [pcmp, pOk_yes hL, pOk_yes hM]
end Go.Proofs.YtnnmgbgkgnejlaaDoor

/-
  Routes: which are valid, marks, which is better, the best of some (no program here).
-/
namespace Go.Proofs.YtnnmgbgkgnejlaaDoor

/-- a route: first address, bits, path, like, marks -/
abbrev Rt := Int × Int × List Int × Int × List Int
def Marks (M : List Int) : Prop := (∀ m ∈ M, 1 ≤ m ∧ m ≤ 9) ∧ M.Pairwise (· < ·)
instance (M : List Int) : Decidable (Marks M) := inferInstanceAs (Decidable (_ ∧ _))
def mkOk (M : List Int) : Bool := decide (Marks M)
theorem mkOk_iff (M : List Int) : mkOk M = true ↔ Marks M := by simp [mkOk]
theorem mkOk_no {M : List Int} (h : ¬ Marks M) : mkOk M = false := by simp [mkOk, h]
theorem asc_len : ∀ (M : List Int) (lo : Int), (∀ m ∈ M, lo ≤ m ∧ m ≤ 9) → M.Pairwise (· < ·) → M.length ≤ (10 - lo).toNat
  | [], _, _, _ => by simp
  | x :: M, lo, h, hp => by
    obtain ⟨h1, h2⟩ := List.pairwise_cons.1 hp
    have hx := h x (by simp)
    have := asc_len M (x + 1) (fun m hm => ⟨by have := h1 m hm; omega, (h m (by simp [hm])).2⟩) h2
    simp only [List.length_cons]; omega
theorem Marks.len {M : List Int} (h : Marks M) : M.length ≤ 9 := by have := asc_len M 1 h.1 h.2; simpa using this
theorem Marks.nil : Marks [] := ⟨fun _ h => (by cases h), List.Pairwise.nil⟩
def isM (m : Int) : Bool := decide (1 ≤ m ∧ m ≤ 9)
theorem isM_iff (m : Int) : isM m = true ↔ 1 ≤ m ∧ m ≤ 9 := by simp [isM]
theorem isM_no {m : Int} (k : isM m = false) : ¬ (1 ≤ m ∧ m ≤ 9) := by simpa [isM] using k

def rtOk (r : Rt) : Bool := okB r.1 r.2.1 && pOk r.2.2.1 && decide (r.2.2.1 ≠ []) && decide (0 ≤ r.2.2.2.1 ∧ r.2.2.2.1 ≤ 9) && mkOk r.2.2.2.2
structure RtGood (r : Rt) : Prop where
  ran : okB r.1 r.2.1 = true
  path : Path r.2.2.1
  some : r.2.2.1 ≠ []
  like : 0 ≤ r.2.2.2.1 ∧ r.2.2.2.1 ≤ 9
  marks : Marks r.2.2.2.2
theorem rtOk_iff (r : Rt) : rtOk r = true ↔ RtGood r := by
  unfold rtOk
  simp only [Bool.and_eq_true, pOk_iff, decide_eq_true_eq, mkOk_iff]
  exact ⟨fun ⟨⟨⟨⟨a, b⟩, c⟩, d⟩, e⟩ => ⟨a, b, c, d, e⟩, fun ⟨a, b, c, d, e⟩ => ⟨⟨⟨⟨a, b⟩, c⟩, d⟩, e⟩⟩
theorem rtOk_no {r : Rt} (h : ¬ RtGood r) : rtOk r = false := by rw [← Bool.not_eq_true, rtOk_iff]; exact h

/-- marks with one; without one -/
def mins (M : List Int) (m : Int) : List Int := M.filter (fun x => decide (x < m)) ++ m :: M.filter (fun x => decide (m < x))
def mdel (M : List Int) (m : Int) : List Int := M.filter (fun x => decide (x ≠ m))
theorem filter_none {p : Int → Bool} {M : List Int} (h : ∀ x ∈ M, p x = false) : M.filter p = [] := by
  rw [List.filter_eq_nil_iff]; intro x hx; rw [h x hx]; simp
theorem filter_full {p : Int → Bool} {M : List Int} (h : ∀ x ∈ M, p x = true) : M.filter p = M := List.filter_eq_self.2 h
theorem asc_take : ∀ {M : List Int} (m : Int), M.Pairwise (· < ·) → M.take (M.countP (fun x => decide (x < m))) = M.filter (fun x => decide (x < m))
  | [], _, _ => by simp
  | x :: M, m, h => by
    obtain ⟨h1, h2⟩ := List.pairwise_cons.1 h
    by_cases hx : x < m
    · rw [List.countP_cons_of_pos (by simpa using hx), List.take_succ_cons, asc_take m h2, List.filter_cons_of_pos (by simpa using hx)]
    · have hf : ∀ y ∈ M, decide (y < m) = false := fun y hy => by have := h1 y hy; simp; omega
      rw [List.countP_cons_of_neg (by simpa using hx), List.filter_cons_of_neg (by simpa using hx), filter_none hf]
      rw [List.countP_eq_zero.2 (fun y hy => by rw [hf y hy]; simp)]; rfl
theorem asc_drop : ∀ {M : List Int} (m : Int), M.Pairwise (· < ·) → M.drop (M.countP (fun x => decide (x < m))) = M.filter (fun x => decide (m ≤ x))
  | [], _, _ => by simp
  | x :: M, m, h => by
    obtain ⟨h1, h2⟩ := List.pairwise_cons.1 h
    by_cases hx : x < m
    · rw [List.countP_cons_of_pos (by simpa using hx), List.drop_succ_cons, asc_drop m h2, List.filter_cons_of_neg (by simp; omega)]
    · have hf : ∀ y ∈ M, decide (y < m) = false := fun y hy => by have := h1 y hy; simp; omega
      rw [List.countP_cons_of_neg (by simpa using hx), List.countP_eq_zero.2 (fun y hy => by rw [hf y hy]; simp)]
      rw [List.drop_zero, filter_full]
      intro y hy
      rcases List.mem_cons.1 hy with rfl | hy
      · simp; omega
      · have := h1 y hy; simp; omega
theorem filter_lt_le {M : List Int} {m : Int} (h : m ∉ M) : M.filter (fun x => decide (m ≤ x)) = M.filter (fun x => decide (m < x)) :=
  List.filter_congr fun x hx => by
    have : x ≠ m := fun e => h (e ▸ hx)
    simp; omega
/-- a mark that is not there is put at its place -/
theorem mins_new {M : List Int} {m : Int} (h : M.Pairwise (· < ·)) (hm : m ∉ M) :
    M.take (M.countP (fun x => decide (x < m))) ++ m :: M.drop (M.countP (fun x => decide (x < m))) = mins M m := by
  rw [asc_take m h, asc_drop m h, filter_lt_le hm]; rfl
theorem mins_there : ∀ {M : List Int} {m : Int}, M.Pairwise (· < ·) → m ∈ M → mins M m = M
  | [], _, _, hm => by cases hm
  | x :: M, m, h, hm => by
    obtain ⟨h1, h2⟩ := List.pairwise_cons.1 h
    rcases List.mem_cons.1 hm with rfl | hm
    · unfold mins
      rw [List.filter_cons_of_neg (by simp), List.filter_cons_of_neg (by simp), filter_none (fun y hy => by have := h1 y hy; simp; omega), filter_full (fun y hy => by have := h1 y hy; simpa using this)]
      rfl
    · have hx := h1 m hm
      have := mins_there h2 hm
      unfold mins at this ⊢
      rw [List.filter_cons_of_pos (by simpa using hx), List.filter_cons_of_neg (by simp; omega), List.cons_append, this]
theorem mdel_none {M : List Int} {m : Int} (hm : m ∉ M) : mdel M m = M := filter_full fun x hx => by
  have : x ≠ m := fun e => hm (e ▸ hx)
  simpa using this
theorem mdel_there : ∀ {M : List Int} {m : Int}, M.Pairwise (· < ·) → m ∈ M →
    M.take (M.countP (fun x => decide (x < m))) ++ M.drop (M.countP (fun x => decide (x < m)) + 1) = mdel M m
  | [], _, _, hm => by cases hm
  | x :: M, m, h, hm => by
    obtain ⟨h1, h2⟩ := List.pairwise_cons.1 h
    rcases List.mem_cons.1 hm with rfl | hm
    · have hf : ∀ y ∈ M, decide (y < m) = false := fun y hy => by have := h1 y hy; simp; omega
      rw [List.countP_cons_of_neg (by simp), List.countP_eq_zero.2 (fun y hy => by rw [hf y hy]; simp)]
      unfold mdel
      rw [List.filter_cons_of_neg (by simp), filter_full (fun y hy => by have := h1 y hy; simp; omega)]
      simp
    · have hx := h1 m hm
      rw [List.countP_cons_of_pos (by simpa using hx), List.take_succ_cons, List.drop_succ_cons, List.cons_append, mdel_there h2 hm]
      unfold mdel
      rw [List.filter_cons_of_pos (by simp; omega)]
theorem mem_mins {M : List Int} {m x : Int} : x ∈ mins M m ↔ x = m ∨ x ∈ M := by
  unfold mins
  simp only [List.mem_append, List.mem_filter, List.mem_cons, decide_eq_true_eq]
  constructor
  · rintro (⟨h, _⟩ | rfl | ⟨h, _⟩)
    · exact .inr h
    · exact .inl rfl
    · exact .inr h
  · rintro (rfl | h)
    · exact .inr (.inl rfl)
    · rcases Int.lt_trichotomy x m with k | k | k
      · exact .inl ⟨h, k⟩
      · exact .inr (.inl k)
      · exact .inr (.inr ⟨h, k⟩)
theorem mem_mdel {M : List Int} {m x : Int} : x ∈ mdel M m ↔ x ≠ m ∧ x ∈ M := by
  unfold mdel; simp only [List.mem_filter, decide_eq_true_eq]; exact ⟨fun h => ⟨h.2, h.1⟩, fun h => ⟨h.2, h.1⟩⟩
theorem Marks.mins {M : List Int} {m : Int} (h : Marks M) (h1 : 1 ≤ m ∧ m ≤ 9) : Marks (mins M m) := by
  refine ⟨fun x hx => ?_, ?_⟩
  · rcases mem_mins.1 hx with rfl | k
    · exact h1
    · exact h.1 x k
  · unfold Go.Proofs.YtnnmgbgkgnejlaaDoor.mins
    rw [List.pairwise_append]
    refine ⟨h.2.filter _, ?_, fun a ha b hb => ?_⟩
    · rw [List.pairwise_cons]
      exact ⟨fun y hy => by simpa using (List.mem_filter.1 hy).2, h.2.filter _⟩
    · have ha' : a < m := by simpa using (List.mem_filter.1 ha).2
      rcases List.mem_cons.1 hb with rfl | hb
      · exact ha'
      · have : m < b := by simpa using (List.mem_filter.1 hb).2
        omega
theorem Marks.mdel {M : List Int} {m : Int} (h : Marks M) : Marks (mdel M m) := ⟨fun x hx => h.1 x (mem_mdel.1 hx).2, h.2.filter _⟩
/-- marks with the same members are the same -/
theorem asc_ext : ∀ {M N : List Int}, M.Pairwise (· < ·) → N.Pairwise (· < ·) → (∀ x, x ∈ M ↔ x ∈ N) → M = N
  | [], [], _, _, _ => rfl
  | [], y :: N, _, _, h => by have := (h y).2 (by simp); cases this
  | x :: M, [], _, _, h => by have := (h x).1 (by simp); cases this
  | x :: M, y :: N, hM, hN, h => by
    obtain ⟨m1, m2⟩ := List.pairwise_cons.1 hM
    obtain ⟨n1, n2⟩ := List.pairwise_cons.1 hN
    have hxy : x = y := by
      have a := (h x).1 (by simp)
      have b := (h y).2 (by simp)
      rcases List.mem_cons.1 a with e | a
      · exact e
      · rcases List.mem_cons.1 b with e | b
        · exact e.symm
        · have := n1 x a; have := m1 y b; omega
    subst hxy
    rw [asc_ext m2 n2]
    intro z
    constructor
    · intro hz
      rcases List.mem_cons.1 ((h z).1 (by simp [hz])) with rfl | k
      · have := m1 z hz; omega
      · exact k
    · intro hz
      rcases List.mem_cons.1 ((h z).2 (by simp [hz])) with rfl | k
      · have := n1 z hz; omega
      · exact k

/-- a route with a mark; without one -/
def zRt : Rt := (0, 0, [], 0, [])
def rtMark (r : Rt) (m : Int) : Rt × Bool := if rtOk r && isM m then ((r.1, r.2.1, r.2.2.1, r.2.2.2.1, mins r.2.2.2.2 m), true) else (zRt, false)
def rtClear (r : Rt) (m : Int) : Rt × Bool := if rtOk r && isM m then ((r.1, r.2.1, r.2.2.1, r.2.2.2.1, mdel r.2.2.2.2 m), true) else (zRt, false)

/-! which is better -/
def rtCmp0 (a b : Rt) : Int :=
  if b.2.2.2.1 < a.2.2.2.1 then -1 else if a.2.2.2.1 < b.2.2.2.1 then 1 else
  if lcmp a.2.2.1 b.2.2.1 ≠ 0 then lcmp a.2.2.1 b.2.2.1 else
  if cmpI a.1 a.2.1 b.1 b.2.1 ≠ 0 then cmpI a.1 a.2.1 b.1 b.2.1 else lcmp a.2.2.2.2 b.2.2.2.2
def rtCmp (a b : Rt) : Int := if rtOk a && rtOk b then rtCmp0 a b else 0
theorem cmpI_vals (f b g c : Int) : cmpI f b g c = -1 ∨ cmpI f b g c = 0 ∨ cmpI f b g c = 1 := by
  unfold cmpI; repeat' split
  all_goals simp
theorem cmpI_neg (f b g c : Int) : cmpI g c f b = - cmpI f b g c := by
  unfold cmpI; repeat' split
  all_goals first | rfl | omega
theorem cmpI_zero (f b g c : Int) : cmpI f b g c = 0 ↔ f = g ∧ b = c := by
  unfold cmpI; repeat' split
  all_goals first | omega | (simp; omega)
theorem cmpI_lt (f b g c : Int) : cmpI f b g c = -1 ↔ f < g ∨ f = g ∧ b < c := by
  unfold cmpI; repeat' split
  all_goals first | omega | (simp; omega)
theorem rtCmp0_vals (a b : Rt) : rtCmp0 a b = -1 ∨ rtCmp0 a b = 0 ∨ rtCmp0 a b = 1 := by
  unfold rtCmp0
  repeat' split
  · simp
  · simp
  · exact lcmp_vals _ _
  · exact cmpI_vals _ _ _ _
  · exact lcmp_vals _ _
theorem rtCmp0_neg (a b : Rt) : rtCmp0 b a = - rtCmp0 a b := by
  unfold rtCmp0
  rw [lcmp_neg a.2.2.1 b.2.2.1, cmpI_neg a.1 a.2.1 b.1 b.2.1, lcmp_neg a.2.2.2.2 b.2.2.2.2]
  repeat' split
  all_goals first | rfl | omega
theorem rtCmp0_zero (a b : Rt) : rtCmp0 a b = 0 ↔ a = b := by
  obtain ⟨f, c, P, l, M⟩ := a
  obtain ⟨g, d, Q, k, N⟩ := b
  unfold rtCmp0
  simp only [Prod.mk.injEq]
  have e1 := lcmp_zero P Q
  have e2 := cmpI_zero f c g d
  have e3 := lcmp_zero M N
  constructor
  · intro h
    split at h
    · omega
    · split at h
      · omega
      · split at h
        · exact absurd h (by assumption)
        · rename_i h3
          split at h
          · exact absurd h (by assumption)
          · rename_i h4
            have h3' := e1.1 (by omega)
            have h4' := e2.1 (by omega)
            exact ⟨h4'.1, h4'.2, h3', by omega, e3.1 h⟩
  · rintro ⟨rfl, rfl, rfl, rfl, rfl⟩
    rw [if_neg (by omega), if_neg (by omega), if_neg (by simp [e1.2 rfl]), if_neg (by simp [e2.2 ⟨rfl, rfl⟩]), e3.2 rfl]
/-- better, spelt out -/
theorem rtCmp0_lt (a b : Rt) : rtCmp0 a b = -1 ↔ b.2.2.2.1 < a.2.2.2.1 ∨ a.2.2.2.1 = b.2.2.2.1 ∧ (lcmp a.2.2.1 b.2.2.1 = -1 ∨ a.2.2.1 = b.2.2.1 ∧
    (cmpI a.1 a.2.1 b.1 b.2.1 = -1 ∨ (a.1 = b.1 ∧ a.2.1 = b.2.1) ∧ lcmp a.2.2.2.2 b.2.2.2.2 = -1)) := by
  rw [← lcmp_zero a.2.2.1 b.2.2.1, ← cmpI_zero a.1 a.2.1 b.1 b.2.1]
  unfold rtCmp0
  repeat' split
  all_goals omega
theorem rtCmp0_trans {a b c : Rt} (h1 : rtCmp0 a b = -1) (h2 : rtCmp0 b c = -1) : rtCmp0 a c = -1 := by
  rw [rtCmp0_lt] at *
  rcases h1 with h1 | ⟨e1, h1⟩
  · rcases h2 with h2 | ⟨e2, h2⟩
    · exact .inl (by omega)
    · exact .inl (by omega)
  · rcases h2 with h2 | ⟨e2, h2⟩
    · exact .inl (by omega)
    · refine .inr ⟨by omega, ?_⟩
      rcases h1 with h1 | ⟨p1, h1⟩
      · rcases h2 with h2 | ⟨p2, h2⟩
        · exact .inl (lcmp_trans h1 h2)
        · exact .inl (by rw [← p2]; exact h1)
      · rcases h2 with h2 | ⟨p2, h2⟩
        · exact .inl (by rw [p1]; exact h2)
        · refine .inr ⟨p1.trans p2, ?_⟩
          rcases h1 with h1 | ⟨q1, h1⟩
          · rcases h2 with h2 | ⟨q2, h2⟩
            · exact .inl (by rw [cmpI_lt] at *; omega)
            · exact .inl (by rw [← q2.1, ← q2.2]; exact h1)
          · rcases h2 with h2 | ⟨q2, h2⟩
            · exact .inl (by rw [q1.1, q1.2]; exact h2)
            · exact .inr ⟨⟨q1.1.trans q2.1, q1.2.trans q2.2⟩, lcmp_trans h1 h2⟩
theorem rtCmp_yes {a b : Rt} (ha : rtOk a = true) (hb : rtOk b = true) : rtCmp a b = rtCmp0 a b := by simp [rtCmp, ha, hb]
theorem rtCmp_no1 {a b : Rt} (ha : rtOk a = false) : rtCmp a b = 0 := by simp [rtCmp, ha]
theorem rtCmp_no2 {a b : Rt} (hb : rtOk b = false) : rtCmp a b = 0 := by simp [rtCmp, hb]

/-- slices.Compare, of lengths that may differ -/
def cmpG : List Int → List Int → Int
  | [], [] => 0
  | [], _ :: _ => -1
  | _ :: _, [] => 1
  | x :: L, y :: M => if x < y then -1 else if y < x then 1 else cmpG L M
theorem cmpG_same : ∀ {L M : List Int}, L.length = M.length → cmpG L M = cmpL L M
  | [], [], _ => rfl
  | [], _ :: _, h => by simp at h
  | _ :: _, [], h => by simp at h
  | x :: L, y :: M, h => by simp only [cmpG, cmpL, cmpG_same (L := L) (M := M) (by simpa using h)]
/-- the first that is not 0 -/
def firstNZ : List Int → Int
  | [] => 0
  | x :: l => if x ≠ 0 then x else firstNZ l
def csgn (x y : Int) : Int := if x < y then -1 else if y < x then 1 else 0
theorem or_cmp {a b : Rt} (ha : RtGood a) (hb : RtGood b) :
    firstNZ [csgn b.2.2.2.1 a.2.2.2.1, pcmp a.2.2.1 b.2.2.1, cmpOk a.1 a.2.1 b.1 b.2.1, csgn a.2.2.2.2.length b.2.2.2.2.length, cmpG a.2.2.2.2 b.2.2.2.2] = rtCmp0 a b := by
  have hm : lcmp a.2.2.2.2 b.2.2.2.2 = firstNZ [csgn a.2.2.2.2.length b.2.2.2.2.length, cmpG a.2.2.2.2 b.2.2.2.2] := by
    unfold lcmp csgn
    simp only [firstNZ]
    repeat' split
    all_goals first | rfl | omega | skip
    all_goals first | (rw [cmpG_same (by omega)]; done) | (have := cmpG_same (L := a.2.2.2.2) (M := b.2.2.2.2) (by omega); omega)
  rw [pcmp_yes ha.path hb.path]
  rw [show cmpOk a.1 a.2.1 b.1 b.2.1 = cmpI a.1 a.2.1 b.1 b.2.1 by simp [cmpOk, ha.ran, hb.ran]]
  unfold rtCmp0
  rw [hm]
  simp only [firstNZ, csgn]
  repeat' split
  all_goals first | rfl | omega

/-! the best -/
/-- no other one is better; none ahead of it is the same -/
def IsBest (l : List Rt) (k : Nat) : Prop := ∃ r, l[k]? = some r ∧ (∀ (j : Nat) x, l[j]? = some x → rtCmp0 x r ≠ -1) ∧ ∀ (j : Nat) x, j < k → l[j]? = some x → x ≠ r
def BestIs (l : List Rt) (z : Int) : Prop := (l ≠ [] ∧ (∀ r ∈ l, rtOk r = true) ∧ ∃ k, z = (k : Nat) ∧ IsBest l k) ∨ ((l = [] ∨ ∃ r ∈ l, rtOk r = false) ∧ z = -1)
theorem IsBest.same {l : List Rt} {k k' : Nat} (h : IsBest l k) (h' : IsBest l k') : k = k' := by
  obtain ⟨r, h1, h2, h3⟩ := h
  obtain ⟨r', h1', h2', h3'⟩ := h'
  have e : r = r' := by
    have a := h2 _ _ h1'
    have b := h2' _ _ h1
    have n := rtCmp0_neg r r'
    rcases rtCmp0_vals r r' with c | c | c
    · exact (b c).elim
    · exact (rtCmp0_zero _ _).1 c
    · exact (a (by rw [n, c])).elim
  subst e
  rcases Nat.lt_trichotomy k k' with c | c | c
  · exact (h3' _ _ c h1 rfl).elim
  · exact c
  · exact (h3 _ _ c h1' rfl).elim
theorem BestIs.same {l : List Rt} {z z' : Int} (h : BestIs l z) (h' : BestIs l z') : z = z' := by
  rcases h with ⟨a, b, k, rfl, c⟩ | ⟨a, rfl⟩
  · rcases h' with ⟨_, _, k', rfl, c'⟩ | ⟨a', rfl⟩
    · rw [c.same c']
    · rcases a' with a' | ⟨r, hr, e⟩
      · exact (a a').elim
      · rw [b r hr] at e; cases e
  · rcases h' with ⟨b, c, _⟩ | ⟨_, rfl⟩
    · rcases a with a | ⟨r, hr, e⟩
      · exact (b a).elim
      · rw [c r hr] at e; cases e
    · rfl
/-- the best of the first n -/
def BestU (l : List Rt) (n k : Nat) : Prop := ∃ r, l[k]? = some r ∧ k < n ∧ (∀ (j : Nat) x, j < n → l[j]? = some x → rtCmp0 x r ≠ -1) ∧ ∀ (j : Nat) x, j < k → l[j]? = some x → x ≠ r
theorem BestU.all {l : List Rt} {k : Nat} (h : BestU l l.length k) : IsBest l k := by
  obtain ⟨r, h1, _, h2, h3⟩ := h
  exact ⟨r, h1, fun j x hj => h2 j x (List.getElem?_eq_some_iff.1 hj).1 hj, h3⟩
theorem rt_self (r : Rt) : rtCmp0 r r = 0 := (rtCmp0_zero r r).2 rfl
theorem BestU.one {l : List Rt} {r : Rt} (h : l[0]? = some r) : BestU l 1 0 := ⟨r, h, by omega, fun j x hj hx => by
  obtain rfl : j = 0 := by omega
  rw [h] at hx; cases hx; rw [rt_self]; simp, fun j x hj => by omega⟩
theorem BestU.stay {l : List Rt} {n k : Nat} {r x : Rt} (h : BestU l n k) (hr : l[k]? = some r) (hx : l[n]? = some x) (hc : rtCmp0 x r ≠ -1) : BestU l (n + 1) k := by
  obtain ⟨r', h1, h2, h3, h4⟩ := h
  obtain rfl : r = r' := by rw [hr] at h1; simpa using h1
  refine ⟨r, h1, by omega, fun j y hj hy => ?_, h4⟩
  by_cases e : j = n
  · subst e; rw [hx] at hy; cases hy; exact hc
  · exact h3 j y (by omega) hy
theorem BestU.turn {l : List Rt} {n k : Nat} {r x : Rt} (h : BestU l n k) (hr : l[k]? = some r) (hx : l[n]? = some x) (hc : rtCmp0 x r = -1) : BestU l (n + 1) n := by
  obtain ⟨r', h1, h2, h3, h4⟩ := h
  obtain rfl : r = r' := by rw [hr] at h1; simpa using h1
  have lt : ∀ (j : Nat) y, j < n → l[j]? = some y → rtCmp0 x y = -1 := fun j y hj hy => by
    have := h3 j y hj hy
    rcases rtCmp0_vals y r with c | c | c
    · exact (this c).elim
    · rw [(rtCmp0_zero y r).1 c]; exact hc
    · exact rtCmp0_trans hc (by rw [rtCmp0_neg, c])
  refine ⟨x, hx, by omega, fun j y hj hy => ?_, fun j y hj hy e => ?_⟩
  · by_cases e : j = n
    · subst e; rw [hx] at hy; cases hy; rw [rt_self]; simp
    · have := lt j y (by omega) hy
      rw [rtCmp0_neg, this]; simp
  · have := lt j y hj hy
    rw [e, rt_self] at this; cases this

/-! places in a heap -/
/-- the route at one place is better than that at another one, or the same and ahead -/
def hless (l : List Rt) (i j : Nat) : Bool := decide (rtCmp0 (l.getD i zRt) (l.getD j zRt) = -1 ∨ rtCmp0 (l.getD i zRt) (l.getD j zRt) = 0 ∧ i < j)
theorem hless_iff (l : List Rt) (i j : Nat) : hless l i j = true ↔ rtCmp0 (l.getD i zRt) (l.getD j zRt) = -1 ∨ rtCmp0 (l.getD i zRt) (l.getD j zRt) = 0 ∧ i < j := by simp [hless]
theorem hless_irr (l : List Rt) (i : Nat) : hless l i i = false := by
  rw [← Bool.not_eq_true, hless_iff, rt_self]; omega
theorem hless_past {l : List Rt} {x p r : Nat} (h1 : hless l x r = true) (h2 : hless l p r = false) : hless l x p = true := by
  rw [← Bool.not_eq_true] at h2
  rw [hless_iff] at *
  rcases rtCmp0_vals (l.getD p zRt) (l.getD r zRt) with c | c | c
  · exact (h2 (.inl c)).elim
  · have e := (rtCmp0_zero _ _).1 c
    rw [e]
    omega
  · have c' : rtCmp0 (l.getD r zRt) (l.getD p zRt) = -1 := by rw [rtCmp0_neg, c]
    rcases h1 with h1 | ⟨h1, _⟩
    · exact .inl (rtCmp0_trans h1 c')
    · rw [(rtCmp0_zero _ _).1 h1]; exact .inl c'
/-- none of these is less -/
def hmin (l : List Rt) (K : List Nat) (r : Nat) : Prop := ∀ k ∈ K, hless l k r = false
theorem hmin_best {l : List Rt} {K : List Nat} {r : Nat} (hr : r < l.length) (h : hmin l K r) (hK : ∀ k, k < l.length → k ∈ K) : IsBest l r := by
  have g : ∀ (j : Nat) (x : Rt), l[j]? = some x → l.getD j zRt = x := fun j x hx => by simp [List.getD, hx]
  have er : l[r]? = some l[r] := List.getElem?_eq_getElem hr
  refine ⟨l[r], er, fun j x hj c => ?_, fun j x hlt hj e => ?_⟩
  · have := h j (hK j (List.getElem?_eq_some_iff.1 hj).1)
    rw [← Bool.not_eq_true, hless_iff, g j x hj, g r _ er] at this
    exact this (.inl c)
  · have := h j (hK j (List.getElem?_eq_some_iff.1 hj).1)
    rw [← Bool.not_eq_true, hless_iff, g j x hj, g r _ er] at this
    exact this (.inr ⟨by rw [e, rt_self], hlt⟩)
end Go.Proofs.YtnnmgbgkgnejlaaDoor

/-
  Clauses and policies: which are valid, what they make of routes (no program here).
-/
namespace Go.Proofs.YtnnmgbgkgnejlaaDoor

/-- a clause: kind, number, first address, bits, does it refuse, like, mark, clear -/
structure CL where
  i : Int
  n : Int
  f : Int
  b : Int
  x : Bool
  l : Int
  m : Int
  k : Int
deriving DecidableEq
def zCL : CL := ⟨0, 0, 0, 0, false, 0, 0, 0⟩
instance : Inhabited CL := ⟨zCL⟩
def noR (f b : Int) : Bool := decide (f = 0) && decide (b = 0)
theorem noR_iff (f b : Int) : noR f b = true ↔ f = 0 ∧ b = 0 := by simp [noR]
/-- what its condition says -/
def condOk (c : CL) : Bool :=
  if c.i = 1 then noR c.f c.b && decide (c.n = 0)
  else if c.i = 2 then okB c.f c.b && decide (c.n = 0)
  else if c.i = 3 then noR c.f c.b && isM c.n
  else if c.i = 4 then noR c.f c.b && isH c.n
  else if c.i = 5 then noR c.f c.b && isH c.n
  else false
def isM0 (m : Int) : Bool := decide (0 ≤ m ∧ m ≤ 9)
theorem isM0_iff (m : Int) : isM0 m = true ↔ 0 ≤ m ∧ m ≤ 9 := by simp [isM0]
def doOk (c : CL) : Bool := decide (-1 ≤ c.l ∧ c.l ≤ 9) && isM0 c.m && isM0 c.k
def clOk (c : CL) : Bool := condOk c && doOk c
structure ClGood (c : CL) : Prop where
  kind : c.i = 1 ∨ c.i = 2 ∨ c.i = 3 ∨ c.i = 4 ∨ c.i = 5
  range : c.i ≠ 2 → c.f = 0 ∧ c.b = 0
  num : c.i = 2 → c.n = 0
  ran2 : c.i = 2 → okB c.f c.b = true
  like : -1 ≤ c.l ∧ c.l ≤ 9
  mark : 0 ≤ c.m ∧ c.m ≤ 9
  clear : 0 ≤ c.k ∧ c.k ≤ 9
theorem clOk_good {c : CL} (h : clOk c = true) : ClGood c := by
  simp only [clOk, doOk, Bool.and_eq_true, decide_eq_true_eq, isM0_iff] at h
  obtain ⟨h1, ⟨h2, h3⟩, h4⟩ := h
  unfold condOk at h1
  refine ⟨?_, ?_, ?_, ?_, h2, h3, h4⟩
  all_goals (repeat' split at h1)
  all_goals first | (simp at h1; done) | (simp only [Bool.and_eq_true, noR_iff, decide_eq_true_eq] at h1; first | omega | (intro h; omega) | (intro _; exact h1.1))

/-- does a route fit -/
def fitsC (c : CL) (r : Rt) : Bool :=
  if c.i = 2 then inB r.1 r.2.1 c.f c.b
  else if c.i = 3 then decide (c.n ∈ r.2.2.2.2)
  else if c.i = 4 then decide (c.n ∈ r.2.2.1)
  else if c.i = 5 then decide ((r.2.2.1.length : Int) ≤ c.n)
  else true
def clFits (c : CL) (r : Rt) : Bool := clOk c && rtOk r && fitsC c r
def polOk (p : List CL) : Bool := decide (p.length ≤ 5) && p.all clOk
theorem polOk_iff (p : List CL) : polOk p = true ↔ p.length ≤ 5 ∧ ∀ c ∈ p, clOk c = true := by simp [polOk]
theorem polOk_len {p : List CL} (h : ¬ p.length ≤ 5) : polOk p = false := by simp [polOk, h]
theorem polOk_bad {p : List CL} {c : CL} (h : c ∈ p) (hc : clOk c = false) : polOk p = false := by
  rw [← Bool.not_eq_true, polOk_iff]; intro k; have := k.2 c h; rw [hc] at this; cases this

/-- what a clause makes of a route that fits -/
def likeC (c : CL) (l : Int) : Int := if c.l = -1 then l else c.l
def markC (c : CL) (M : List Int) : List Int := if c.m = 0 then M else mins M c.m
def clearC (c : CL) (M : List Int) : List Int := if c.k = 0 then M else mdel M c.k
def makeC (c : CL) (r : Rt) : Rt := (r.1, r.2.1, r.2.2.1, likeC c r.2.2.2.1, clearC c (markC c r.2.2.2.2))
def applyC (c : CL) (r : Rt) : Rt × Bool := if c.x then (zRt, false) else (makeC c r, true)
/-- the first clause that fits counts -/
def firstC : List CL → Rt → Rt × Bool
  | [], _ => (zRt, false)
  | c :: p, r => if fitsC c r then applyC c r else firstC p r
def polDo (p : List CL) (r : Rt) : Rt × Bool := if polOk p && rtOk r then firstC p r else (zRt, false)
theorem polDo_no1 {p : List CL} {r : Rt} (h : polOk p = false) : polDo p r = (zRt, false) := by simp [polDo, h]
theorem polDo_no2 {p : List CL} {r : Rt} (h : rtOk r = false) : polDo p r = (zRt, false) := by simp [polDo, h]
theorem polDo_yes {p : List CL} {r : Rt} (h : polOk p = true) (h2 : rtOk r = true) : polDo p r = firstC p r := by simp [polDo, h, h2]
theorem firstC_hit {p : List CL} {k : Nat} {c : CL} {r : Rt} (hk : p[k]? = some c) (hf : fitsC c r = true) (h : ∀ j d, j < k → p[j]? = some d → fitsC d r = false) : firstC p r = applyC c r := by
  induction p generalizing k with
  | nil => simp at hk
  | cons d p ih =>
    cases k with
    | zero => simp at hk; subst hk; simp [firstC, hf]
    | succ k =>
      have hd := h 0 d (by omega) rfl
      rw [firstC, if_neg (by simp [hd])]
      exact ih (by simpa using hk) (fun j e hj he => h (j + 1) e (by omega) (by simpa using he))
theorem firstC_miss {p : List CL} {r : Rt} (h : ∀ (j : Nat) d, p[j]? = some d → fitsC d r = false) : firstC p r = (zRt, false) := by
  induction p with
  | nil => rfl
  | cons d p ih =>
    rw [firstC, if_neg (by simp [h 0 d rfl])]
    exact ih (fun j e he => h (j + 1) e (by simpa using he))
theorem firstC_is {p : List CL} {r : Rt} : (firstC p r = (zRt, false)) ∨ ∃ c ∈ p, fitsC c r = true ∧ firstC p r = (makeC c r, true) := by
  induction p with
  | nil => exact .inl rfl
  | cons d p ih =>
    rw [firstC]
    by_cases h : fitsC d r = true
    · rw [if_pos h]
      unfold applyC
      by_cases hx : d.x
      · left; simp [hx]
      · right; exact ⟨d, by simp, h, by simp [hx]⟩
    · rw [if_neg h]
      rcases ih with k | ⟨c, h1, h2, h3⟩
      · exact .inl k
      · exact .inr ⟨c, by simp [h1], h2, h3⟩
theorem makeC_good {c : CL} {r : Rt} (hc : ClGood c) (hr : RtGood r) : RtGood (makeC c r) := by
  have hM : Marks (markC c r.2.2.2.2) := by
    unfold markC
    split
    · exact hr.marks
    · exact hr.marks.mins (by have := hc.mark; omega)
  have hK : Marks (clearC c (markC c r.2.2.2.2)) := by
    unfold clearC
    split
    · exact hM
    · exact hM.mdel
  refine ⟨hr.ran, hr.path, hr.some, ?_, hK⟩
  show 0 ≤ likeC c r.2.2.2.1 ∧ likeC c r.2.2.2.1 ≤ 9
  unfold likeC
  have h1 := hc.like
  have h2 := hr.like
  split <;> omega
theorem polDo_len (p : List CL) (r : Rt) : (polDo p r).1.2.2.1.length ≤ 5 ∧ (polDo p r).1.2.2.2.2.length ≤ 10 := by
  unfold polDo
  split
  · rename_i h
    simp only [Bool.and_eq_true] at h
    have hp := (polOk_iff p).1 h.1
    have hr := (rtOk_iff r).1 h.2
    rcases firstC_is (p := p) (r := r) with e | ⟨c, h1, h2, e⟩
    · rw [e]; simp [zRt]
    · rw [e]
      have hg := makeC_good (clOk_good (hp.2 c h1)) hr
      exact ⟨hg.path.len, Nat.le_trans hg.marks.len (by omega)⟩
  · simp [zRt]
/-- routes are taken one by one -/
def takeC (p : List CL) (l : List Rt) : List Rt := l.filterMap fun r => if (firstC p r).2 then some (firstC p r).1 else none
def polAll (p : List CL) (l : List Rt) : List Rt := if polOk p && l.all rtOk then takeC p l else []
theorem polAll_no1 {p : List CL} {l : List Rt} (h : polOk p = false) : polAll p l = [] := by simp [polAll, h]
theorem polAll_no2 {p : List CL} {l : List Rt} {r : Rt} (h : r ∈ l) (hr : rtOk r = false) : polAll p l = [] := by
  have : l.all rtOk = false := by
    rw [← Bool.not_eq_true, List.all_eq_true]; intro k; have := k r h; rw [hr] at this; cases this
  simp [polAll, this]
theorem polAll_yes {p : List CL} {l : List Rt} (h : polOk p = true) (hl : ∀ r ∈ l, rtOk r = true) : polAll p l = takeC p l := by
  have : l.all rtOk = true := List.all_eq_true.2 hl
  simp [polAll, h, this]
theorem takeC_snoc (p : List CL) (l : List Rt) (r : Rt) : takeC p (l ++ [r]) = takeC p l ++ (if (firstC p r).2 then [(firstC p r).1] else []) := by
  unfold takeC
  rw [List.filterMap_append]
  congr 1
  by_cases h : (firstC p r).2 = true
  · simp [h]
  · simp [h]
theorem takeC_len (p : List CL) (l : List Rt) : (takeC p l).length ≤ l.length := List.length_filterMap_le _ _
theorem takeC_good {p : List CL} {l : List Rt} (hp : polOk p = true) (hl : ∀ r ∈ l, rtOk r = true) : ∀ x ∈ takeC p l, RtGood x := fun x hx => by
  obtain ⟨r, hr, he⟩ := List.mem_filterMap.1 hx
  rcases firstC_is (p := p) (r := r) with e | ⟨c, h1, h2, e⟩
  · rw [e] at he; simp at he
  · rw [e] at he
    simp at he
    subst he
    exact makeC_good (clOk_good (((polOk_iff p).1 hp).2 c h1)) ((rtOk_iff r).1 (hl r hr))
theorem polAll_good (p : List CL) (l : List Rt) : ∀ x ∈ polAll p l, RtGood x := by
  unfold polAll
  split
  · rename_i h
    simp only [Bool.and_eq_true, List.all_eq_true] at h
    exact takeC_good h.1 h.2
  · intro x hx; cases hx
theorem polAll_len (p : List CL) (l : List Rt) : (polAll p l).length ≤ l.length := by
  unfold polAll
  split
  · exact takeC_len p l
  · simp
/-- what a policy of likes makes is made again -/
theorem clearC_self {c : CL} {M : List Int} (h : Marks M) (hc : ClGood c) : clearC c (markC c (clearC c (markC c M))) = clearC c (markC c M) := by
  have hM : Marks (markC c M) := by
    unfold markC
    split
    · exact h
    · exact h.mins (by have := hc.mark; omega)
  have hK : Marks (clearC c (markC c M)) := by
    unfold clearC
    split
    · exact hM
    · exact hM.mdel
  by_cases hm : c.m = 0
  · by_cases hk : c.k = 0
    · simp [clearC, markC, hm, hk]
    · simp only [clearC, markC, hm, hk, if_true, if_false]
      exact mdel_none (fun e => (mem_mdel.1 e).1 rfl)
  · by_cases hk : c.k = 0
    · simp only [clearC, markC, hm, hk, if_true, if_false]
      exact mins_there (h.mins (by have := hc.mark; omega)).2 (mem_mins.2 (.inl rfl))
    · simp only [clearC, markC, hm, hk, if_false] at hK ⊢
      refine asc_ext (hK.mins (by have := hc.mark; omega)).mdel.2 hK.2 (fun x => ?_)
      simp only [mem_mdel, mem_mins]
      constructor
      · rintro ⟨h1, h2⟩
        refine ⟨h1, ?_⟩
        rcases h2 with h2 | h2
        · exact .inl h2
        · exact h2.2
      · rintro ⟨h1, h2⟩
        exact ⟨h1, .inr ⟨h1, h2⟩⟩
theorem makeC_self {c : CL} {r : Rt} (hr : RtGood r) (hc : ClGood c) : makeC c (makeC c r) = makeC c r := by
  unfold makeC
  dsimp only
  rw [clearC_self hr.marks hc]
  unfold likeC
  split <;> simp_all
theorem fitsC_make {c d : CL} {r : Rt} (h : d.i ≠ 3) : fitsC d (makeC c r) = fitsC d r := by
  unfold fitsC makeC
  simp [h]
theorem firstC_pick {p : List CL} {r : Rt} {u : Rt} (hf : firstC p r = (u, true)) : ∃ d ∈ p, u = makeC d r ∧ d.x = false ∧ ∀ r', (∀ e ∈ p, fitsC e r' = fitsC e r) → firstC p r' = applyC d r' := by
  induction p with
  | nil => simp [firstC] at hf
  | cons d p ih =>
    rw [firstC] at hf
    by_cases h : fitsC d r = true
    · rw [if_pos h] at hf
      unfold applyC at hf
      by_cases hx : d.x = true
      · simp [hx] at hf
      · simp [hx] at hf
        exact ⟨d, by simp, hf.symm, by simpa using hx, fun r' hr' => by rw [firstC, if_pos (by rw [hr' d (by simp)]; exact h)]⟩
    · rw [if_neg h] at hf
      obtain ⟨e, h1, h2, h3, h4⟩ := ih hf
      exact ⟨e, by simp [h1], h2, h3, fun r' hr' => by
        rw [firstC, if_neg (by rw [hr' d (by simp)]; exact h)]
        exact h4 r' (fun q hq => hr' q (by simp [hq]))⟩
theorem polDo_twice {p : List CL} {r u : Rt} (hp : polOk p = true) (hr : rtOk r = true) (h : polDo p r = (u, true)) (hn : ∀ d ∈ p, d.i ≠ 3) : polDo p u = (u, true) := by
  rw [polDo_yes hp hr] at h
  have hg : ∀ d ∈ p, ClGood d := fun d hd => clOk_good (((polOk_iff p).1 hp).2 d hd)
  obtain ⟨d, h1, rfl, h3, h4⟩ := firstC_pick h
  have hR := (rtOk_iff r).1 hr
  rw [polDo_yes hp ((rtOk_iff _).2 (makeC_good (hg d h1) hR)), h4 _ (fun e he => fitsC_make (hn e he)), applyC, h3, makeC_self hR (hg d h1)]
  rfl
theorem polDo_good {p : List CL} {r u : Rt} (h : polDo p r = (u, true)) : u.1 = r.1 ∧ u.2.1 = r.2.1 ∧ u.2.2.1 = r.2.2.1 ∧ rtOk u = true := by
  unfold polDo at h
  split at h
  · rename_i hh
    simp only [Bool.and_eq_true] at hh
    obtain ⟨d, h1, rfl, h3, h4⟩ := firstC_pick h
    exact ⟨rfl, rfl, rfl, (rtOk_iff _).2 (makeC_good (clOk_good (((polOk_iff p).1 hh.1).2 d h1)) ((rtOk_iff r).1 hh.2))⟩
  · simp at h
theorem firstC_app {p q : List CL} {r : Rt} (h : ∀ (j : Nat) d, p[j]? = some d → fitsC d r = false) : firstC (p ++ q) r = firstC q r := by
  induction p with
  | nil => rfl
  | cons d p ih =>
    rw [List.cons_append, firstC, if_neg (by simp [h 0 d rfl])]
    exact ih (fun j e he => h (j + 1) e (by simpa using he))
theorem firstC_left {p q : List CL} {k : Nat} {c : CL} {r : Rt} (hk : p[k]? = some c) (hf : fitsC c r = true) : firstC (p ++ q) r = firstC p r := by
  induction p generalizing k with
  | nil => simp at hk
  | cons d p ih =>
    rw [List.cons_append, firstC, firstC]
    by_cases h : fitsC d r = true
    · rw [if_pos h, if_pos h]
    · rw [if_neg h, if_neg h]
      cases k with
      | zero => simp at hk; subst hk; exact (h hf).elim
      | succ k => exact ih (by simpa using hk)
end Go.Proofs.YtnnmgbgkgnejlaaDoor

/-
  The reader of drawn bytes (the model's l6Rd): what it holds, and what one pick does: a number below the bound, whatever the bytes.
-/
namespace Go.Proofs.YtnnmgbgkgnejlaaDoor
open Go.RowKit
set_option linter.unusedSimpArgs false

/-- a slice of bytes that came in: nil, or a row of cells -/
def IsRow (w : World) (a : Option Addr) (len cap : Nat) (zs : List Int) : Prop :=
  (a = none ∧ len = 0 ∧ cap = 0 ∧ zs = []) ∨
  ∃ x, a = some x ∧ len ≤ cap ∧ cap ≤ maxLen ∧ zs.length = cap ∧ (∀ i, i < zs.length → w.cell? (x.add i) = some (.int .u8 (zs.getD i 0))) ∧ ∀ n ∈ zs, (Lit.int .u8 n).wf = true

/-- the bytes of a reader whose own block is B -/
def Bytes (w : World) (B : Nat) (a : Option Addr) (len : Nat) (z : Nat → Int) : Prop :=
  len = 0 ∨ ∃ b off, a = some ⟨b, off, none⟩ ∧ b < B ∧ (∀ i, i < len → w.cell? ⟨b, off + i, none⟩ = some (.int .u8 (z i))) ∧ ∀ i, 0 ≤ z i ∧ z i ≤ 255

/-- a reader lies in block B, at place p -/
def Rd (w : World) (B : Nat) (p : Nat) : Prop :=
  ∃ (a : Option Addr) (len cap : Nat) (z : Nat → Int), w.cell? ⟨B, 0, none⟩ = some (.slice a len cap) ∧ w.cell? ⟨B, 1, none⟩ = some (.int .i64 (p : Int)) ∧
    w.frozen? ⟨B, 1, none⟩ = false ∧ p ≤ 1000000 ∧ len ≤ 2000 ∧ Bytes w B a len z

/-- a pick's outcome -/
def Picked (n : Int) (w : World) (B p : Nat) (e : Ending) (w' : World) : Prop :=
  ∃ x : Int, 0 ≤ x ∧ x < n ∧ e = .returned (.int .i64 x) ∧ Rd w' B (p + 1) ∧ w.grownBy w' (some B)

theorem only_setCell (w : World) (B o : Nat) (v : Value) : w.grownBy (w.setCell ⟨B, o, none⟩ v) (some B) :=
  ⟨rfl, rfl, rfl, by simp [World.setCell], fun i _ hne => Below.heap_setCell w ⟨B, o, none⟩ v i (fun e => hne (by rw [e]))⟩
theorem only_drewN {a w : World} {row : Option Nat} (h : a.grownBy w row) (n : Nat) : a.grownBy (w.drewN n) row := ⟨h.os, h.tape, h.output, h.size, h.block⟩

theorem picked_of {n x : Int} {w w' : World} {B p : Nat} (h0 : 0 ≤ x) (h1 : x < n) (hr : Rd w' B (p + 1)) (hg : w.grownBy w' (some B)) : Picked n w B p (.returned (.int .i64 x)) w' :=
  ⟨x, h0, h1, rfl, hr, hg⟩

/-- 'x ^ y' of two numbers that are not negative is not negative -/
theorem xor_i64 (x y : Int) (h1 : 0 ≤ x) (h2 : x < 4611686018427387904) (h3 : 0 ≤ y) (h4 : y < 4611686018427387904) : 0 ≤ bits .xor .i64 x y := by
  obtain ⟨a, rfl⟩ := Int.eq_ofNat_of_zero_le h1
  obtain ⟨b, rfl⟩ := Int.eq_ofNat_of_zero_le h3
  have hx : a ^^^ b < 2 ^ 62 := Nat.xor_lt_two_pow (by omega) (by omega)
  have e1 : (BitVec.ofInt 64 (a : Int)).toNat = a := by
    rw [BitVec.ofInt_natCast, BitVec.toNat_ofNat]; exact Nat.mod_eq_of_lt (by omega)
  have e2 : (BitVec.ofInt 64 (b : Int)).toNat = b := by
    rw [BitVec.ofInt_natCast, BitVec.toNat_ofNat]; exact Nat.mod_eq_of_lt (by omega)
  show 0 ≤ IntKind.i64.wrap ((BitVec.ofInt 64 (a : Int) ^^^ BitVec.ofInt 64 (b : Int)).toNat : Int)
  rw [BitVec.toNat_xor, e1, e2]
  simp [IntKind.wrap, IntKind.bits, IntKind.signed]
  omega

/-- behind 'r.p = r.p + 1' -/
theorem rd_step {w : World} {B p : Nat} {a : Option Addr} {len cap : Nat} {z : Nat → Int} (c0 : w.cell? ⟨B, 0, none⟩ = some (.slice a len cap)) (c1 : w.cell? ⟨B, 1, none⟩ = some (.int .i64 (p : Int)))
    (hf : w.frozen? ⟨B, 1, none⟩ = false) (hp : p < 1000000) (hl : len ≤ 2000) (hz : Bytes w B a len z) : Rd (w.setCell ⟨B, 1, none⟩ (.int .i64 ((p : Int) + 1))) B (p + 1) := by
  refine ⟨a, len, cap, z, ?_, ?_, ?_, hp, hl, ?_⟩
  · rw [World.cell?_setCell_other _ _ _ _ (by simp)]; exact c0
  · rw [World.cell?_setCell_same' _ _ _ (by rw [c1]; rfl)]; simp
  · rw [World.frozen?_setCell]; exact hf
  · rcases hz with h | ⟨b, off, rfl, hb, hc, hbd⟩
    · exact .inl h
    · refine .inr ⟨b, off, rfl, hb, fun i hi => ?_, hbd⟩
      rw [World.cell?_setCell_far _ _ _ _ (Nat.ne_of_gt hb)]
      exact hc i hi
theorem rd_alloc {w : World} {B p : Nat} (h : Rd w B p) (o : Obj) : Rd (w.alloc o) B p := by
  obtain ⟨a, len, cap, z, c0, c1, hf, hp, hl, hz⟩ := h
  have hB : B < w.heap.size := World.block_lt_of_cell? w _ c0
  refine ⟨a, len, cap, z, ?_, ?_, ?_, hp, hl, ?_⟩
  · rw [World.cell?_alloc_lt _ _ _ hB]; exact c0
  · rw [World.cell?_alloc_lt _ _ _ hB]; exact c1
  · rw [World.frozen?_of_block (Below.heap_alloc w o B hB)]; exact hf
  · rcases hz with h | ⟨b, off, rfl, hb, hc, hbd⟩
    · exact .inl h
    · exact .inr ⟨b, off, rfl, hb, fun i hi => by rw [World.cell?_alloc_lt _ _ _ (show b < w.heap.size by omega)]; exact hc i hi, hbd⟩
theorem rd_set {w : World} {B p : Nat} (h : Rd w B p) (q : Addr) (v : Value) (hq : B < q.block) : Rd (w.setCell q v) B p := by
  obtain ⟨a, len, cap, z, c0, c1, hf, hp, hl, hz⟩ := h
  refine ⟨a, len, cap, z, ?_, ?_, ?_, hp, hl, ?_⟩
  · rw [World.cell?_setCell_far _ _ _ _ (Nat.ne_of_gt hq)]; exact c0
  · rw [World.cell?_setCell_far _ _ _ _ (Nat.ne_of_gt hq)]; exact c1
  · rw [World.frozen?_setCell]; exact hf
  · rcases hz with h | ⟨b, off, rfl, hb, hc, hbd⟩
    · exact .inl h
    · exact .inr ⟨b, off, rfl, hb, fun i hi => by rw [World.cell?_setCell_far _ _ _ _ (show q.block ≠ b by omega)]; exact hc i hi, hbd⟩
theorem rd_lt {w : World} {B p : Nat} (h : Rd w B p) : B < w.heap.size := by
  obtain ⟨a, len, cap, z, c0, _⟩ := h
  exact World.block_lt_of_cell? w _ c0
/-- a world in which only new blocks were laid, and old ones kept, holds the reader as it was -/
theorem rd_below {w w' : World} {B p : Nat} (h : Rd w B p) (hb : Below w.heap.size w w') : Rd w' B p := by
  have hB := rd_lt h
  obtain ⟨a, len, cap, z, c0, c1, hf, hp, hl, hz⟩ := h
  refine ⟨a, len, cap, z, cell_later hb c0, cell_later hb c1, by rw [hb.frozen (p := ⟨B, 1, none⟩) hB]; exact hf, hp, hl, ?_⟩
  rcases hz with h | ⟨b, off, rfl, hb', hc, hbd⟩
  · exact .inl h
  · exact .inr ⟨b, off, rfl, hb', fun i hi => cell_later hb (hc i hi), hbd⟩
theorem only_alloc {a w : World} {row : Option Nat} (h : a.grownBy w row) (o : Obj) : a.grownBy (w.alloc o) row :=
  ⟨h.os, h.tape, h.output, Nat.le_trans h.size (by simp), fun i hi hne => (Below.heap_alloc w o i (Nat.lt_of_lt_of_le hi h.size)).trans (h.block i hi hne)⟩
theorem only_new {a w : World} {row : Option Nat} (h : a.grownBy w row) (q : Addr) (hq : a.heap.size ≤ q.block) (v : Value) : a.grownBy (w.setCell q v) row :=
  ⟨h.os, h.tape, h.output, by simpa [World.setCell] using h.size, fun i hi hne => (Below.heap_setCell w q v i (by omega)).trans (h.block i hi hne)⟩
theorem only_drew {a w : World} {row : Option Nat} (h : a.grownBy w row) : a.grownBy w.drew row := ⟨h.os, h.tape, h.output, h.size, h.block⟩
theorem only_on {a b c : World} {row : Option Nat} (h : a.grownBy b row) (k : b.grownBy c row) : a.grownBy c row :=
  ⟨k.os.trans h.os, k.tape.trans h.tape, k.output.trans h.output, Nat.le_trans h.size k.size, fun i hi hne => (k.block i (Nat.lt_of_lt_of_le hi h.size) hne).trans (h.block i hi hne)⟩
theorem only_below {a b c : World} {row : Option Nat} (h : a.grownBy b row) (k : Below b.heap.size b c) : a.grownBy c row :=
  only_on h ⟨k.os, k.tape, k.output, k.size, fun i hi _ => k.block i hi⟩
theorem cellA {w : World} {a : Addr} {v : Value} (h : w.cell? a = some v) (o : Obj) : (w.alloc o).cell? a = some v := by
  rw [World.cell?_alloc_lt _ _ _ (World.block_lt_of_cell? w _ h)]; exact h
theorem frozA {w : World} {a : Addr} {v : Value} (h : w.cell? a = some v) (hf : w.frozen? a = false) (o : Obj) : (w.alloc o).frozen? a = false := by
  rw [World.frozen?_of_block (Below.heap_alloc _ _ _ (World.block_lt_of_cell? w _ h))]; exact hf
/-- a cell of another block stays -/
theorem only_cell {w w' : World} {B b o : Nat} {v : Value} (hg : w.grownBy w' (some B)) (h : w.cell? ⟨b, o, none⟩ = some v) (hne : b ≠ B) : w'.cell? ⟨b, o, none⟩ = some v :=
  hg.cell h (fun e => hne (by simpa using e))
theorem only_frozen {w w' : World} {B b o : Nat} {v : Value} (hg : w.grownBy w' (some B)) (h : w.cell? ⟨b, o, none⟩ = some v) (hf : w.frozen? ⟨b, o, none⟩ = false) (hne : b ≠ B) : w'.frozen? ⟨b, o, none⟩ = false :=
  (World.frozen?_of_block (hg.block b (World.block_lt_of_cell? w _ h) (fun e => hne (by simpa using e)))).trans hf
theorem rd_drew {w : World} {B p : Nat} (h : Rd w B p) : Rd w.drew B p := h
theorem rd_drewN {w : World} {B p : Nat} (h : Rd w B p) (n : Nat) : Rd (w.drewN n) B p := h

set_option maxHeartbeats 400000 in
theorem pick_nil (n : Int) (w : World) (B p : Nat) (hn : 1 ≤ n) (hp : p < 1000000) (a : Option Addr) (cap : Nat) (z : Nat → Int)
    (c0 : w.cell? ⟨B, 0, none⟩ = some (.slice a 0 cap)) (c1 : w.cell? ⟨B, 1, none⟩ = some (.int .i64 (p : Int))) (hf : w.frozen? ⟨B, 1, none⟩ = false) (hz : Bytes w B a 0 z) :
    Calls Tryd.prog 53 #[.pointer (some ⟨B, 0, none⟩), .int .i64 n] w (Picked n w B p) := by
  have HR := Lib.hid (rd_step c0 c1 hf hp (Nat.zero_le _) hz)
  clear hz
  go_enter Tryd.func53, Tryd.ntmps53
  go_wp2
  go_ret
  exact picked_of (by omega) (by omega) HR.out (only_setCell _ _ _ _)

set_option maxHeartbeats 400000 in
theorem pick_at (n : Int) (w : World) (B p : Nat) (hn : 1 ≤ n) (hp : p < 1000000) (b off len cap : Nat) (z : Nat → Int) (hl : len ≤ 2000) (hpl : p < len)
    (c0 : w.cell? ⟨B, 0, none⟩ = some (.slice (some ⟨b, off, none⟩) len cap)) (c1 : w.cell? ⟨B, 1, none⟩ = some (.int .i64 (p : Int))) (hf : w.frozen? ⟨B, 1, none⟩ = false)
    (hb : b < B) (hc : ∀ i, i < len → w.cell? ⟨b, off + i, none⟩ = some (.int .u8 (z i))) (hbd : ∀ i, 0 ≤ z i ∧ z i ≤ 255) :
    Calls Tryd.prog 53 #[.pointer (some ⟨B, 0, none⟩), .int .i64 n] w (Picked n w B p) := by
  have HR := Lib.hid (rd_step c0 c1 hf hp hl (.inr ⟨b, off, rfl, hb, hc, hbd⟩))
  have hci := hc p hpl
  obtain ⟨z0, z1⟩ := hbd p
  generalize z p = zp at hci z0 z1
  have hb' : ¬ B = b := by omega
  clear hc hbd hb
  have hl0 : ((len : Int) == 0) = false := by simp; omega
  go_enter Tryd.func53, Tryd.ntmps53
  go_wp2
  go_ret
  exact picked_of (Int.emod_nonneg _ (by omega)) (Int.emod_lt_of_pos _ (by omega)) HR.out (only_setCell _ _ _ _)

set_option maxRecDepth 100000 in
set_option maxHeartbeats 800000 in
theorem pick_mix (n : Int) (w : World) (B p : Nat) (hn : 1 ≤ n) (hp : p < 1000000) (b off len cap : Nat) (z : Nat → Int) (hl : len ≤ 2000) (hl1 : 1 ≤ len) (hpl : len ≤ p)
    (c0 : w.cell? ⟨B, 0, none⟩ = some (.slice (some ⟨b, off, none⟩) len cap)) (c1 : w.cell? ⟨B, 1, none⟩ = some (.int .i64 (p : Int))) (hf : w.frozen? ⟨B, 1, none⟩ = false)
    (hb : b < B) (hc : ∀ i, i < len → w.cell? ⟨b, off + i, none⟩ = some (.int .u8 (z i))) (hbd : ∀ i, 0 ≤ z i ∧ z i ≤ 255) :
    Calls Tryd.prog 53 #[.pointer (some ⟨B, 0, none⟩), .int .i64 n] w (Picked n w B p) := by
  have HR := Lib.hid (rd_step c0 c1 hf hp hl (.inr ⟨b, off, rfl, hb, hc, hbd⟩))
  have i1 : p % len < len := Nat.mod_lt _ (by omega)
  have i2 : (p * 7 + 3) % len < len := Nat.mod_lt _ (by omega)
  have h1 := hc _ i1
  have h2 := hc _ i2
  obtain ⟨y0, y1⟩ := hbd (p % len)
  obtain ⟨z0, z1⟩ := hbd ((p * 7 + 3) % len)
  have t1 : (p : Int).tmod (len : Int) = ((p % len : Nat) : Int) := by rw [Int.tmod_eq_emod_of_nonneg (by omega)]; simp
  have t2 : ((p : Int) * 7 + 3).tmod (len : Int) = (((p * 7 + 3) % len : Nat) : Int) := by rw [Int.tmod_eq_emod_of_nonneg (by omega)]; simp
  have t3 : (p : Int).tdiv (len : Int) = ((p / len : Nat) : Int) := by rw [Int.tdiv_eq_ediv_of_nonneg (by omega)]; simp
  have d1 : p / len ≤ p := Nat.div_le_self _ _
  generalize z (p % len) = y at h1 y0 y1
  generalize z ((p * 7 + 3) % len) = x at h2 z0 z1
  generalize p % len = j1 at *
  generalize (p * 7 + 3) % len = j2 at *
  generalize p / len = d at *
  have q0 : (w.setCell ⟨B, 1, none⟩ (.int .i64 ((p : Int) + 1))).cell? ⟨B, 0, none⟩ = some (.slice (some ⟨b, off, none⟩) len cap) := by rw [World.cell?_setCell_other _ _ _ _ (by simp)]; exact c0
  have q1 : (w.setCell ⟨B, 1, none⟩ (.int .i64 ((p : Int) + 1))).cell? ⟨b, off + j1, none⟩ = some (.int .u8 y) := by rw [World.cell?_setCell_far _ _ _ _ (Nat.ne_of_gt hb)]; exact h1
  have q2 : (w.setCell ⟨B, 1, none⟩ (.int .i64 ((p : Int) + 1))).cell? ⟨b, off + j2, none⟩ = some (.int .u8 x) := by rw [World.cell?_setCell_far _ _ _ _ (Nat.ne_of_gt hb)]; exact h2
  have Q := Lib.hid (And.intro q0 (And.intro q1 q2))
  clear q0 q1 q2 h1 h2
  have hb' : ¬ B = b := by omega
  clear hc hbd hb
  have hl0 : ((len : Int) == 0) = false := by simp; omega
  have hl3 : ¬ len = 0 := by omega
  have k1 : (0 : Int) ≤ j1 := by omega
  have k2 : (0 : Int) ≤ j2 := by omega
  have k3 : (j1 : Int) < len := by omega
  have k4 : (j2 : Int) < len := by omega
  have m1 : IntKind.i64.wrap ((p : Int) * 7) = (p : Int) * 7 := IntWalk.i64_in _ (by omega)
  have m2 : IntKind.i64.wrap ((p : Int) * 7 + 3) = (p : Int) * 7 + 3 := IntWalk.i64_in _ (by omega)
  have m3 : IntKind.i64.wrap (y * 131) = y * 131 := IntWalk.i64_in _ (by omega)
  have m4 : IntKind.i64.wrap (x * 1117) = x * 1117 := IntWalk.i64_in _ (by omega)
  have m5 : IntKind.i64.wrap (y * 131 + x * 1117) = y * 131 + x * 1117 := IntWalk.i64_in _ (by omega)
  have m6 : IntKind.i64.wrap ((p : Int) * 29) = (p : Int) * 29 := IntWalk.i64_in _ (by omega)
  have m7 : IntKind.i64.wrap (y * 131 + x * 1117 + (p : Int) * 29) = y * 131 + x * 1117 + (p : Int) * 29 := IntWalk.i64_in _ (by omega)
  have m8 : IntKind.i64.wrap ((d : Int) * 53) = (d : Int) * 53 := IntWalk.i64_in _ (by omega)
  have m9 : IntKind.i64.wrap (y * 131 + x * 1117 + (p : Int) * 29 + (d : Int) * 53) = y * 131 + x * 1117 + (p : Int) * 29 + (d : Int) * 53 := IntWalk.i64_in _ (by omega)
  go_enter Tryd.func53, Tryd.ntmps53
  go_wp2_with fail
  refine wp_region_held_drew (S := fun w' => w'.cell? ⟨B, 0, none⟩ = some (.slice (some ⟨b, off, none⟩) len cap) ∧ w'.cell? ⟨b, off + j1, none⟩ = some (.int .u8 y) ∧ w'.cell? ⟨b, off + j2, none⟩ = some (.int .u8 x)) (by kernel_rfl) ?_ (fun hHeld => ?_)
  · exact Q.out
  refine takeH (i := 0) (v := ?_) rfl rfl (by kernel_rfl) (by kernel_rfl) (by kernel_rfl) (fun _ _ _ h => h) (by rfl) ?_ (by assumption) ?_
  rotate_left 1
  · intro w hSw
    (try dsimp only at hSw)
    go_simp
    try with_reducible rfl
  try simp only [List.setIfInBounds_toArray, List.set_cons_zero, List.set_cons_succ]
  refine takeH (i := 1) (v := ?_) rfl rfl (by kernel_rfl) (by kernel_rfl) (by kernel_rfl) (fun _ _ _ h => h) (by rfl) ?_ (by assumption) ?_
  rotate_left 1
  · intro w hSw
    (try dsimp only at hSw)
    go_simp
    try with_reducible rfl
  try simp only [List.setIfInBounds_toArray, List.set_cons_zero, List.set_cons_succ]
  refine takeH (i := 2) (v := ?_) rfl rfl (by kernel_rfl) (by kernel_rfl) (by kernel_rfl) (fun _ _ _ h => h) (by rfl) ?_ (by assumption) ?_
  rotate_left 1
  · intro w hSw
    (try dsimp only at hSw)
    go_simp
    try with_reducible rfl
  try simp only [List.setIfInBounds_toArray, List.set_cons_zero, List.set_cons_succ]
  refine takeH (i := 3) (v := ?_) rfl rfl (by kernel_rfl) (by kernel_rfl) (by kernel_rfl) (fun _ _ _ h => h) (by rfl) ?_ (by assumption) ?_
  rotate_left 1
  · intro w hSw
    (try dsimp only at hSw)
    go_simp
    try with_reducible rfl
  try simp only [List.setIfInBounds_toArray, List.set_cons_zero, List.set_cons_succ]
  refine takeH (i := 4) (v := ?_) rfl rfl (by kernel_rfl) (by kernel_rfl) (by kernel_rfl) (fun _ _ _ h => h) (by rfl) ?_ (by assumption) ?_
  rotate_left 1
  · intro w hSw
    (try dsimp only at hSw)
    go_simp
    try with_reducible rfl
  try simp only [List.setIfInBounds_toArray, List.set_cons_zero, List.set_cons_succ]
  refine takeH (i := 5) (v := ?_) rfl rfl (by kernel_rfl) (by kernel_rfl) (by kernel_rfl) (fun _ _ _ h => h) (by rfl) ?_ (by assumption) ?_
  rotate_left 1
  · intro w hSw
    (try dsimp only at hSw)
    go_simp
    try with_reducible rfl
  try simp only [List.setIfInBounds_toArray, List.set_cons_zero, List.set_cons_succ]
  refine takeH (i := 6) (v := ?_) rfl rfl (by kernel_rfl) (by kernel_rfl) (by kernel_rfl) (fun _ _ _ h => h) (by rfl) ?_ (by assumption) ?_
  rotate_left 1
  · intro w hSw
    (try dsimp only at hSw)
    go_simp
    try with_reducible rfl
  try simp only [List.setIfInBounds_toArray, List.set_cons_zero, List.set_cons_succ]
  refine takeH (i := 7) (v := ?_) rfl rfl (by kernel_rfl) (by kernel_rfl) (by kernel_rfl) (fun _ _ _ h => h) (by rfl) ?_ (by assumption) ?_
  rotate_left 1
  · intro w hSw
    (try dsimp only at hSw)
    go_simp
    try with_reducible rfl
  try simp only [List.setIfInBounds_toArray, List.set_cons_zero, List.set_cons_succ]
  refine takeH (i := 8) (v := ?_) rfl rfl (by kernel_rfl) (by kernel_rfl) (by kernel_rfl) (fun _ _ _ h => h) (by rfl) ?_ (by assumption) ?_
  rotate_left 1
  · intro w hSw
    (try dsimp only at hSw)
    go_simp
    try with_reducible rfl
  try simp only [List.setIfInBounds_toArray, List.set_cons_zero, List.set_cons_succ]
  refine takeH (i := 9) (v := ?_) rfl rfl (by kernel_rfl) (by kernel_rfl) (by kernel_rfl) (fun _ _ _ h => h) (by rfl) ?_ (by assumption) ?_
  rotate_left 1
  · intro w hSw
    (try dsimp only at hSw)
    go_simp
    try with_reducible rfl
  try simp only [List.setIfInBounds_toArray, List.set_cons_zero, List.set_cons_succ]
  refine takeH (i := 10) (v := ?_) rfl rfl (by kernel_rfl) (by kernel_rfl) (by kernel_rfl) (fun _ _ _ h => h) (by rfl) ?_ (by assumption) ?_
  rotate_left 1
  · intro w hSw
    (try dsimp only at hSw)
    go_simp
    try with_reducible rfl
  try simp only [List.setIfInBounds_toArray, List.set_cons_zero, List.set_cons_succ]
  refine takeH (i := 11) (v := ?_) rfl rfl (by kernel_rfl) (by kernel_rfl) (by kernel_rfl) (fun _ _ _ h => h) (by rfl) ?_ (by assumption) ?_
  rotate_left 1
  · intro w hSw
    (try dsimp only at hSw)
    go_simp
    try with_reducible rfl
  try simp only [List.setIfInBounds_toArray, List.set_cons_zero, List.set_cons_succ]
  refine takeH (i := 12) (v := ?_) rfl rfl (by kernel_rfl) (by kernel_rfl) (by kernel_rfl) (fun _ _ _ h => h) (by rfl) ?_ (by assumption) ?_
  rotate_left 1
  · intro w hSw
    (try dsimp only at hSw)
    go_simp
    try with_reducible rfl
  try simp only [List.setIfInBounds_toArray, List.set_cons_zero, List.set_cons_succ]
  refine takeH (i := 13) (v := ?_) rfl rfl (by kernel_rfl) (by kernel_rfl) (by kernel_rfl) (fun _ _ _ h => h) (by rfl) ?_ (by assumption) ?_
  rotate_left 1
  · intro w hSw
    (try dsimp only at hSw)
    go_simp
    try with_reducible rfl
  try simp only [List.setIfInBounds_toArray, List.set_cons_zero, List.set_cons_succ]
  refine takeH (i := 14) (v := ?_) rfl rfl (by kernel_rfl) (by kernel_rfl) (by kernel_rfl) (fun _ _ _ h => h) (by rfl) ?_ (by assumption) ?_
  rotate_left 1
  · intro w hSw
    (try dsimp only at hSw)
    go_simp
    try with_reducible rfl
  try simp only [List.setIfInBounds_toArray, List.set_cons_zero, List.set_cons_succ]
  refine takeH (i := 15) (v := ?_) rfl rfl (by kernel_rfl) (by kernel_rfl) (by kernel_rfl) (fun _ _ _ h => h) (by rfl) ?_ (by assumption) ?_
  rotate_left 1
  · intro w hSw
    (try dsimp only at hSw)
    go_simp
    try with_reducible rfl
  try simp only [List.setIfInBounds_toArray, List.set_cons_zero, List.set_cons_succ]
  refine takeH (i := 16) (v := ?_) rfl rfl (by kernel_rfl) (by kernel_rfl) (by kernel_rfl) (fun _ _ _ h => h) (by rfl) ?_ (by assumption) ?_
  rotate_left 1
  · intro w hSw
    (try dsimp only at hSw)
    go_simp
    try with_reducible rfl
  try simp only [List.setIfInBounds_toArray, List.set_cons_zero, List.set_cons_succ]
  refine takeH (i := 17) (v := ?_) rfl rfl (by kernel_rfl) (by kernel_rfl) (by kernel_rfl) (fun _ _ _ h => h) (by rfl) ?_ (by assumption) ?_
  rotate_left 1
  · intro w hSw
    (try dsimp only at hSw)
    go_simp
    try with_reducible rfl
  try simp only [List.setIfInBounds_toArray, List.set_cons_zero, List.set_cons_succ]
  refine takeH (i := 18) (v := ?_) rfl rfl (by kernel_rfl) (by kernel_rfl) (by kernel_rfl) (fun _ _ _ h => h) (by rfl) ?_ (by assumption) ?_
  rotate_left 1
  · intro w hSw
    (try dsimp only at hSw)
    go_simp
    try with_reducible rfl
  try simp only [List.setIfInBounds_toArray, List.set_cons_zero, List.set_cons_succ]
  refine takeH (i := 19) (v := ?_) rfl rfl (by kernel_rfl) (by kernel_rfl) (by kernel_rfl) (fun _ _ _ h => h) (by rfl) ?_ (by assumption) ?_
  rotate_left 1
  · intro w hSw
    (try dsimp only at hSw)
    go_simp
    try with_reducible rfl
  try simp only [List.setIfInBounds_toArray, List.set_cons_zero, List.set_cons_succ]
  refine takeH (i := 20) (v := ?_) rfl rfl (by kernel_rfl) (by kernel_rfl) (by kernel_rfl) (fun _ _ _ h => h) (by rfl) ?_ (by assumption) ?_
  rotate_left 1
  · intro w hSw
    (try dsimp only at hSw)
    go_simp
    try with_reducible rfl
  try simp only [List.setIfInBounds_toArray, List.set_cons_zero, List.set_cons_succ]
  refine takeH (i := 21) (v := ?_) rfl rfl (by kernel_rfl) (by kernel_rfl) (by kernel_rfl) (fun _ _ _ h => h) (by rfl) ?_ (by assumption) ?_
  rotate_left 1
  · intro w hSw
    (try dsimp only at hSw)
    go_simp
    try with_reducible rfl
  try simp only [List.setIfInBounds_toArray, List.set_cons_zero, List.set_cons_succ]
  refine takeH (i := 22) (v := ?_) rfl rfl (by kernel_rfl) (by kernel_rfl) (by kernel_rfl) (fun _ _ _ h => h) (by rfl) ?_ (by assumption) ?_
  rotate_left 1
  · intro w hSw
    (try dsimp only at hSw)
    go_simp
    try with_reducible rfl
  try simp only [List.setIfInBounds_toArray, List.set_cons_zero, List.set_cons_succ]
  refine takeH (i := 23) (v := ?_) rfl rfl (by kernel_rfl) (by kernel_rfl) (by kernel_rfl) (fun _ _ _ h => h) (by rfl) ?_ (by assumption) ?_
  rotate_left 1
  · intro w hSw
    (try dsimp only at hSw)
    go_simp
    try with_reducible rfl
  try simp only [List.setIfInBounds_toArray, List.set_cons_zero, List.set_cons_succ]
  refine takeH (i := 24) (v := ?_) rfl rfl (by kernel_rfl) (by kernel_rfl) (by kernel_rfl) (fun _ _ _ h => h) (by rfl) ?_ (by assumption) ?_
  rotate_left 1
  · intro w hSw
    (try dsimp only at hSw)
    go_simp
    try with_reducible rfl
  try simp only [List.setIfInBounds_toArray, List.set_cons_zero, List.set_cons_succ]
  refine takeH (i := 25) (v := ?_) rfl rfl (by kernel_rfl) (by kernel_rfl) (by kernel_rfl) (fun _ _ _ h => h) (by rfl) ?_ (by assumption) ?_
  rotate_left 1
  · intro w hSw
    (try dsimp only at hSw)
    go_simp
    try with_reducible rfl
  try simp only [List.setIfInBounds_toArray, List.set_cons_zero, List.set_cons_succ]
  refine takeH (i := 26) (v := ?_) rfl rfl (by kernel_rfl) (by kernel_rfl) (by kernel_rfl) (fun _ _ _ h => h) (by rfl) ?_ (by assumption) ?_
  rotate_left 1
  · intro w hSw
    (try dsimp only at hSw)
    go_simp
    try with_reducible rfl
  try simp only [List.setIfInBounds_toArray, List.set_cons_zero, List.set_cons_succ]
  refine takeH (i := 27) (v := ?_) rfl rfl (by kernel_rfl) (by kernel_rfl) (by kernel_rfl) (fun _ _ _ h => h) (by rfl) ?_ (by assumption) ?_
  rotate_left 1
  · intro w hSw
    (try dsimp only at hSw)
    go_simp
    try with_reducible rfl
  try simp only [List.setIfInBounds_toArray, List.set_cons_zero, List.set_cons_succ]
  refine takeH (i := 28) (v := ?_) rfl rfl (by kernel_rfl) (by kernel_rfl) (by kernel_rfl) (fun _ _ _ h => h) (by rfl) ?_ (by assumption) ?_
  rotate_left 1
  · intro w hSw
    (try dsimp only at hSw)
    go_simp
    try with_reducible rfl
  try simp only [List.setIfInBounds_toArray, List.set_cons_zero, List.set_cons_succ]
  refine takeH (i := 29) (v := ?_) rfl rfl (by kernel_rfl) (by kernel_rfl) (by kernel_rfl) (fun _ _ _ h => h) (by rfl) ?_ (by assumption) ?_
  rotate_left 1
  · intro w hSw
    (try dsimp only at hSw)
    go_simp
    try with_reducible rfl
  try simp only [List.setIfInBounds_toArray, List.set_cons_zero, List.set_cons_succ]
  refine takeH (i := 30) (v := ?_) rfl rfl (by kernel_rfl) (by kernel_rfl) (by kernel_rfl) (fun _ _ _ h => h) (by rfl) ?_ (by assumption) ?_
  rotate_left 1
  · intro w hSw
    (try dsimp only at hSw)
    go_simp
    try with_reducible rfl
  try simp only [List.setIfInBounds_toArray, List.set_cons_zero, List.set_cons_succ]
  refine takeH (i := 31) (v := ?_) rfl rfl (by kernel_rfl) (by kernel_rfl) (by kernel_rfl) (fun _ _ _ h => h) (by rfl) ?_ (by assumption) ?_
  rotate_left 1
  · intro w hSw
    (try dsimp only at hSw)
    go_simp
    try with_reducible rfl
  try simp only [List.setIfInBounds_toArray, List.set_cons_zero, List.set_cons_succ]
  refine takeH (i := 32) (v := ?_) rfl rfl (by kernel_rfl) (by kernel_rfl) (by kernel_rfl) (fun _ _ _ h => h) (by rfl) ?_ (by assumption) ?_
  rotate_left 1
  · intro w hSw
    (try dsimp only at hSw)
    go_simp
    try with_reducible rfl
  try simp only [List.setIfInBounds_toArray, List.set_cons_zero, List.set_cons_succ]
  refine takeH (i := 33) (v := ?_) rfl rfl (by kernel_rfl) (by kernel_rfl) (by kernel_rfl) (fun _ _ _ h => h) (by rfl) ?_ (by assumption) ?_
  rotate_left 1
  · intro w hSw
    (try dsimp only at hSw)
    go_simp
    try with_reducible rfl
  try simp only [List.setIfInBounds_toArray, List.set_cons_zero, List.set_cons_succ]
  refine takeH (i := 34) (v := ?_) rfl rfl (by kernel_rfl) (by kernel_rfl) (by kernel_rfl) (fun _ _ _ h => h) (by rfl) ?_ (by assumption) ?_
  rotate_left 1
  · intro w hSw
    (try dsimp only at hSw)
    go_simp
    try with_reducible rfl
  try simp only [List.setIfInBounds_toArray, List.set_cons_zero, List.set_cons_succ]
  refine takeH (i := 35) (v := ?_) rfl rfl (by kernel_rfl) (by kernel_rfl) (by kernel_rfl) (fun _ _ _ h => h) (by rfl) ?_ (by assumption) ?_
  rotate_left 1
  · intro w hSw
    (try dsimp only at hSw)
    go_simp
    try with_reducible rfl
  try simp only [List.setIfInBounds_toArray, List.set_cons_zero, List.set_cons_succ]
  refine takeH (i := 36) (v := ?_) rfl rfl (by kernel_rfl) (by kernel_rfl) (by kernel_rfl) (fun _ _ _ h => h) (by rfl) ?_ (by assumption) ?_
  rotate_left 1
  · intro w hSw
    (try dsimp only at hSw)
    go_simp
    try with_reducible rfl
  try simp only [List.setIfInBounds_toArray, List.set_cons_zero, List.set_cons_succ]
  refine takeH (i := 37) (v := ?_) rfl rfl (by kernel_rfl) (by kernel_rfl) (by kernel_rfl) (fun _ _ _ h => h) (by rfl) ?_ (by assumption) ?_
  rotate_left 1
  · intro w hSw
    (try dsimp only at hSw)
    go_simp
    try with_reducible rfl
  try simp only [List.setIfInBounds_toArray, List.set_cons_zero, List.set_cons_succ]
  refine takeH (i := 38) (v := ?_) rfl rfl (by kernel_rfl) (by kernel_rfl) (by kernel_rfl) (fun _ _ _ h => h) (by rfl) ?_ (by assumption) ?_
  rotate_left 1
  · intro w hSw
    (try dsimp only at hSw)
    go_simp
    try with_reducible rfl
  try simp only [List.setIfInBounds_toArray, List.set_cons_zero, List.set_cons_succ]
  refine takeH (i := 39) (v := ?_) rfl rfl (by kernel_rfl) (by kernel_rfl) (by kernel_rfl) (fun _ _ _ h => h) (by rfl) ?_ (by assumption) ?_
  rotate_left 1
  · intro w hSw
    (try dsimp only at hSw)
    go_simp
    try with_reducible rfl
  try simp only [List.setIfInBounds_toArray, List.set_cons_zero, List.set_cons_succ]
  refine takeH (i := 40) (v := ?_) rfl rfl (by kernel_rfl) (by kernel_rfl) (by kernel_rfl) (fun _ _ _ h => h) (by rfl) ?_ (by assumption) ?_
  rotate_left 1
  · intro w hSw
    (try dsimp only at hSw)
    go_simp
    try with_reducible rfl
  try simp only [List.setIfInBounds_toArray, List.set_cons_zero, List.set_cons_succ]
  refine takeH (i := 41) (v := ?_) rfl rfl (by kernel_rfl) (by kernel_rfl) (by kernel_rfl) (fun _ _ _ h => h) (by rfl) ?_ (by assumption) ?_
  rotate_left 1
  · intro w hSw
    (try dsimp only at hSw)
    go_simp
    try with_reducible rfl
  try simp only [List.setIfInBounds_toArray, List.set_cons_zero, List.set_cons_succ]
  refine takeH (i := 42) (v := ?_) rfl rfl (by kernel_rfl) (by kernel_rfl) (by kernel_rfl) (fun _ _ _ h => h) (by rfl) ?_ (by assumption) ?_
  rotate_left 1
  · intro w hSw
    (try dsimp only at hSw)
    go_simp
    try with_reducible rfl
  try simp only [List.setIfInBounds_toArray, List.set_cons_zero, List.set_cons_succ]
  refine takeH (i := 43) (v := ?_) rfl rfl (by kernel_rfl) (by kernel_rfl) (by kernel_rfl) (fun _ _ _ h => h) (by rfl) ?_ (by assumption) ?_
  rotate_left 1
  · intro w hSw
    (try dsimp only at hSw)
    go_simp
    try with_reducible rfl
  try simp only [List.setIfInBounds_toArray, List.set_cons_zero, List.set_cons_succ]
  refine takeH (i := 44) (v := ?_) rfl rfl (by kernel_rfl) (by kernel_rfl) (by kernel_rfl) (fun _ _ _ h => h) (by rfl) ?_ (by assumption) ?_
  rotate_left 1
  · intro w hSw
    (try dsimp only at hSw)
    go_simp
    try with_reducible rfl
  try simp only [List.setIfInBounds_toArray, List.set_cons_zero, List.set_cons_succ]
  refine takeH (i := 45) (v := ?_) rfl rfl (by kernel_rfl) (by kernel_rfl) (by kernel_rfl) (fun _ _ _ h => h) (by rfl) ?_ (by assumption) ?_
  rotate_left 1
  · intro w hSw
    (try dsimp only at hSw)
    go_simp
    try with_reducible rfl
  try simp only [List.setIfInBounds_toArray, List.set_cons_zero, List.set_cons_succ]
  refine wpAnyH_done (by kernel_rfl) ?_ _
  have b0 : 0 ≤ y * 131 + x * 1117 + (p : Int) * 29 + (d : Int) * 53 := by omega
  have b1 : y * 131 + x * 1117 + (p : Int) * 29 + (d : Int) * 53 < 1000000000 := by omega
  clear m1 m2 m3 m4 m5 m6 m7 m8 m9 hHeld Q
  go_wp2
  go_ret
  have b2 := xor_i64 (y * 131 + x * 1117 + (p : Int) * 29 + (d : Int) * 53) ((y * 131 + x * 1117 + (p : Int) * 29 + (d : Int) * 53) / 64) b0 (by omega) (by omega) (by omega)
  exact picked_of (Int.tmod_nonneg _ b2) (Int.tmod_lt_of_pos _ (by omega)) HR.out (only_drewN (only_setCell _ _ _ _) 1)

theorem pick_any (n : Int) (w : World) (B p : Nat) (hn : 1 ≤ n) (hp : p < 1000000) (h : Rd w B p) :
    Calls Tryd.prog 53 #[.pointer (some ⟨B, 0, none⟩), .int .i64 n] w (Picked n w B p) := by
  obtain ⟨a, len, cap, z, c0, c1, hf, _, hl, hz⟩ := h
  rcases hz with rfl | ⟨b, off, rfl, hb, hc, hbd⟩
  · exact pick_nil n w B p hn hp a cap z c0 c1 hf (.inl rfl)
  · by_cases h0 : len = 0
    · subst h0; exact pick_nil n w B p hn hp _ cap z c0 c1 hf (.inl rfl)
    · by_cases h1 : p < len
      · exact pick_at n w B p hn hp b off len cap z hl h1 c0 c1 hf hb hc hbd
      · exact pick_mix n w B p hn hp b off len cap z hl (by omega) (by omega) c0 c1 hf hb hc hbd

theorem rd_open {w : World} {a : Option Addr} {len cap : Nat} {zs : List Int} (h : IsRow w a len cap zs) (l' : Nat) (hl : l' ≤ len) (h2 : l' ≤ 2000) (t : TypeId) :
    Rd (w.alloc (.cells #[.slice a l' cap, .int .i64 0] t)) w.heap.size 0 := by
  refine ⟨a, l', cap, fun i => zs.getD i 0, by simp, by simp, by simp, by omega, h2, ?_⟩
  rcases h with ⟨rfl, rfl, rfl, rfl⟩ | ⟨x, rfl, h1, hm, hz, hc, hw⟩
  · exact .inl (by omega)
  · by_cases h0 : l' = 0
    · exact .inl h0
    · obtain ⟨b, off, rfl, hc'⟩ := ints_at hc (by omega)
      have hb : b < w.heap.size := World.block_lt_of_cell? w _ (hc' 0 (by omega))
      refine .inr ⟨b, off, rfl, hb, fun i hi => ?_, fun i => ?_⟩
      · rw [World.cell?_alloc_lt _ _ _ hb]; exact hc' i (by omega)
      · show 0 ≤ zs.getD i 0 ∧ zs.getD i 0 ≤ 255
        by_cases hi : i < zs.length
        · have := bounds_u8 (hw _ (List.getElem_mem hi))
          rw [List.getD_eq_getElem?_getD, List.getElem?_eq_getElem hi]; exact this
        · rw [List.getD_eq_getElem?_getD, List.getElem?_eq_none (by omega)]; simp

def Opened (w : World) (e : Ending) (w' : World) : Prop := e = .returned (.pointer (some ⟨w.heap.size, 0, none⟩)) ∧ Rd w' w.heap.size 0 ∧ Below w.heap.size w w'

set_option maxHeartbeats 400000 in
theorem open_any (a : Option Addr) (len cap : Nat) (zs : List Int) (w : World) (h : IsRow w a len cap zs) :
    Calls Tryd.prog 51 #[.slice a len cap] w (Opened w) := by
  by_cases hl : 2000 < len
  · have HR := Lib.hid (rd_open h 2000 (by omega) (Nat.le_refl _) 120)
    rcases h with ⟨rfl, rfl, rfl, rfl⟩ | ⟨x, rfl, h1, hm, hz, hc, hw⟩
    · omega
    have hm' : cap ≤ 9223372036854775807 := by unfold maxLen at hm; omega
    clear hz hc hw hm
    go_enter Tryd.func51, Tryd.ntmps51
    go_wp2
    go_ret
    exact ⟨rfl, HR.out, (Below.refl _ _).alloc (Nat.le_refl _) _⟩
  · have HR := Lib.hid (rd_open h len (Nat.le_refl _) (by omega) 120)
    have hl' : len ≤ 9223372036854775807 := by omega
    clear h
    go_enter Tryd.func51, Tryd.ntmps51
    go_wp2
    go_ret
    exact ⟨rfl, HR.out, (Below.refl _ _).alloc (Nat.le_refl _) _⟩

end Go.Proofs.YtnnmgbgkgnejlaaDoor

/-
  What the small functions of chapter 1 do: contracts, one a function (the program's own and the model's).
-/
namespace Go.Proofs.YtnnmgbgkgnejlaaDoor
open Go.RowKit

/-- a number is between two others -/
def inR (n lo hi : Int) : Bool := decide (lo ≤ n ∧ n ≤ hi)
theorem inR_yes {n lo hi : Int} (h1 : lo ≤ n) (h2 : n ≤ hi) : inR n lo hi = true := by simp [inR]; omega
theorem inR_no {n lo hi : Int} (h : ¬ (lo ≤ n ∧ n ≤ hi)) : inR n lo hi = false := by simp [inR]; omega

set_option maxHeartbeats 400000 in
theorem in_any (n lo hi : Int) (w : World) :
    Calls Tryd.prog 72 #[.int .i64 n, .int .i64 lo, .int .i64 hi] w fun e w' => e = .returned (.bool (inR n lo hi)) ∧ w = w' := by
  by_cases h1 : lo ≤ n
  · by_cases h2 : n ≤ hi
    · go_enter Tryd.func72, Tryd.ntmps72
      go_wp2
      go_ret
      exact ⟨ret_bool (inR_yes h1 h2).symm, rfl⟩
    · go_enter Tryd.func72, Tryd.ntmps72
      go_wp2
      go_ret
      exact ⟨ret_bool (inR_no (by omega)).symm, rfl⟩
  · go_enter Tryd.func72, Tryd.ntmps72
    go_wp2
    go_ret
    exact ⟨ret_bool (inR_no (by omega)).symm, rfl⟩

theorem sz_step (k : Nat) : (((256 / 2 ^ k : Nat) : Int) / 2) = ((256 / 2 ^ (k + 1) : Nat) : Int) := by
  rw [Nat.pow_succ, ← Nat.div_div_eq_div_mul]; omega

set_option maxHeartbeats 400000 in
theorem size_any (b : Int) (w : World) (h0 : 0 ≤ b) (h8 : b ≤ 8) :
    Calls Tryd.prog 101 #[.int .i64 b] w fun e w' => e = .returned (.int .i64 (sz b)) ∧ w = w' := by
  obtain ⟨n, rfl⟩ := Int.eq_ofNat_of_zero_le h0
  go_enter Tryd.func101, Tryd.ntmps101
  go_wp2
  go_loop [3, 4] (fun v i => ∃ k : Nat, k ≤ n ∧ i = .int .i64 k ∧ v = .int .i64 ((256 / 2 ^ k : Nat) : Int)) (fun _ i => n - (intOf i).toNat)
  case atStart => exact ⟨0, Nat.zero_le _, rfl, rfl⟩
  case round =>
    obtain ⟨k, hk, rfl, rfl⟩ := hrel
    have hq : 256 / 2 ^ k ≤ 256 := Nat.div_le_self _ _
    have HS := Lib.hid (sz_step k)
    generalize hx : 256 / 2 ^ k = x at *
    have HX := Lib.hid hx
    clear hx
    by_cases hlt : k < n
    · go_wp2
      go_round
      case rel => exact ⟨k + 1, by omega, by go_num, by rw [← HS.out]⟩
      case measure => simp [intOf]; omega
    · go_wp2
      go_ret
      exact ⟨ret_int (by have : k = n := by omega
                         subst this; rw [← HX.out]; rfl), rfl⟩

theorem shl_sz {b : Int} (h0 : 0 ≤ b) (h8 : b ≤ 8) : wrap64 (2 ^ (8 - b).toNat) = sz b := by
  have h : b = 0 ∨ b = 1 ∨ b = 2 ∨ b = 3 ∨ b = 4 ∨ b = 5 ∨ b = 6 ∨ b = 7 ∨ b = 8 := by omega
  rcases h with rfl | rfl | rfl | rfl | rfl | rfl | rfl | rfl | rfl <;> simp [sz, wrap64]

set_option maxHeartbeats 400000 in
theorem isize_any (f b : Int) (w : World) (h0 : 0 ≤ b) (h8 : b ≤ 8) :
    Calls Tryd.prog 103 #[.agg #[.int .i64 f, .int .i64 b]] w fun e w' => e = .returned (.int .i64 (sz b)) ∧ Below w.heap.size w w' := by
  go_enter Tryd.func103, Tryd.ntmps103
  go_wp2
  go_ret
  exact ⟨ret_int (shl_sz h0 h8), (Below.refl _ _).alloc (Nat.le_refl _) _⟩

set_option maxHeartbeats 400000 in
theorem iok_any (f b : Int) (w : World) :
    Calls Tryd.prog 90 #[.agg #[.int .i64 f, .int .i64 b]] w fun e w' => e = .returned (.bool (okB f b)) ∧ Below w.heap.size w w' := by
  by_cases b0 : b < 0
  · go_enter Tryd.func90, Tryd.ntmps90
    go_wp2
    go_ret
    exact ⟨ret_bool (okB_no (by omega)).symm, (Below.refl _ _).alloc (Nat.le_refl _) _⟩
  by_cases b8 : 8 < b
  · go_enter Tryd.func90, Tryd.ntmps90
    go_wp2
    go_ret
    exact ⟨ret_bool (okB_no (by omega)).symm, (Below.refl _ _).alloc (Nat.le_refl _) _⟩
  by_cases f0 : f < 0
  · have hd : decide (0 ≤ f) = false := by simp; omega
    go_enter Tryd.func90, Tryd.ntmps90
    go_wp2_with fail
    go_quiet (fail)
    go_wp2
    go_ret
    exact ⟨ret_bool (okB_no (by omega)).symm, below_drewN ((Below.refl _ _).alloc (Nat.le_refl _) _) _⟩
  by_cases f1 : 255 < f
  · have hd : decide (f ≤ 255) = false := by simp; omega
    go_enter Tryd.func90, Tryd.ntmps90
    go_wp2_with fail
    go_quiet (fail)
    go_wp2
    go_ret
    exact ⟨ret_bool (okB_no (by omega)).symm, below_drewN ((Below.refl _ _).alloc (Nat.le_refl _) _) _⟩
  have b0' : 0 ≤ b := by omega
  have b8' : b ≤ 8 := by omega
  have f0' : 0 ≤ f := by omega
  have f1' : f ≤ 255 := by omega
  clear b0 b8 f0 f1
  obtain ⟨s1, s2⟩ := sz_bd b0' b8'
  have s0 : ¬ sz b = 0 := by omega
  go_enter Tryd.func90, Tryd.ntmps90
  go_wp2_with fail
  go_region_held3 (fun w' => w'.cell? ⟨w.heap.size, 0, none⟩ = some (.int .i64 f) ∧ w'.cell? ⟨w.heap.size, 1, none⟩ = some (.int .i64 b) ∧ Below w.heap.size w w')
    (first | exact ⟨cell_later hb1 (by simp), cell_later hb1 (by simp), below_on (((Below.refl _ _).alloc (Nat.le_refl _) _).drew) hb1 (by simp)⟩ | exact ⟨by simp, by simp, ((Below.refl _ _).alloc (Nat.le_refl _) _).drew⟩)
    (first | (go_at_call 103; refine (isize_any _ _ _ b0' b8').mono ?_; rintro e w1 ⟨rfl, hb1⟩))
  go_wp2
  go_ret
  exact ⟨ret_bool (by rw [Int.tmod_eq_emod_of_nonneg f0']; exact okB_mod b0' b8' f0' f1'), (show _ ∧ _ ∧ Below w.heap.size w w1 by assumption).2.2⟩

set_option maxHeartbeats 400000 in
theorem sok_yes (f b : Int) (w : World) (b0 : 0 ≤ b) (b8 : b ≤ 8) (f0 : 0 ≤ f) (f1 : f ≤ 255) :
    Calls Tryd.prog 70 #[.agg #[.int .i64 f, .int .i64 b]] w fun e w' => e = .returned (.bool (okB f b)) ∧ Below w.heap.size w w' := by
  have i1 := inR_yes b0 b8
  obtain ⟨s1, s2⟩ := sz_bd b0 b8
  have s0 : ¬ sz b = 0 := by omega
  have i2 := inR_yes f0 f1
  go_enter Tryd.func70, Tryd.ntmps70
  go_wp2_with fail
  go_region_held3 (fun w' => w'.cell? ⟨w.heap.size, 0, none⟩ = some (.int .i64 f) ∧ w'.cell? ⟨w.heap.size, 1, none⟩ = some (.int .i64 b) ∧ Below w.heap.size w w')
    (first | assumption | exact ⟨by simp, by simp, ((Below.refl _ _).alloc (Nat.le_refl _) _).drew⟩)
    (first | (go_at_call 72; refine (in_any _ _ _ _).mono ?_; rintro e w1 ⟨rfl, rfl⟩) | (go_at_call 101; refine (size_any _ _ b0 b8).mono ?_; rintro e w1 ⟨rfl, rfl⟩))
  go_wp2
  go_ret
  exact ⟨ret_bool (by rw [Int.tmod_eq_emod_of_nonneg f0]; exact okB_mod b0 b8 f0 f1), (show _ ∧ _ ∧ Below w.heap.size w _ by assumption).2.2⟩

set_option maxHeartbeats 400000 in
theorem sok_nf (f b : Int) (w : World) (b0 : 0 ≤ b) (b8 : b ≤ 8) (hf : ¬ (0 ≤ f ∧ f ≤ 255)) :
    Calls Tryd.prog 70 #[.agg #[.int .i64 f, .int .i64 b]] w fun e w' => e = .returned (.bool (okB f b)) ∧ Below w.heap.size w w' := by
  have i1 := inR_yes b0 b8
  have i2 := inR_no hf
  have hr : okB f b = false := okB_no (by omega)
  clear hf b0 b8
  go_enter Tryd.func70, Tryd.ntmps70
  go_wp2_with fail
  go_quiet (first | (go_at_call 72; exact quietL (in_any _ _ _ _)))
  go_wp2
  go_ret
  exact ⟨ret_bool hr.symm, below_drewN ((Below.refl _ _).alloc (Nat.le_refl _) _) _⟩

set_option maxHeartbeats 400000 in
theorem sok_nb (f b : Int) (w : World) (hb : ¬ (0 ≤ b ∧ b ≤ 8)) :
    Calls Tryd.prog 70 #[.agg #[.int .i64 f, .int .i64 b]] w fun e w' => e = .returned (.bool (okB f b)) ∧ Below w.heap.size w w' := by
  have i1 := inR_no hb
  have hr : okB f b = false := okB_no (by omega)
  clear hb
  go_enter Tryd.func70, Tryd.ntmps70
  go_wp2_with fail
  go_quiet (first | (go_at_call 72; exact quietL (in_any _ _ _ _)))
  go_wp2
  go_ret
  exact ⟨ret_bool hr.symm, below_drewN ((Below.refl _ _).alloc (Nat.le_refl _) _) _⟩

theorem sok_any (f b : Int) (w : World) :
    Calls Tryd.prog 70 #[.agg #[.int .i64 f, .int .i64 b]] w fun e w' => e = .returned (.bool (okB f b)) ∧ Below w.heap.size w w' := by
  by_cases hb : 0 ≤ b ∧ b ≤ 8
  · by_cases hf : 0 ≤ f ∧ f ≤ 255
    · exact sok_yes f b w hb.1 hb.2 hf.1 hf.2
    · exact sok_nf f b w hb.1 hb.2 hf
  · exact sok_nb f b w hb

theorem iok_is {f b : Int} {v : Bool} (h : okB f b = v) (w : World) :
    Calls Tryd.prog 90 #[.agg #[.int .i64 f, .int .i64 b]] w fun e w' => e = .returned (.bool v) ∧ Below w.heap.size w w' := by
  rw [← h]; exact iok_any f b w
theorem sok_is {f b : Int} {v : Bool} (h : okB f b = v) (w : World) :
    Calls Tryd.prog 70 #[.agg #[.int .i64 f, .int .i64 b]] w fun e w' => e = .returned (.bool v) ∧ Below w.heap.size w w' := by
  rw [← h]; exact sok_any f b w
theorem in_is {n lo hi : Int} {v : Bool} (h : inR n lo hi = v) (w : World) :
    Calls Tryd.prog 72 #[.int .i64 n, .int .i64 lo, .int .i64 hi] w fun e w' => e = .returned (.bool v) ∧ w = w' := by
  rw [← h]; exact in_any n lo hi w

end Go.Proofs.YtnnmgbgkgnejlaaDoor

/-
  Contracts of chapter 1's functions that call the small ones.
-/
namespace Go.Proofs.YtnnmgbgkgnejlaaDoor
open Go.RowKit

set_option maxHeartbeats 400000 in
theorem to_any (f b : Int) (w : World) :
    Calls Tryd.prog 79 #[.agg #[.int .i64 f, .int .i64 b]] w fun e w' => e = .returned (.agg #[.int .i64 f, .int .i64 b]) ∧ Below w.heap.size w w' := by
  go_enter Tryd.func79, Tryd.ntmps79
  go_wp2
  go_returns
  exact ⟨rfl, by go_grown⟩

set_option maxHeartbeats 400000 in
theorem lhas_any (f b a : Int) (w : World) (b0 : 0 ≤ b) (b8 : b ≤ 8) (f0 : 0 ≤ f) (a0 : 0 ≤ a) (f1 : f ≤ 255) (a1 : a ≤ 255) :
    Calls Tryd.prog 112 #[.agg #[.int .i64 f, .int .i64 b], .int .i64 a] w fun e w' => e = .returned (.bool (a / sz b == f / sz b)) ∧ Below w.heap.size w w' := by
  obtain ⟨s1, s2⟩ := sz_bd b0 b8
  have s0 : ¬ sz b = 0 := by omega
  go_enter Tryd.func112, Tryd.ntmps112
  go_wp2_with fail
  go_quiet (first | (go_at_call 101; exact quietL (size_any _ _ b0 b8)))
  go_wp2
  go_ret
  exact ⟨rfl, below_drewN ((Below.refl _ _).alloc (Nat.le_refl _) _) _⟩

end Go.Proofs.YtnnmgbgkgnejlaaDoor

/-
  Which addresses a range has; which range is in which.
-/
namespace Go.Proofs.YtnnmgbgkgnejlaaDoor
open Go.RowKit
set_option linter.unusedSimpArgs false

set_option maxHeartbeats 400000 in
theorem ihas_no (f b a : Int) (w : World) (ho : okB f b = false) :
    Calls Tryd.prog 100 #[.agg #[.int .i64 f, .int .i64 b], .int .i64 a] w fun e w' => e = .returned (.bool false) ∧ Below w.heap.size w w' := by
  go_enter Tryd.func100, Tryd.ntmps100
  go_wp2_with fail
  refine wp_region_held_drew (S := fun w' => w'.cell? ⟨w.heap.size, 0, none⟩ = some (.int .i64 f) ∧ w'.cell? ⟨w.heap.size, 1, none⟩ = some (.int .i64 b) ∧ Below w.heap.size w w') (by kernel_rfl) ?_ (fun hHeld => ?_)
  · exact ⟨by simp, by simp, ((Below.refl _ _).alloc (Nat.le_refl _) _).drew⟩
  refine takeH (i := 0) (v := ?_) rfl rfl (by kernel_rfl) (by kernel_rfl) (by kernel_rfl) (fun _ _ _ h => h) (by rfl) ?_ (by assumption) ?_
  rotate_left 1
  · intro w hSw
    (try dsimp only at hSw)
    go_simp
    try with_reducible rfl
  try simp only [List.setIfInBounds_toArray, List.set_cons_zero, List.set_cons_succ]
  refine wpAnyH_ready (rs := [1]) (by kernel_rfl) (by simp) ?_
  refine AllReadyH.cons rfl (fun K hK => ?_) (AllReadyH.nil)
  go_simp
  refine (iok_is ho _).mono ?_
  rintro e w1 ⟨rfl, hb1⟩
  go_wp2_with fail
  refine hK.out _ _ ?_ (fun hNew => ?_)
  · exact ⟨cell_later hb1 hHeld.1, cell_later hb1 hHeld.2.1, next hHeld.2.2 hb1⟩
  clear hK K hHeld
  have hHeld := hNew
  clear hNew
  try simp only [Act.put, List.setIfInBounds_toArray, List.set_cons_zero, List.set_cons_succ]
  refine takeH (i := 2) (v := ?_) rfl rfl (by kernel_rfl) (by kernel_rfl) (by kernel_rfl) (fun _ _ _ h => h) (by rfl) ?_ (by assumption) ?_
  rotate_left 1
  · intro w hSw
    (try dsimp only at hSw)
    go_simp
    try with_reducible rfl
  try simp only [List.setIfInBounds_toArray, List.set_cons_zero, List.set_cons_succ]
  refine skipH (i := 3) rfl rfl (by kernel_rfl) (by kernel_rfl) (by kernel_rfl) (fun _ _ _ h => h) (by rfl) (by assumption) ?_
  try simp only [List.setIfInBounds_toArray, List.set_cons_zero, List.set_cons_succ]
  refine skipH (i := 4) rfl rfl (by kernel_rfl) (by kernel_rfl) (by kernel_rfl) (fun _ _ _ h => h) (by rfl) (by assumption) ?_
  try simp only [List.setIfInBounds_toArray, List.set_cons_zero, List.set_cons_succ]
  refine skipH (i := 5) rfl rfl (by kernel_rfl) (by kernel_rfl) (by kernel_rfl) (fun _ _ _ h => h) (by rfl) (by assumption) ?_
  try simp only [List.setIfInBounds_toArray, List.set_cons_zero, List.set_cons_succ]
  refine skipH (i := 6) rfl rfl (by kernel_rfl) (by kernel_rfl) (by kernel_rfl) (fun _ _ _ h => h) (by rfl) (by assumption) ?_
  try simp only [List.setIfInBounds_toArray, List.set_cons_zero, List.set_cons_succ]
  refine takeH (i := 7) (v := ?_) rfl rfl (by kernel_rfl) (by kernel_rfl) (by kernel_rfl) (fun _ _ _ h => h) (by rfl) ?_ (by assumption) ?_
  rotate_left 1
  · intro w hSw
    (try dsimp only at hSw)
    go_simp
    try with_reducible rfl
  try simp only [List.setIfInBounds_toArray, List.set_cons_zero, List.set_cons_succ]
  refine takeH (i := 8) (v := ?_) rfl rfl (by kernel_rfl) (by kernel_rfl) (by kernel_rfl) (fun _ _ _ h => h) (by rfl) ?_ (by assumption) ?_
  rotate_left 1
  · intro w hSw
    (try dsimp only at hSw)
    go_simp
    try with_reducible rfl
  try simp only [List.setIfInBounds_toArray, List.set_cons_zero, List.set_cons_succ]
  refine skipH (i := 9) rfl rfl (by kernel_rfl) (by kernel_rfl) (by kernel_rfl) (fun _ _ _ h => h) (by rfl) (by assumption) ?_
  try simp only [List.setIfInBounds_toArray, List.set_cons_zero, List.set_cons_succ]
  refine skipH (i := 10) rfl rfl (by kernel_rfl) (by kernel_rfl) (by kernel_rfl) (fun _ _ _ h => h) (by rfl) (by assumption) ?_
  try simp only [List.setIfInBounds_toArray, List.set_cons_zero, List.set_cons_succ]
  refine skipH (i := 11) rfl rfl (by kernel_rfl) (by kernel_rfl) (by kernel_rfl) (fun _ _ _ h => h) (by rfl) (by assumption) ?_
  try simp only [List.setIfInBounds_toArray, List.set_cons_zero, List.set_cons_succ]
  refine skipH (i := 12) rfl rfl (by kernel_rfl) (by kernel_rfl) (by kernel_rfl) (fun _ _ _ h => h) (by rfl) (by assumption) ?_
  try simp only [List.setIfInBounds_toArray, List.set_cons_zero, List.set_cons_succ]
  refine skipH (i := 13) rfl rfl (by kernel_rfl) (by kernel_rfl) (by kernel_rfl) (fun _ _ _ h => h) (by rfl) (by assumption) ?_
  try simp only [List.setIfInBounds_toArray, List.set_cons_zero, List.set_cons_succ]
  refine skipH (i := 14) rfl rfl (by kernel_rfl) (by kernel_rfl) (by kernel_rfl) (fun _ _ _ h => h) (by rfl) (by assumption) ?_
  try simp only [List.setIfInBounds_toArray, List.set_cons_zero, List.set_cons_succ]
  refine skipH (i := 15) rfl rfl (by kernel_rfl) (by kernel_rfl) (by kernel_rfl) (fun _ _ _ h => h) (by rfl) (by assumption) ?_
  try simp only [List.setIfInBounds_toArray, List.set_cons_zero, List.set_cons_succ]
  refine takeH (i := 16) (v := ?_) rfl rfl (by kernel_rfl) (by kernel_rfl) (by kernel_rfl) (fun _ _ _ h => h) (by rfl) ?_ (by assumption) ?_
  rotate_left 1
  · intro w hSw
    (try dsimp only at hSw)
    go_simp
    try with_reducible rfl
  try simp only [List.setIfInBounds_toArray, List.set_cons_zero, List.set_cons_succ]
  refine takeH (i := 17) (v := ?_) rfl rfl (by kernel_rfl) (by kernel_rfl) (by kernel_rfl) (fun _ _ _ h => h) (by rfl) ?_ (by assumption) ?_
  rotate_left 1
  · intro w hSw
    (try dsimp only at hSw)
    go_simp
    try with_reducible rfl
  try simp only [List.setIfInBounds_toArray, List.set_cons_zero, List.set_cons_succ]
  refine wpAnyH_done (by kernel_rfl) ?_ _
  go_wp2
  go_ret
  exact ⟨rfl, hHeld.2.2⟩

set_option maxHeartbeats 400000 in
theorem ihas_low (f b a : Int) (w : World) (ho : okB f b = true) (ha : a < f) :
    Calls Tryd.prog 100 #[.agg #[.int .i64 f, .int .i64 b], .int .i64 a] w fun e w' => e = .returned (.bool false) ∧ Below w.heap.size w w' := by
  have hd : decide (f ≤ a) = false := by simp; omega
  clear ha
  go_enter Tryd.func100, Tryd.ntmps100
  go_wp2_with fail
  refine wp_region_held_drew (S := fun w' => w'.cell? ⟨w.heap.size, 0, none⟩ = some (.int .i64 f) ∧ w'.cell? ⟨w.heap.size, 1, none⟩ = some (.int .i64 b) ∧ Below w.heap.size w w') (by kernel_rfl) ?_ (fun hHeld => ?_)
  · exact ⟨by simp, by simp, ((Below.refl _ _).alloc (Nat.le_refl _) _).drew⟩
  refine takeH (i := 0) (v := ?_) rfl rfl (by kernel_rfl) (by kernel_rfl) (by kernel_rfl) (fun _ _ _ h => h) (by rfl) ?_ (by assumption) ?_
  rotate_left 1
  · intro w hSw
    (try dsimp only at hSw)
    go_simp
    try with_reducible rfl
  try simp only [List.setIfInBounds_toArray, List.set_cons_zero, List.set_cons_succ]
  refine wpAnyH_ready (rs := [1]) (by kernel_rfl) (by simp) ?_
  refine AllReadyH.cons rfl (fun K hK => ?_) (AllReadyH.nil)
  go_simp
  refine (iok_is ho _).mono ?_
  rintro e w1 ⟨rfl, hb1⟩
  go_wp2_with fail
  refine hK.out _ _ ?_ (fun hNew => ?_)
  · exact ⟨cell_later hb1 hHeld.1, cell_later hb1 hHeld.2.1, next hHeld.2.2 hb1⟩
  clear hK K hHeld
  have hHeld := hNew
  clear hNew
  try simp only [Act.put, List.setIfInBounds_toArray, List.set_cons_zero, List.set_cons_succ]
  refine takeH (i := 2) (v := ?_) rfl rfl (by kernel_rfl) (by kernel_rfl) (by kernel_rfl) (fun _ _ _ h => h) (by rfl) ?_ (by assumption) ?_
  rotate_left 1
  · intro w hSw
    (try dsimp only at hSw)
    go_simp
    try with_reducible rfl
  try simp only [List.setIfInBounds_toArray, List.set_cons_zero, List.set_cons_succ]
  refine takeH (i := 3) (v := ?_) rfl rfl (by kernel_rfl) (by kernel_rfl) (by kernel_rfl) (fun _ _ _ h => h) (by rfl) ?_ (by assumption) ?_
  rotate_left 1
  · intro w hSw
    (try dsimp only at hSw)
    go_simp
    try with_reducible rfl
  try simp only [List.setIfInBounds_toArray, List.set_cons_zero, List.set_cons_succ]
  refine takeH (i := 4) (v := ?_) rfl rfl (by kernel_rfl) (by kernel_rfl) (by kernel_rfl) (fun _ _ _ h => h) (by rfl) ?_ (by assumption) ?_
  rotate_left 1
  · intro w hSw
    (try dsimp only at hSw)
    go_simp
    try with_reducible rfl
  try simp only [List.setIfInBounds_toArray, List.set_cons_zero, List.set_cons_succ]
  refine takeH (i := 5) (v := ?_) rfl rfl (by kernel_rfl) (by kernel_rfl) (by kernel_rfl) (fun _ _ _ h => h) (by rfl) ?_ (by assumption) ?_
  rotate_left 1
  · intro w hSw
    (try dsimp only at hSw)
    go_simp
    try with_reducible rfl
  try simp only [List.setIfInBounds_toArray, List.set_cons_zero, List.set_cons_succ]
  refine takeH (i := 6) (v := ?_) rfl rfl (by kernel_rfl) (by kernel_rfl) (by kernel_rfl) (fun _ _ _ h => h) (by rfl) ?_ (by assumption) ?_
  rotate_left 1
  · intro w hSw
    (try dsimp only at hSw)
    go_simp
    try with_reducible rfl
  try simp only [List.setIfInBounds_toArray, List.set_cons_zero, List.set_cons_succ]
  refine takeH (i := 7) (v := ?_) rfl rfl (by kernel_rfl) (by kernel_rfl) (by kernel_rfl) (fun _ _ _ h => h) (by rfl) ?_ (by assumption) ?_
  rotate_left 1
  · intro w hSw
    (try dsimp only at hSw)
    go_simp
    try with_reducible rfl
  try simp only [List.setIfInBounds_toArray, List.set_cons_zero, List.set_cons_succ]
  refine takeH (i := 8) (v := ?_) rfl rfl (by kernel_rfl) (by kernel_rfl) (by kernel_rfl) (fun _ _ _ h => h) (by rfl) ?_ (by assumption) ?_
  rotate_left 1
  · intro w hSw
    (try dsimp only at hSw)
    go_simp
    try with_reducible rfl
  try simp only [List.setIfInBounds_toArray, List.set_cons_zero, List.set_cons_succ]
  refine skipH (i := 9) rfl rfl (by kernel_rfl) (by kernel_rfl) (by kernel_rfl) (fun _ _ _ h => h) (by rfl) (by assumption) ?_
  try simp only [List.setIfInBounds_toArray, List.set_cons_zero, List.set_cons_succ]
  refine skipH (i := 10) rfl rfl (by kernel_rfl) (by kernel_rfl) (by kernel_rfl) (fun _ _ _ h => h) (by rfl) (by assumption) ?_
  try simp only [List.setIfInBounds_toArray, List.set_cons_zero, List.set_cons_succ]
  refine skipH (i := 11) rfl rfl (by kernel_rfl) (by kernel_rfl) (by kernel_rfl) (fun _ _ _ h => h) (by rfl) (by assumption) ?_
  try simp only [List.setIfInBounds_toArray, List.set_cons_zero, List.set_cons_succ]
  refine skipH (i := 12) rfl rfl (by kernel_rfl) (by kernel_rfl) (by kernel_rfl) (fun _ _ _ h => h) (by rfl) (by assumption) ?_
  try simp only [List.setIfInBounds_toArray, List.set_cons_zero, List.set_cons_succ]
  refine skipH (i := 13) rfl rfl (by kernel_rfl) (by kernel_rfl) (by kernel_rfl) (fun _ _ _ h => h) (by rfl) (by assumption) ?_
  try simp only [List.setIfInBounds_toArray, List.set_cons_zero, List.set_cons_succ]
  refine skipH (i := 14) rfl rfl (by kernel_rfl) (by kernel_rfl) (by kernel_rfl) (fun _ _ _ h => h) (by rfl) (by assumption) ?_
  try simp only [List.setIfInBounds_toArray, List.set_cons_zero, List.set_cons_succ]
  refine skipH (i := 15) rfl rfl (by kernel_rfl) (by kernel_rfl) (by kernel_rfl) (fun _ _ _ h => h) (by rfl) (by assumption) ?_
  try simp only [List.setIfInBounds_toArray, List.set_cons_zero, List.set_cons_succ]
  refine takeH (i := 16) (v := ?_) rfl rfl (by kernel_rfl) (by kernel_rfl) (by kernel_rfl) (fun _ _ _ h => h) (by rfl) ?_ (by assumption) ?_
  rotate_left 1
  · intro w hSw
    (try dsimp only at hSw)
    go_simp
    try with_reducible rfl
  try simp only [List.setIfInBounds_toArray, List.set_cons_zero, List.set_cons_succ]
  refine takeH (i := 17) (v := ?_) rfl rfl (by kernel_rfl) (by kernel_rfl) (by kernel_rfl) (fun _ _ _ h => h) (by rfl) ?_ (by assumption) ?_
  rotate_left 1
  · intro w hSw
    (try dsimp only at hSw)
    go_simp
    try with_reducible rfl
  try simp only [List.setIfInBounds_toArray, List.set_cons_zero, List.set_cons_succ]
  refine wpAnyH_done (by kernel_rfl) ?_ _
  go_wp2
  go_ret
  exact ⟨rfl, hHeld.2.2⟩

set_option maxHeartbeats 400000 in
theorem ihas_up (f b a : Int) (w : World) (ho : okB f b = true) (ha : f ≤ a) (wa : a ≤ 9223372036854775807) :
    Calls Tryd.prog 100 #[.agg #[.int .i64 f, .int .i64 b], .int .i64 a] w fun e w' => e = .returned (.bool (decide (a - f < sz b))) ∧ Below w.heap.size w w' := by
  obtain ⟨b0, b8, f0, f1, hm⟩ := (okB_iff f b).1 ho
  clear hm
  have hs : IntKind.i64.wrap (a - f) = a - f := IntWalk.i64_in _ (by omega)
  go_enter Tryd.func100, Tryd.ntmps100
  go_wp2_with fail
  refine wp_region_held_drew (S := fun w' => w'.cell? ⟨w.heap.size, 0, none⟩ = some (.int .i64 f) ∧ w'.cell? ⟨w.heap.size, 1, none⟩ = some (.int .i64 b) ∧ Below w.heap.size w w') (by kernel_rfl) ?_ (fun hHeld => ?_)
  · exact ⟨by simp, by simp, ((Below.refl _ _).alloc (Nat.le_refl _) _).drew⟩
  refine takeH (i := 0) (v := ?_) rfl rfl (by kernel_rfl) (by kernel_rfl) (by kernel_rfl) (fun _ _ _ h => h) (by rfl) ?_ (by assumption) ?_
  rotate_left 1
  · intro w hSw
    (try dsimp only at hSw)
    go_simp
    try with_reducible rfl
  try simp only [List.setIfInBounds_toArray, List.set_cons_zero, List.set_cons_succ]
  refine wpAnyH_ready (rs := [1]) (by kernel_rfl) (by simp) ?_
  refine AllReadyH.cons rfl (fun K hK => ?_) (AllReadyH.nil)
  go_simp
  refine (iok_is ho _).mono ?_
  rintro e w1 ⟨rfl, hb1⟩
  go_wp2_with fail
  refine hK.out _ _ ?_ (fun hNew => ?_)
  · exact ⟨cell_later hb1 hHeld.1, cell_later hb1 hHeld.2.1, next hHeld.2.2 hb1⟩
  clear hK K hHeld
  have hHeld := hNew
  clear hNew
  try simp only [Act.put, List.setIfInBounds_toArray, List.set_cons_zero, List.set_cons_succ]
  refine takeH (i := 2) (v := ?_) rfl rfl (by kernel_rfl) (by kernel_rfl) (by kernel_rfl) (fun _ _ _ h => h) (by rfl) ?_ (by assumption) ?_
  rotate_left 1
  · intro w hSw
    (try dsimp only at hSw)
    go_simp
    try with_reducible rfl
  try simp only [List.setIfInBounds_toArray, List.set_cons_zero, List.set_cons_succ]
  refine takeH (i := 3) (v := ?_) rfl rfl (by kernel_rfl) (by kernel_rfl) (by kernel_rfl) (fun _ _ _ h => h) (by rfl) ?_ (by assumption) ?_
  rotate_left 1
  · intro w hSw
    (try dsimp only at hSw)
    go_simp
    try with_reducible rfl
  try simp only [List.setIfInBounds_toArray, List.set_cons_zero, List.set_cons_succ]
  refine takeH (i := 4) (v := ?_) rfl rfl (by kernel_rfl) (by kernel_rfl) (by kernel_rfl) (fun _ _ _ h => h) (by rfl) ?_ (by assumption) ?_
  rotate_left 1
  · intro w hSw
    (try dsimp only at hSw)
    go_simp
    try with_reducible rfl
  try simp only [List.setIfInBounds_toArray, List.set_cons_zero, List.set_cons_succ]
  refine takeH (i := 5) (v := ?_) rfl rfl (by kernel_rfl) (by kernel_rfl) (by kernel_rfl) (fun _ _ _ h => h) (by rfl) ?_ (by assumption) ?_
  rotate_left 1
  · intro w hSw
    (try dsimp only at hSw)
    go_simp
    try with_reducible rfl
  try simp only [List.setIfInBounds_toArray, List.set_cons_zero, List.set_cons_succ]
  refine takeH (i := 6) (v := ?_) rfl rfl (by kernel_rfl) (by kernel_rfl) (by kernel_rfl) (fun _ _ _ h => h) (by rfl) ?_ (by assumption) ?_
  rotate_left 1
  · intro w hSw
    (try dsimp only at hSw)
    go_simp
    try with_reducible rfl
  try simp only [List.setIfInBounds_toArray, List.set_cons_zero, List.set_cons_succ]
  refine takeH (i := 7) (v := ?_) rfl rfl (by kernel_rfl) (by kernel_rfl) (by kernel_rfl) (fun _ _ _ h => h) (by rfl) ?_ (by assumption) ?_
  rotate_left 1
  · intro w hSw
    (try dsimp only at hSw)
    go_simp
    try with_reducible rfl
  try simp only [List.setIfInBounds_toArray, List.set_cons_zero, List.set_cons_succ]
  refine takeH (i := 8) (v := ?_) rfl rfl (by kernel_rfl) (by kernel_rfl) (by kernel_rfl) (fun _ _ _ h => h) (by rfl) ?_ (by assumption) ?_
  rotate_left 1
  · intro w hSw
    (try dsimp only at hSw)
    go_simp
    try with_reducible rfl
  try simp only [List.setIfInBounds_toArray, List.set_cons_zero, List.set_cons_succ]
  refine takeH (i := 9) (v := ?_) rfl rfl (by kernel_rfl) (by kernel_rfl) (by kernel_rfl) (fun _ _ _ h => h) (by rfl) ?_ (by assumption) ?_
  rotate_left 1
  · intro w hSw
    (try dsimp only at hSw)
    go_simp
    try with_reducible rfl
  try simp only [List.setIfInBounds_toArray, List.set_cons_zero, List.set_cons_succ]
  refine takeH (i := 10) (v := ?_) rfl rfl (by kernel_rfl) (by kernel_rfl) (by kernel_rfl) (fun _ _ _ h => h) (by rfl) ?_ (by assumption) ?_
  rotate_left 1
  · intro w hSw
    (try dsimp only at hSw)
    go_simp
    try with_reducible rfl
  try simp only [List.setIfInBounds_toArray, List.set_cons_zero, List.set_cons_succ]
  refine takeH (i := 11) (v := ?_) rfl rfl (by kernel_rfl) (by kernel_rfl) (by kernel_rfl) (fun _ _ _ h => h) (by rfl) ?_ (by assumption) ?_
  rotate_left 1
  · intro w hSw
    (try dsimp only at hSw)
    go_simp
    try with_reducible rfl
  try simp only [List.setIfInBounds_toArray, List.set_cons_zero, List.set_cons_succ]
  refine takeH (i := 12) (v := ?_) rfl rfl (by kernel_rfl) (by kernel_rfl) (by kernel_rfl) (fun _ _ _ h => h) (by rfl) ?_ (by assumption) ?_
  rotate_left 1
  · intro w hSw
    (try dsimp only at hSw)
    go_simp
    try with_reducible rfl
  try simp only [List.setIfInBounds_toArray, List.set_cons_zero, List.set_cons_succ]
  refine takeH (i := 13) (v := ?_) rfl rfl (by kernel_rfl) (by kernel_rfl) (by kernel_rfl) (fun _ _ _ h => h) (by rfl) ?_ (by assumption) ?_
  rotate_left 1
  · intro w hSw
    (try dsimp only at hSw)
    go_simp
    try with_reducible rfl
  try simp only [List.setIfInBounds_toArray, List.set_cons_zero, List.set_cons_succ]
  refine wpAnyH_ready (rs := [14]) (by kernel_rfl) (by simp) ?_
  refine AllReadyH.cons rfl (fun K hK => ?_) (AllReadyH.nil)
  go_simp
  refine (isize_any f b _ b0 b8).mono ?_
  rintro e w2 ⟨rfl, hb2⟩
  go_wp2_with fail
  refine hK.out _ _ ?_ (fun hNew => ?_)
  · exact ⟨cell_later hb2 hHeld.1, cell_later hb2 hHeld.2.1, next hHeld.2.2 hb2⟩
  clear hK K hHeld
  have hHeld := hNew
  clear hNew
  try simp only [Act.put, List.setIfInBounds_toArray, List.set_cons_zero, List.set_cons_succ]
  refine takeH (i := 15) (v := ?_) rfl rfl (by kernel_rfl) (by kernel_rfl) (by kernel_rfl) (fun _ _ _ h => h) (by rfl) ?_ (by assumption) ?_
  rotate_left 1
  · intro w hSw
    (try dsimp only at hSw)
    go_simp
    try with_reducible rfl
  try simp only [List.setIfInBounds_toArray, List.set_cons_zero, List.set_cons_succ]
  refine takeH (i := 16) (v := ?_) rfl rfl (by kernel_rfl) (by kernel_rfl) (by kernel_rfl) (fun _ _ _ h => h) (by rfl) ?_ (by assumption) ?_
  rotate_left 1
  · intro w hSw
    (try dsimp only at hSw)
    go_simp
    try with_reducible rfl
  try simp only [List.setIfInBounds_toArray, List.set_cons_zero, List.set_cons_succ]
  refine takeH (i := 17) (v := ?_) rfl rfl (by kernel_rfl) (by kernel_rfl) (by kernel_rfl) (fun _ _ _ h => h) (by rfl) ?_ (by assumption) ?_
  rotate_left 1
  · intro w hSw
    (try dsimp only at hSw)
    go_simp
    try with_reducible rfl
  try simp only [List.setIfInBounds_toArray, List.set_cons_zero, List.set_cons_succ]
  refine wpAnyH_done (by kernel_rfl) ?_ _
  go_wp2
  go_ret
  exact ⟨rfl, hHeld.2.2⟩

theorem ihas_any (f b a : Int) (w : World) (wa : a ≤ 9223372036854775807) :
    Calls Tryd.prog 100 #[.agg #[.int .i64 f, .int .i64 b], .int .i64 a] w fun e w' => e = .returned (.bool (hasB f b a)) ∧ Below w.heap.size w w' := by
  by_cases ho : okB f b = true
  · by_cases ha : f ≤ a
    · have e : hasB f b a = decide (a - f < sz b) := by rw [Bool.eq_iff_iff, hasB_iff]; simp [ho, ha]
      rw [e]; exact ihas_up f b a w ho ha wa
    · rw [hasB_no (by omega)]; exact ihas_low f b a w ho (by omega)
  · rw [hasB_no (by simp [ho])]; exact ihas_no f b a w (by simpa using ho)
theorem ihas_is {f b a : Int} {v : Bool} (h : hasB f b a = v) (w : World) (wa : a ≤ 9223372036854775807) :
    Calls Tryd.prog 100 #[.agg #[.int .i64 f, .int .i64 b], .int .i64 a] w fun e w' => e = .returned (.bool v) ∧ Below w.heap.size w w' := by
  rw [← h]; exact ihas_any f b a w wa

end Go.Proofs.YtnnmgbgkgnejlaaDoor

/-
  Which range is in which; how many addresses one has; which stands ahead.
-/
namespace Go.Proofs.YtnnmgbgkgnejlaaDoor
open Go.RowKit
set_option linter.unusedSimpArgs false

theorem alloc2 (w : World) (o o' : Obj) : Below w.heap.size w ((w.alloc o).alloc o') := ((Below.refl _ _).alloc (Nat.le_refl _) _).alloc (by simp) _

set_option maxHeartbeats 400000 in
theorem lin_any (f b g c : Int) (w : World) (ho : okB f b = true) (hg : okB g c = true) :
    Calls Tryd.prog 109 #[.agg #[.int .i64 f, .int .i64 b], .agg #[.int .i64 g, .int .i64 c]] w fun e w' => e = .returned (.bool (inB f b g c)) ∧ Below w.heap.size w w' := by
  obtain ⟨b0, b8, f0, f1, hm⟩ := (okB_iff f b).1 ho
  obtain ⟨c0, c8, g0, g1, hn⟩ := (okB_iff g c).1 hg
  clear hm hn
  by_cases hbc : c ≤ b
  · have hin : inB f b g c = hasB g c f := by rw [Bool.eq_iff_iff, inB_iff]; simp [ho, hbc]
    have HD := Lib.hid (hasB_div hg f0 f1)
    rw [hin]
    clear hin
    go_enter Tryd.func109, Tryd.ntmps109
    go_wp2_with fail
    refine (lhas_any g c f _ c0 c8 g0 f0 g1 f1).mono ?_
    rintro e w1 ⟨rfl, hb1⟩
    go_wp2
    go_ret
    exact ⟨ret_bool HD.out, next (alloc2 _ _ _) hb1⟩
  · rw [inB_no (by simp [hbc])]
    go_enter Tryd.func109, Tryd.ntmps109
    go_wp2
    go_ret
    exact ⟨rfl, alloc2 _ _ _⟩

set_option maxHeartbeats 400000 in
theorem sin_any (f b g c : Int) (w : World) :
    Calls Tryd.prog 98 #[.agg #[.int .i64 f, .int .i64 b], .agg #[.int .i64 g, .int .i64 c]] w fun e w' => e = .returned (.bool (inB f b g c)) ∧ Below w.heap.size w w' := by
  by_cases ho : okB f b = true
  · by_cases hg : okB g c = true
    · go_enter Tryd.func98, Tryd.ntmps98
      go_wp2_with fail
      refine (sok_is ho _).mono ?_
      rintro e w1 ⟨rfl, hb1⟩
      have k0 := cell_later (a := ⟨w.heap.size, 0, none⟩) (v := .int .i64 f) hb1 (by simp)
      have k1 := cell_later (a := ⟨w.heap.size, 1, none⟩) (v := .int .i64 b) hb1 (by simp)
      have k2 := cell_later (a := ⟨w.heap.size + 1, 0, none⟩) (v := .int .i64 g) hb1 (by simp)
      have k3 := cell_later (a := ⟨w.heap.size + 1, 1, none⟩) (v := .int .i64 c) hb1 (by simp)
      go_wp2_with fail
      refine (sok_is hg _).mono ?_
      rintro e w2 ⟨rfl, hb2⟩
      replace k0 := cell_later hb2 k0
      replace k1 := cell_later hb2 k1
      replace k2 := cell_later hb2 k2
      replace k3 := cell_later hb2 k3
      go_wp2_with fail
      refine (lin_any f b g c _ ho hg).mono ?_
      rintro e w3 ⟨rfl, hb3⟩
      go_wp2
      go_ret
      exact ⟨rfl, next (next (next (alloc2 _ _ _) hb1) hb2) hb3⟩
    · have hg' : okB g c = false := by simpa using hg
      have hr : inB f b g c = false := inB_no (fun h => hg ((hasB_iff g c f).1 h.2.1).1)
      rw [hr]
      clear hr hg
      go_enter Tryd.func98, Tryd.ntmps98
      go_wp2_with fail
      refine (sok_is ho _).mono ?_
      rintro e w1 ⟨rfl, hb1⟩
      have k0 := cell_later (a := ⟨w.heap.size, 0, none⟩) (v := .int .i64 f) hb1 (by simp)
      have k1 := cell_later (a := ⟨w.heap.size, 1, none⟩) (v := .int .i64 b) hb1 (by simp)
      have k2 := cell_later (a := ⟨w.heap.size + 1, 0, none⟩) (v := .int .i64 g) hb1 (by simp)
      have k3 := cell_later (a := ⟨w.heap.size + 1, 1, none⟩) (v := .int .i64 c) hb1 (by simp)
      go_wp2_with fail
      refine (sok_is hg' _).mono ?_
      rintro e w2 ⟨rfl, hb2⟩
      go_wp2
      go_ret
      exact ⟨rfl, next (next (alloc2 _ _ _) hb1) hb2⟩
  · have ho' : okB f b = false := by simpa using ho
    rw [inB_no (by simp [ho])]
    clear ho
    go_enter Tryd.func98, Tryd.ntmps98
    go_wp2_with fail
    refine (sok_is ho' _).mono ?_
    rintro e w1 ⟨rfl, hb1⟩
    go_wp2
    go_ret
    exact ⟨rfl, next (alloc2 _ _ _) hb1⟩

set_option maxHeartbeats 400000 in
theorem rin_any (f b g c : Int) (w : World) :
    Calls Tryd.prog 69 #[.agg #[.int .i64 f, .int .i64 b], .agg #[.int .i64 g, .int .i64 c]] w fun e w' => e = .returned (.bool (inB f b g c)) ∧ Below w.heap.size w w' := by
  by_cases ho : okB f b = true
  · obtain ⟨b0, b8, f0, f1, hm⟩ := (okB_iff f b).1 ho
    clear hm
    have f2 : f ≤ 9223372036854775807 := by omega
    by_cases hg : hasB g c f = true
    · have hr : inB f b g c = decide (c ≤ b) := by rw [Bool.eq_iff_iff, inB_iff]; simp [ho, hg]
      rw [hr]
      clear hr
      go_enter Tryd.func69, Tryd.ntmps69
      go_wp2_with fail
      refine (iok_is ho _).mono ?_
      rintro e w1 ⟨rfl, hb1⟩
      have k0 := cell_later (a := ⟨w.heap.size, 0, none⟩) (v := .int .i64 f) hb1 (by simp)
      have k1 := cell_later (a := ⟨w.heap.size, 1, none⟩) (v := .int .i64 b) hb1 (by simp)
      have k2 := cell_later (a := ⟨w.heap.size + 1, 0, none⟩) (v := .int .i64 g) hb1 (by simp)
      have k3 := cell_later (a := ⟨w.heap.size + 1, 1, none⟩) (v := .int .i64 c) hb1 (by simp)
      go_wp2_with fail
      refine (ihas_is hg _ f2).mono ?_
      rintro e w2 ⟨rfl, hb2⟩
      replace k0 := cell_later hb2 k0
      replace k1 := cell_later hb2 k1
      replace k2 := cell_later hb2 k2
      replace k3 := cell_later hb2 k3
      go_wp2
      go_ret
      exact ⟨rfl, next (next (alloc2 _ _ _) hb1) hb2⟩
    · have hg' : hasB g c f = false := by simpa using hg
      rw [inB_no (by simp [hg])]
      clear hg
      go_enter Tryd.func69, Tryd.ntmps69
      go_wp2_with fail
      refine (iok_is ho _).mono ?_
      rintro e w1 ⟨rfl, hb1⟩
      have k0 := cell_later (a := ⟨w.heap.size, 0, none⟩) (v := .int .i64 f) hb1 (by simp)
      have k1 := cell_later (a := ⟨w.heap.size, 1, none⟩) (v := .int .i64 b) hb1 (by simp)
      have k2 := cell_later (a := ⟨w.heap.size + 1, 0, none⟩) (v := .int .i64 g) hb1 (by simp)
      have k3 := cell_later (a := ⟨w.heap.size + 1, 1, none⟩) (v := .int .i64 c) hb1 (by simp)
      go_wp2_with fail
      refine (ihas_is hg' _ f2).mono ?_
      rintro e w2 ⟨rfl, hb2⟩
      go_wp2
      go_ret
      exact ⟨rfl, next (next (alloc2 _ _ _) hb1) hb2⟩
  · have ho' : okB f b = false := by simpa using ho
    rw [inB_no (by simp [ho])]
    clear ho
    go_enter Tryd.func69, Tryd.ntmps69
    go_wp2_with fail
    refine (iok_is ho' _).mono ?_
    rintro e w1 ⟨rfl, hb1⟩
    go_wp2
    go_ret
    exact ⟨rfl, next (alloc2 _ _ _) hb1⟩

/-- how many addresses -/
def manyI (f b : Int) : Int := if okB f b = true then sz b else 0

end Go.Proofs.YtnnmgbgkgnejlaaDoor

/-
  Which of two ranges stands ahead; whether two are the same; the laws 'the program answers as the model does' of chapter 1 (but for halves).
-/
namespace Go.Proofs.YtnnmgbgkgnejlaaDoor
open Go.RowKit
set_option linter.unusedSimpArgs false

/-- -1, 0, 1 -/
def cmp2 (x y : Int) : Int := if x < y then -1 else if y < x then 1 else 0

theorem cmpOk_no1 {f b g c : Int} (h : okB f b = false) : cmpOk f b g c = 0 := by simp [cmpOk, h]
theorem cmpOk_no2 {f b g c : Int} (h : okB g c = false) : cmpOk f b g c = 0 := by simp [cmpOk, h]
theorem cmpOk_yes {f b g c : Int} (h : okB f b = true) (k : okB g c = true) : cmpOk f b g c = cmpI f b g c := by simp [cmpOk, h, k]
theorem cmpI_ne {f b g c : Int} (h : f ≠ g) : cmpI f b g c = cmp2 f g := by
  unfold cmpI cmp2
  by_cases h1 : f < g
  · simp [h1]
  · have h2 : g < f := by omega
    simp [h1, h2]
theorem cmpI_eq {f b g c : Int} (h : f = g) : cmpI f b g c = cmp2 b c := by
  subst h; simp [cmpI, cmp2]

end Go.Proofs.YtnnmgbgkgnejlaaDoor

/-
  A struct of two ints that lies in a block: what keeps it, what turns it.
-/
namespace Go.Proofs.YtnnmgbgkgnejlaaDoor
open Go.RowKit

def At (w : World) (R : Nat) (x y : Int) : Prop :=
  w.cell? ⟨R, 0, none⟩ = some (.int .i64 x) ∧ w.cell? ⟨R, 1, none⟩ = some (.int .i64 y) ∧ w.frozen? ⟨R, 0, none⟩ = false ∧ w.frozen? ⟨R, 1, none⟩ = false

theorem At.new (w : World) (x y : Int) (t : TypeId) : At (w.alloc (.cells #[.int .i64 x, .int .i64 y] t)) w.heap.size x y := ⟨by simp, by simp, by simp, by simp⟩
theorem At.lt {w : World} {R : Nat} {x y : Int} (h : At w R x y) : R < w.heap.size := World.block_lt_of_cell? w _ h.1
theorem At.alloc {w : World} {R : Nat} {x y : Int} (h : At w R x y) (o : Obj) : At (w.alloc o) R x y :=
  ⟨cellA h.1 o, cellA h.2.1 o, frozA h.1 h.2.2.1 o, frozA h.2.1 h.2.2.2 o⟩
theorem At.below {w w' : World} {R : Nat} {x y : Int} (h : At w R x y) (k : Below w.heap.size w w') : At w' R x y :=
  ⟨cell_later k h.1, cell_later k h.2.1, by rw [k.frozen (p := ⟨R, 0, none⟩) h.lt]; exact h.2.2.1, by rw [k.frozen (p := ⟨R, 1, none⟩) h.lt]; exact h.2.2.2⟩
theorem At.only {w w' : World} {R B : Nat} {x y : Int} (h : At w R x y) (k : w.grownBy w' (some B)) (hne : R ≠ B) : At w' R x y :=
  ⟨only_cell k h.1 hne, only_cell k h.2.1 hne, only_frozen k h.1 h.2.2.1 hne, only_frozen k h.2.1 h.2.2.2 hne⟩
theorem At.drew {w : World} {R : Nat} {x y : Int} (h : At w R x y) : At w.drew R x y := h
theorem At.drewN {w : World} {R : Nat} {x y : Int} (h : At w R x y) (n : Nat) : At (w.drewN n) R x y := h
theorem At.far {w : World} {R : Nat} {x y : Int} (h : At w R x y) (q : Addr) (v : Value) (hne : q.block ≠ R) : At (w.setCell q v) R x y :=
  ⟨by rw [World.cell?_setCell_far _ _ _ _ hne]; exact h.1, by rw [World.cell?_setCell_far _ _ _ _ hne]; exact h.2.1,
   by rw [World.frozen?_setCell]; exact h.2.2.1, by rw [World.frozen?_setCell]; exact h.2.2.2⟩
theorem At.put {w : World} {R : Nat} {x y : Int} (h : At w R x y) (x' y' : Int) : At ((w.setCell ⟨R, 0, none⟩ (.int .i64 x')).setCell ⟨R, 1, none⟩ (.int .i64 y')) R x' y' := by
  refine ⟨?_, ?_, by rw [World.frozen?_setCell, World.frozen?_setCell]; exact h.2.2.1, by rw [World.frozen?_setCell, World.frozen?_setCell]; exact h.2.2.2⟩
  · rw [World.cell?_setCell_other _ _ _ _ (by simp)]; exact World.cell?_setCell_same' _ _ _ (by rw [h.1]; rfl)
  · exact World.cell?_setCell_same' _ _ _ (by rw [World.cell?_setCell_other _ _ _ _ (by simp), h.2.1]; rfl)
theorem At.put0 {w : World} {R : Nat} {x y : Int} (h : At w R x y) (x' : Int) : At (w.setCell ⟨R, 0, none⟩ (.int .i64 x')) R x' y := by
  refine ⟨World.cell?_setCell_same' _ _ _ (by rw [h.1]; rfl), ?_, by rw [World.frozen?_setCell]; exact h.2.2.1, by rw [World.frozen?_setCell]; exact h.2.2.2⟩
  rw [World.cell?_setCell_other _ _ _ _ (by simp)]; exact h.2.1
/-- the two stores of a struct, seen from elsewhere -/
theorem At.far2 {w : World} {R Q : Nat} {x y : Int} (h : At w R x y) (u v : Value) (hne : Q ≠ R) : At ((w.setCell ⟨Q, 0, none⟩ u).setCell ⟨Q, 1, none⟩ v) R x y :=
  (h.far ⟨Q, 0, none⟩ u hne).far ⟨Q, 1, none⟩ v hne
theorem rd_set2 {w : World} {B p Q : Nat} (h : Rd w B p) (u v : Value) (hq : B < Q) : Rd ((w.setCell ⟨Q, 0, none⟩ u).setCell ⟨Q, 1, none⟩ v) B p :=
  rd_set (rd_set h ⟨Q, 0, none⟩ u hq) ⟨Q, 1, none⟩ v hq
theorem only_set2 {a w : World} {row : Option Nat} {Q : Nat} (h : a.grownBy w row) (u v : Value) (hq : a.heap.size ≤ Q) : a.grownBy ((w.setCell ⟨Q, 0, none⟩ u).setCell ⟨Q, 1, none⟩ v) row :=
  only_new (only_new h ⟨Q, 0, none⟩ hq u) ⟨Q, 1, none⟩ hq v
theorem below_set2 {n : Nat} {a w : World} {Q : Nat} (h : Below n a w) (u v : Value) (hq : n ≤ Q) : Below n a ((w.setCell ⟨Q, 0, none⟩ u).setCell ⟨Q, 1, none⟩ v) :=
  (h.setCell (p := ⟨Q, 0, none⟩) hq u).setCell (p := ⟨Q, 1, none⟩) hq v
/-- only a reader's block has turned, which is new to w: nothing that was there in w has -/
theorem below_only {n : Nat} {w W w' : World} {B : Nat} (h : Below n w W) (hg : W.grownBy w' (some B)) (hn : n ≤ W.heap.size) (hB : n ≤ B) : Below n w w' :=
  h.grown hg hn (fun k e => by cases e; exact hB)

end Go.Proofs.YtnnmgbgkgnejlaaDoor

