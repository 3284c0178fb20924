/-
  A trie of nodes in memory: which node lies where (by its range), what it holds; what a new node and a store make of it.
-/
import Derived.Test.YtnabcffpficgcaaProg
import Derived.Test.YtnabcffpficgcaaBase
import Derived.Test.YtnabcffpficgcaaMathT
import Derived.Test.YtnabcffpficgcaaBox
namespace Go.Proofs.Ytnabcffpficgcaa
open Go.RowKit

/-- the first address of a half -/
def kidF (f b : Int) (u : Bool) : Int := if u then f + sz (b + 1) else f
theorem kid_ok {f b : Int} (h : okB f b = true) (h8 : b < 8) (u : Bool) : okB (kidF f b u) (b + 1) = true := by
  cases u
  · exact ok_lower h h8
  · exact ok_upper h h8
/-- a half is the half of one range, and one half of it -/
theorem kid_one {f b g c : Int} {u v : Bool} (hf : okB f b = true) (hg : okB g c = true) (h8 : b < 8) (h : kidF f b u = kidF g c v) (hb : b + 1 = c + 1) : f = g ∧ b = c ∧ u = v := by
  obtain rfl : b = c := by omega
  obtain ⟨b0, b8, f0, f1, hm⟩ := (okB_iff f b).1 hf
  obtain ⟨_, _, g0, g1, hn⟩ := (okB_iff g b).1 hg
  have k : b = 0 ∨ b = 1 ∨ b = 2 ∨ b = 3 ∨ b = 4 ∨ b = 5 ∨ b = 6 ∨ b = 7 := by omega
  cases u <;> cases v <;> simp only [kidF, if_true, if_false, Bool.false_eq_true] at h
  · exact ⟨h, rfl, rfl⟩
  · exfalso; rcases k with rfl | rfl | rfl | rfl | rfl | rfl | rfl | rfl <;> simp [sz] at hm hn h <;> omega
  · exfalso; rcases k with rfl | rfl | rfl | rfl | rfl | rfl | rfl | rfl <;> simp [sz] at hm hn h <;> omega
  · exact ⟨by omega, rfl, rfl⟩

/-- where the nodes lie -/
abbrev Ph := Int → Int → Option Nat
def ptrN (o : Option Nat) : Value := .pointer (o.map fun p => ⟨p, 0, none⟩)
theorem ptrN_some (p : Nat) : ptrN (some p) = .pointer (some ⟨p, 0, none⟩) := rfl
theorem ptrN_none : ptrN none = .pointer none := rfl

structure TrieP (w : World) (base root : Nat) (φ : Ph) (V : VV) : Prop where
  root : φ 0 0 = some root
  ok : ∀ {f b : Int} {p : Nat}, φ f b = some p → okB f b = true ∧ base ≤ p
  via : ∀ {f b : Int} {p : Nat}, φ f b = some p → w.cell? ⟨p, 0, none⟩ = some (.int .i64 (V f b)) ∧ w.frozen? ⟨p, 0, none⟩ = false
  kid : ∀ {f b : Int} {p : Nat}, φ f b = some p → ∀ u : Bool, w.cell? ⟨p, 1 + u.toNat, none⟩ = some (ptrN (φ (kidF f b u) (b + 1))) ∧ w.frozen? ⟨p, 1 + u.toNat, none⟩ = false
  inj : ∀ {f b g c : Int} {p : Nat}, φ f b = some p → φ g c = some p → f = g ∧ b = c
  zero : ∀ {f b : Int}, φ f b = none → V f b = 0
  closed : ∀ {f b : Int}, okB f b = true → b < 8 → φ f b = none → ∀ u : Bool, φ (kidF f b u) (b + 1) = none

theorem TrieP.lt {w : World} {base root : Nat} {φ : Ph} {V : VV} (h : TrieP w base root φ V) {f b : Int} {p : Nat} (k : φ f b = some p) : p < w.heap.size := World.block_lt_of_cell? w _ (h.via k).1
theorem TrieP.lo {w : World} {base root : Nat} {φ : Ph} {V : VV} (h : TrieP w base root φ V) {f b : Int} {p : Nat} (k : φ f b = some p) : w.cell? ⟨p, 1, none⟩ = some (ptrN (φ f (b + 1))) ∧ w.frozen? ⟨p, 1, none⟩ = false := h.kid k false
theorem TrieP.up {w : World} {base root : Nat} {φ : Ph} {V : VV} (h : TrieP w base root φ V) {f b : Int} {p : Nat} (k : φ f b = some p) : w.cell? ⟨p, 2, none⟩ = some (ptrN (φ (f + sz (b + 1)) (b + 1))) ∧ w.frozen? ⟨p, 2, none⟩ = false := h.kid k true
/-- a world that holds the nodes' blocks as they were -/
theorem TrieP.keep {w w' : World} {base root : Nat} {φ : Ph} {V : VV} (h : TrieP w base root φ V) (k : ∀ f b p, φ f b = some p → w'.heap[p]? = w.heap[p]?) : TrieP w' base root φ V :=
  ⟨h.root, h.ok, fun e => ⟨(World.cell?_of_block (w := w) (a := ⟨_, 0, none⟩) (k _ _ _ e)).trans (h.via e).1, (World.frozen?_of_block (w := w) (a := ⟨_, 0, none⟩) (k _ _ _ e)).trans (h.via e).2⟩,
   fun e u => ⟨(World.cell?_of_block (w := w) (a := ⟨_, 1 + u.toNat, none⟩) (k _ _ _ e)).trans (h.kid e u).1, (World.frozen?_of_block (w := w) (a := ⟨_, 1 + u.toNat, none⟩) (k _ _ _ e)).trans (h.kid e u).2⟩,
   h.inj, h.zero, h.closed⟩
theorem TrieP.below {w w' : World} {base root n : Nat} {φ : Ph} {V : VV} (h : TrieP w base root φ V) (hb : Below n w w') (hn : ∀ f b p, φ f b = some p → p < n) : TrieP w' base root φ V :=
  h.keep fun f b p e => hb.block p (hn f b p e)
theorem TrieP.later {w w' : World} {base root : Nat} {φ : Ph} {V : VV} (h : TrieP w base root φ V) (hb : Below w.heap.size w w') : TrieP w' base root φ V := h.below hb fun _ _ _ e => h.lt e
theorem TrieP.alloc {w : World} {base root : Nat} {φ : Ph} {V : VV} (h : TrieP w base root φ V) (o : Obj) : TrieP (w.alloc o) base root φ V := h.keep fun _ _ _ e => Below.heap_alloc w o _ (h.lt e)
theorem TrieP.drew {w : World} {base root : Nat} {φ : Ph} {V : VV} (h : TrieP w base root φ V) : TrieP w.drew base root φ V := h.keep fun _ _ _ _ => rfl
theorem TrieP.drewN {w : World} {base root : Nat} {φ : Ph} {V : VV} (h : TrieP w base root φ V) (n : Nat) : TrieP (w.drewN n) base root φ V := h.keep fun _ _ _ _ => rfl
theorem TrieP.far {w : World} {base root : Nat} {φ : Ph} {V : VV} (h : TrieP w base root φ V) (a : Addr) (v : Value) (hn : ∀ f b, φ f b ≠ some a.block) : TrieP (w.setCell a v) base root φ V :=
  h.keep fun f b p e => Below.heap_setCell w a v p (fun k => hn f b (by rw [e, k]))

/-- one node's number is turned -/
theorem TrieP.put {w : World} {base root : Nat} {φ : Ph} {V : VV} (h : TrieP w base root φ V) {f b : Int} {p : Nat} (k : φ f b = some p) (v : Int) :
    TrieP (w.setCell ⟨p, 0, none⟩ (.int .i64 v)) base root φ (updV V (f, b, v)) := by
  refine ⟨h.root, h.ok, fun {g c q} e => ?_, fun {g c q} e u => ?_, h.inj, fun {g c} e => ?_, h.closed⟩
  · refine ⟨?_, by rw [World.frozen?_setCell]; exact (h.via e).2⟩
    by_cases hq : q = p
    · subst hq
      obtain ⟨rfl, rfl⟩ := h.inj e k
      rw [World.cell?_setCell_same' _ _ _ (by rw [(h.via e).1]; rfl)]
      simp [updV]
    · rw [World.cell?_setCell_far _ _ _ _ (fun e' => hq (by simpa using e'.symm))]
      have hne : ¬ (g = f ∧ c = b) := fun ⟨h1, h2⟩ => hq (by rw [h1, h2, k] at e; simpa using e.symm)
      rw [(h.via e).1]
      simp only [updV]; rw [if_neg hne]
  · refine ⟨?_, by rw [World.frozen?_setCell]; exact (h.kid e u).2⟩
    rw [World.cell?_setCell_other _ _ _ _ (by first | (simp; done) | (simp; omega))]
    exact (h.kid e u).1
  · have hne : ¬ (g = f ∧ c = b) := fun ⟨h1, h2⟩ => by rw [h1, h2, k] at e; cases e
    simp only [updV]; rw [if_neg hne]; exact h.zero e

def nodeO (t : TypeId) : Obj := .cells #[.int .i64 0, .pointer none, .pointer none] t
def phSet (φ : Ph) (f b : Int) (p : Nat) : Ph := fun g c => if g = f ∧ c = b then some p else φ g c
theorem phSet_same (φ : Ph) (f b : Int) (p : Nat) : phSet φ f b p f b = some p := by simp [phSet]
theorem phSet_other (φ : Ph) {f b g c : Int} (p : Nat) (h : ¬ (g = f ∧ c = b)) : phSet φ f b p g c = φ g c := by simp [phSet, h]

/-- the trie of one node -/
theorem TrieP.new (w : World) (t : TypeId) : TrieP (w.alloc (nodeO t)) w.heap.size w.heap.size (phSet (fun _ _ => none) 0 0 w.heap.size) (fun _ _ => 0) := by
  have at0 : ∀ {f b : Int} {p : Nat}, phSet (fun _ _ => none) 0 0 w.heap.size f b = some p → f = 0 ∧ b = 0 ∧ p = w.heap.size := fun {f b p} e => by
    by_cases h : f = 0 ∧ b = 0
    · obtain ⟨rfl, rfl⟩ := h
      rw [phSet_same] at e
      exact ⟨rfl, rfl, by simpa using e.symm⟩
    · rw [phSet_other _ _ h] at e; cases e
  have no1 : ∀ u : Bool, phSet (fun _ _ => none) 0 0 w.heap.size (kidF 0 0 u) (0 + 1) = none := fun u => phSet_other _ _ (by omega)
  refine ⟨phSet_same _ _ _ _, fun e => ?_, fun e => ?_, fun e u => ?_, fun e e' => ?_, fun _ => rfl, fun {f b} ok h8 e u => ?_⟩
  · obtain ⟨rfl, rfl, rfl⟩ := at0 e; exact ⟨ok_all, Nat.le_refl _⟩
  · obtain ⟨rfl, rfl, rfl⟩ := at0 e; exact ⟨by simp [nodeO], by simp [nodeO]⟩
  · obtain ⟨rfl, rfl, rfl⟩ := at0 e
    rw [no1 u]
    cases u <;> exact ⟨by simp [nodeO, ptrN], by simp [nodeO]⟩
  · obtain ⟨rfl, rfl, rfl⟩ := at0 e; obtain ⟨rfl, rfl, _⟩ := at0 e'; exact ⟨rfl, rfl⟩
  · exact phSet_other _ _ (fun h => by have := (okB_iff _ _).1 ok; omega)

/-- a new node below one that is there -/
theorem TrieP.grow {w : World} {base root : Nat} {φ : Ph} {V : VV} (h : TrieP w base root φ V) {f b : Int} {p : Nat} (k : φ f b = some p) (h8 : b < 8) (u : Bool) (hn : φ (kidF f b u) (b + 1) = none) (hb : base ≤ w.heap.size) (t : TypeId) :
    TrieP ((w.alloc (nodeO t)).setCell ⟨p, 1 + u.toNat, none⟩ (.pointer (some ⟨w.heap.size, 0, none⟩))) base root (phSet φ (kidF f b u) (b + 1) w.heap.size) V := by
  have okf := (h.ok k).1
  have okk := kid_ok okf h8 u
  have b0 := ((okB_iff _ _).1 okf).1
  have hp := h.lt k
  have old : ∀ {g c : Int} {q : Nat}, ¬ (g = kidF f b u ∧ c = b + 1) → phSet φ (kidF f b u) (b + 1) w.heap.size g c = some q → φ g c = some q := fun ne e => by rwa [phSet_other _ _ ne] at e
  have hkk : ∀ v : Bool, phSet φ (kidF f b u) (b + 1) w.heap.size (kidF (kidF f b u) (b + 1) v) (b + 1 + 1) = none := fun v => by
    rw [phSet_other _ _ (by omega)]
    by_cases h9 : b + 1 < 8
    · exact h.closed okk h9 hn v
    · cases e : φ (kidF (kidF f b u) (b + 1) v) (b + 1 + 1) with
      | none => rfl
      | some q => have := (okB_iff _ _).1 (h.ok e).1; omega
  refine ⟨?_, fun {g c q} e => ?_, fun {g c q} e => ?_, fun {g c q} e v => ?_, fun {g c g' c' q} e e' => ?_, fun {g c} e => ?_, fun {g c} ok c8 e v => ?_⟩
  · rw [phSet_other _ _ (by omega)]; exact h.root
  · by_cases ne : g = kidF f b u ∧ c = b + 1
    · obtain ⟨rfl, rfl⟩ := ne
      rw [phSet_same] at e
      obtain rfl : w.heap.size = q := by simpa using e
      exact ⟨okk, hb⟩
    · exact h.ok (old ne e)
  · by_cases ne : g = kidF f b u ∧ c = b + 1
    · obtain ⟨rfl, rfl⟩ := ne
      rw [phSet_same] at e
      obtain rfl : w.heap.size = q := by simpa using e
      rw [h.zero hn]
      refine ⟨?_, by rw [World.frozen?_setCell]; simp [nodeO]⟩
      rw [World.cell?_setCell_far _ _ _ _ (by simp; omega)]
      simp [nodeO]
    · have e' := old ne e
      refine ⟨?_, by rw [World.frozen?_setCell]; exact frozA (h.via e').1 (h.via e').2 _⟩
      rw [World.cell?_setCell_other _ _ _ _ (by first | (simp; done) | (simp; omega))]
      exact cellA (h.via e').1 _
  · by_cases ne : g = kidF f b u ∧ c = b + 1
    · obtain ⟨rfl, rfl⟩ := ne
      rw [phSet_same] at e
      obtain rfl : w.heap.size = q := by simpa using e
      rw [hkk v]
      refine ⟨?_, by rw [World.frozen?_setCell]; cases v <;> simp [nodeO]⟩
      rw [World.cell?_setCell_far _ _ _ _ (by simp; omega)]
      cases v <;> simp [nodeO, ptrN]
    · have e' := old ne e
      have okg := (h.ok e').1
      refine ⟨?_, by rw [World.frozen?_setCell]; exact frozA (h.kid e' v).1 (h.kid e' v).2 _⟩
      by_cases hq : q = p ∧ v = u
      · obtain ⟨rfl, rfl⟩ := hq
        obtain ⟨rfl, rfl⟩ := h.inj e' k
        rw [World.cell?_setCell_same' _ _ _ (by rw [cellA (h.kid e' v).1 _]; rfl), phSet_same]
        rfl
      · rw [World.cell?_setCell_other _ _ _ _ (fun e2 => hq (by
          simp only [Addr.mk.injEq, and_true] at e2
          refine ⟨e2.1.symm, ?_⟩
          have := e2.2
          cases u <;> cases v <;> simp at this <;> rfl))]
        rw [cellA (h.kid e' v).1 _]
        by_cases hk : kidF g c v = kidF f b u ∧ c + 1 = b + 1
        · exfalso
          obtain ⟨rfl, rfl, rfl⟩ := kid_one okg okf (by omega) hk.1 hk.2
          rw [k] at e'
          exact hq ⟨by simpa using e'.symm, rfl⟩
        · rw [phSet_other _ _ hk]
  · by_cases ne : g = kidF f b u ∧ c = b + 1
    · by_cases ne' : g' = kidF f b u ∧ c' = b + 1
      · exact ⟨by rw [ne.1, ne'.1], by rw [ne.2, ne'.2]⟩
      · obtain ⟨rfl, rfl⟩ := ne
        rw [phSet_same] at e
        obtain rfl : w.heap.size = q := by simpa using e
        have := h.lt (old ne' e'); omega
    · by_cases ne' : g' = kidF f b u ∧ c' = b + 1
      · obtain ⟨rfl, rfl⟩ := ne'
        rw [phSet_same] at e'
        obtain rfl : w.heap.size = q := by simpa using e'
        have := h.lt (old ne e); omega
      · exact h.inj (old ne e) (old ne' e')
  · by_cases ne : g = kidF f b u ∧ c = b + 1
    · obtain ⟨rfl, rfl⟩ := ne
      rw [phSet_same] at e; cases e
    · rw [phSet_other _ _ ne] at e; exact h.zero e
  · by_cases ne : g = kidF f b u ∧ c = b + 1
    · obtain ⟨rfl, rfl⟩ := ne
      rw [phSet_same] at e; cases e
    · rw [phSet_other _ _ ne] at e
      by_cases hk : kidF g c v = kidF f b u ∧ c + 1 = b + 1
      · exfalso
        obtain ⟨rfl, rfl, rfl⟩ := kid_one ok okf c8 hk.1 hk.2
        rw [k] at e; cases e
      · rw [phSet_other _ _ hk]; exact h.closed ok c8 e v

/-- all blocks but a trie's own nodes are as they were -/
structure OffP (φ : Ph) (w w' : World) : Prop where
  os : w'.os = w.os
  tape : w'.tape = w.tape
  output : w'.output = w.output
  size : w.heap.size ≤ w'.heap.size
  block : ∀ i, i < w.heap.size → (∀ f b, φ f b ≠ some i) → w'.heap[i]? = w.heap[i]?
theorem OffP.refl (φ : Ph) (w : World) : OffP φ w w := ⟨rfl, rfl, rfl, Nat.le_refl _, fun _ _ _ => rfl⟩
theorem OffP.below {φ : Ph} {w w' : World} {n : Nat} (h : OffP φ w w') (hn : n ≤ w.heap.size) (hp : ∀ f b p, φ f b = some p → n ≤ p) : Below n w w' :=
  ⟨h.os, h.tape, h.output, h.size, fun i hi => h.block i (by omega) fun f b e => by have := hp f b i e; omega⟩
theorem OffP.cell {φ : Ph} {w w' : World} (h : OffP φ w w') {a : Addr} {v : Value} (hc : w.cell? a = some v) (ha : ∀ f b, φ f b ≠ some a.block) : w'.cell? a = some v :=
  (World.cell?_of_block (w := w) (h.block a.block (World.block_lt_of_cell? w a hc) ha)).trans hc
theorem OffP.frozen {φ : Ph} {w w' : World} (h : OffP φ w w') {a : Addr} {v : Value} (hc : w.cell? a = some v) (hf : w.frozen? a = false) (ha : ∀ f b, φ f b ≠ some a.block) : w'.frozen? a = false :=
  (World.frozen?_of_block (w := w) (h.block a.block (World.block_lt_of_cell? w a hc) ha)).trans hf
/-- nodes of the one: nodes of the other, or new -/
def Newer (w : World) (φ ψ : Ph) : Prop := ∀ f b p, ψ f b = some p → φ f b = some p ∨ w.heap.size ≤ p
theorem Newer.refl (w : World) (φ : Ph) : Newer w φ φ := fun _ _ _ h => .inl h
theorem OffP.step {φ ψ : Ph} {w w' w2 : World} (h : OffP φ w w') (k : OffP ψ w' w2) (hn : Newer w φ ψ) : OffP φ w w2 :=
  ⟨k.os.trans h.os, k.tape.trans h.tape, k.output.trans h.output, Nat.le_trans h.size k.size,
   fun i hi hp => (k.block i (by have := h.size; omega) fun f b e => by rcases hn f b i e with e' | e'; exact hp f b e'; omega).trans (h.block i hi hp)⟩
theorem OffP.alloc {φ : Ph} {w w' : World} (h : OffP φ w w') (o : Obj) : OffP φ w (w'.alloc o) :=
  ⟨h.os, h.tape, h.output, Nat.le_trans h.size (by simp), fun i hi hp => (Below.heap_alloc w' o i (by have := h.size; omega)).trans (h.block i hi hp)⟩
theorem OffP.setCell {φ : Ph} {w w' : World} (h : OffP φ w w') (a : Addr) (v : Value) (ha : (∃ f b, φ f b = some a.block) ∨ w.heap.size ≤ a.block) : OffP φ w (w'.setCell a v) :=
  ⟨h.os, h.tape, h.output, by simpa [World.setCell] using h.size, fun i hi hp => by
    refine (Below.heap_setCell w' a v i ?_).trans (h.block i hi hp)
    rintro rfl
    rcases ha with ⟨f, b, e⟩ | e
    · exact hp f b e
    · omega⟩
theorem OffP.later {φ : Ph} {w w' w2 : World} (h : OffP φ w w') (k : Below w'.heap.size w' w2) : OffP φ w w2 :=
  ⟨k.os.trans h.os, k.tape.trans h.tape, k.output.trans h.output, Nat.le_trans h.size k.size, fun i hi hp => (k.block i (by have := h.size; omega)).trans (h.block i hi hp)⟩
theorem OffP.drew {φ : Ph} {w w' : World} (h : OffP φ w w') : OffP φ w w'.drew := ⟨h.os, h.tape, h.output, h.size, h.block⟩
theorem OffP.drewN {φ : Ph} {w w' : World} (h : OffP φ w w') (n : Nat) : OffP φ w (w'.drewN n) := ⟨h.os, h.tape, h.output, h.size, h.block⟩

/-- 'x & 1' -/
theorem and_one (x : Int) (h1 : 0 ≤ x) (h2 : x ≤ 255) : bits .and .i64 x 1 = x % 2 := by
  obtain ⟨a, rfl⟩ := Int.eq_ofNat_of_zero_le h1
  have e1 : (BitVec.ofInt 64 (a : Int)).toNat = a := by
    rw [BitVec.ofInt_natCast, BitVec.toNat_ofNat]; exact Nat.mod_eq_of_lt (by omega)
  show IntKind.i64.wrap ((BitVec.ofInt 64 (a : Int) &&& BitVec.ofInt 64 ((1 : Nat) : Int)).toNat : Int) = _
  rw [BitVec.toNat_and, e1, show (BitVec.ofInt 64 ((1 : Nat) : Int)).toNat = 1 from rfl, Nat.and_one_is_mod]
  simp [IntKind.wrap, IntKind.bits, IntKind.signed]
  omega
theorem bit_eq {a d : Int} (d0 : 0 ≤ d) (d8 : d < 8) (a0 : 0 ≤ a) (a1 : a ≤ 255) : bits .and .i64 (a / 2 ^ (7 - d).toNat) 1 = bitB a d := by
  have h : d = 0 ∨ d = 1 ∨ d = 2 ∨ d = 3 ∨ d = 4 ∨ d = 5 ∨ d = 6 ∨ d = 7 := by omega
  have e : a / 2 ^ (7 - d).toNat = a / sz (d + 1) := by
    rcases h with rfl | rfl | rfl | rfl | rfl | rfl | rfl | rfl <;> simp [sz]
  have s := sz_bd (b := d + 1) (by omega) (by omega)
  rw [e, and_one _ (Int.ediv_nonneg a0 (by omega)) (Int.le_trans (Int.ediv_le_self _ a0) a1)]
  rfl

end Go.Proofs.Ytnabcffpficgcaa
