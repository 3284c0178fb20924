/-
  The key of a seal as a map's key; a set of such keys, as a map says it.
-/
import Derived.Test.YtnnmgbgkgnejlaaDoorSlMk
import Derived.Test.YtnnmgbgkgnejlaaDoorMathS
import Derived.Maps.OwnSet
import Derived.DeepKeys4
namespace Go.Proofs.YtnnmgbgkgnejlaaDoor
open Go.RowKit
open Go.Maps (Keyed)
set_option linter.unusedSimpArgs false
set_option linter.unusedVariables false

theorem laidSk : laidOutB Tryd.prog = true := by kernel_rfl
theorem rowSk : (92 : TypeId) < Tryd.prog.types.size := of_decide_eq_true (by kernel_rfl)
theorem wideSk : (match Tryd.prog.underlying 92 with | some (.array _ _) | some (.struct _) => true | _ => false) = true := by kernel_rfl
set_option maxRecDepth 100000 in
theorem lawSk : Keyed Tryd.prog 92 := Keyed.of_law (deep_law_laid laidSk (m := 3) (by omega) rowSk (by kernel_rfl) wideSk)
def pathB (P : List Int) : ByteArray := ⟨(pkey P).toArray⟩
abbrev KS (p : SP) : Value := .agg #[.int .i64 p.y, .int .i64 p.t, .int .i64 p.f, .int .i64 p.b, .string (pathB p.P)]
def ks (p : SP) : Lit := .string (keyBytes [.int .i64 p.y, .int .i64 p.t, .int .i64 p.f, .int .i64 p.b, .string (pkey p.P)])
theorem iv_wf {p : Int} (h : Iv p) : (Lit.int .i64 p).wf = true := WalkArith.wf_i64 h
theorem kTypeSk : Tryd.prog.keyType 92 = true := by kernel_rfl
theorem cellsSk : Tryd.prog.cellsOf 92 = 5 := by kernel_rfl
theorem cellsIk : Tryd.prog.cellsOf 3 = 1 := by kernel_rfl
theorem cellsRk : Tryd.prog.cellsOf 24 = 2 := by kernel_rfl
theorem cellsTk : Tryd.prog.cellsOf 9 = 1 := by kernel_rfl
theorem sizeSk : ∃ d, Tryd.prog.types.size = d + 2 := ⟨Tryd.prog.types.size - 2, by have h : 2 ≤ Tryd.prog.types.size := of_decide_eq_true (by kernel_rfl); omega⟩
theorem litsIk {d : Nat} {p : Int} (hp : Iv p) : Tryd.prog.keyLits (d + 1) 3 [.int .i64 p] = some [.int .i64 p] := by
  simp [Program.keyLits, Tryd.underlying3, iv_wf hp]
theorem litsTk {d : Nat} {s : ByteArray} (hs : s.size ≤ maxLen) : Tryd.prog.keyLits (d + 1) 9 [.string s] = some [.string s.data.toList] := by
  simp [Program.keyLits, Tryd.underlying9, hs]
theorem litsRk {d : Nat} {p q : Int} (hp : Iv p) (hq : Iv q) : Tryd.prog.keyLits (d + 2) 24 [.int .i64 p, .int .i64 q] = some [.int .i64 p, .int .i64 q] := by
  simp [Program.keyLits, Tryd.underlying24, Tryd.underlying3, cellsRk, cellsIk, iv_wf hp, iv_wf hq]
theorem pathB_size {P : List Int} (h : ∀ x ∈ P, Iv x) (hl : P.length ≤ 2000000) : (pathB P).size ≤ maxLen := by
  have h1 := pkey_len P h
  have h2 : (pathB P).size = (pkey P).length := by simp [pathB, ByteArray.size]
  rw [h2]; unfold maxLen; omega
theorem keySk {p : SP} (h : SpW p) (hl : p.P.length ≤ 2000000) : keyOf Tryd.prog 92 (KS p) = some (ks p) := by
  obtain ⟨d, hd⟩ := sizeSk
  have h1 : (KS p).formed Tryd.prog 92 = true := by simp [Value.formed, Tryd.underlying92, cellsSk]
  have h2 : Tryd.prog.keyLits (Tryd.prog.types.size + 1) 92 [.int .i64 p.y, .int .i64 p.t, .int .i64 p.f, .int .i64 p.b, .string (pathB p.P)] = some [.int .i64 p.y, .int .i64 p.t, .int .i64 p.f, .int .i64 p.b, .string (pkey p.P)] := by
    rw [hd]
    unfold Program.keyLits
    simp only [Tryd.underlying92, cellsSk]
    simp [cellsIk, cellsRk, cellsTk, litsIk h.y, litsIk h.t, litsRk h.f h.b, litsTk (pathB_size h.P hl)]
    rfl
  have h3 : (KS p).cells.toList = [.int .i64 p.y, .int .i64 p.t, .int .i64 p.f, .int .i64 p.b, .string (pathB p.P)] := rfl
  simp only [keyOf, Tryd.underlying92, kTypeSk, h1, h3, h2, Bool.and_self, if_true, Option.map_some, ks]
theorem pathB_inj {P Q : List Int} (h : pathB P = pathB Q) : P = Q := by
  apply pkey_inj
  unfold pathB at h
  injection h with h
  simpa using h
theorem ks_inj {p q : SP} (hp : SpW p) (hq : SpW q) (lp : p.P.length ≤ 2000000) (lq : q.P.length ≤ 2000000) (e : ks p = ks q) : p = q := by
  have h := lawSk.inj (keySk hp lp) (by rw [e]; exact keySk hq lq)
  obtain ⟨y, t, f, b, P⟩ := p
  obtain ⟨y', t', f', b', P'⟩ := q
  injection h with h
  simp only [Array.mk.injEq, List.cons.injEq, Value.int.injEq, true_and, Value.string.injEq, and_true] at h
  obtain ⟨rfl, rfl, rfl, rfl, h⟩ := h
  rw [pathB_inj h]
/-! a set of seals -/
abbrev MDs := DataW Unit
abbrev OwnSt (w : World) (b n : Nat) (D : MDs) : Prop := w.ownsMap Tryd.prog 92 unitElem b n D
structure KnS (S : List SP) (D : MDs) : Prop where
  im : Maps.IsMap D
  hs : ∀ p, SpW p → p.P.length ≤ 2000000 → Maps.has D (ks p) = decide (p ∈ S)
theorem KnS.made : KnS [] (.map []) := ⟨Maps.isMap_empty, fun p _ _ => rfl⟩
theorem KnS.put {S : List SP} {D : MDs} (h : KnS S D) {p : SP} (hp : SpW p) (hl : p.P.length ≤ 2000000) : KnS (S ++ [p]) (D.put (ks p) (.agg [])) := by
  have hk := lawSk.key (keySk hp hl)
  refine ⟨h.im.put _ _, fun q hq ql => ?_⟩
  by_cases e : q = p
  · subst e
    rw [Maps.has_put_same h.im hk]; simp
  · rw [Maps.has_put_other (fun k => e (ks_inj hq hp ql hl k)), h.hs q hq ql]; simp [e]
theorem zeroU (w : World) : (zeroValue 124).run Tryd.prog w = .ok (.agg #[]) w := by kernel_rfl
/-- the set that a call made -/
structure SetS (w : World) (S : List SP) (b n : Nat) : Prop where
  own : ∃ D, OwnSt w b n D ∧ KnS S D
theorem SetS.below {w w' : World} {S : List SP} {b n : Nat} (h : SetS w S b n) (k : Below w.heap.size w w') : SetS w' S b n := by
  obtain ⟨D, ho, hk⟩ := h.own
  exact ⟨D, ho.kept (row := none) ⟨k.os, k.tape, k.output, k.size, fun i hi _ => k.block i hi⟩ (by simp), hk⟩
theorem SetS.lt {w : World} {S : List SP} {b n : Nat} (h : SetS w S b n) : b < w.heap.size := by
  obtain ⟨D, ho, hk⟩ := h.own
  exact ho.lt
end Go.Proofs.YtnnmgbgkgnejlaaDoor
