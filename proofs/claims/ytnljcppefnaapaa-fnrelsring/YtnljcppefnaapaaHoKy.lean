/-
  Pairs of houses as keys of a map: what such a key reads as; a map that says what houses are to each other.
-/
import Derived.Test.YtnljcppefnaapaaHoMem
import Derived.Maps.RangeWalk
import Derived.DeepKeys4
namespace Go.Proofs.Ytnljcppefnaapaa
open Go.RowKit
open Go.Maps (Keyed)
set_option linter.unusedSimpArgs false
set_option linter.unusedVariables false

theorem laidK : laidOutB Try.prog = true := by kernel_rfl
theorem rowK : (63 : TypeId) < Try.prog.types.size := of_decide_eq_true (by kernel_rfl)
theorem wideK : (match Try.prog.underlying 63 with | some (.array _ _) | some (.struct _) => true | _ => false) = true := by kernel_rfl
theorem lawK : Keyed Try.prog 63 := Keyed.of_law (deep_law_laid laidK (m := 2) (by omega) rowK (by kernel_rfl) wideK)
abbrev KV (p q : Int) : Value := .agg #[.int .i64 p, .int .i64 q]
def kp (p q : Int) : Lit := .string (keyBytes [.int .i64 p, .int .i64 q])
abbrev Iw (p : Int) : Prop := (Lit.int .i64 p).wf = true
theorem kTypeK : Try.prog.keyType 63 = true := by kernel_rfl
theorem cellsK : Try.prog.cellsOf 63 = 2 := by kernel_rfl
theorem cellsIK : Try.prog.cellsOf 3 = 1 := by kernel_rfl
theorem sizeK : ∃ d, Try.prog.types.size = d + 1 := ⟨Try.prog.types.size - 1, by have h : (63 : Nat) < Try.prog.types.size := rowK; omega⟩
theorem litsI {d : Nat} {p : Int} (hp : Iw p) : Try.prog.keyLits (d + 1) 3 [.int .i64 p] = some [.int .i64 p] := by
  simp [Program.keyLits, Try.underlying3, hp]
theorem keyP {p q : Int} (hp : Iw p) (hq : Iw q) : keyOf Try.prog 63 (KV p q) = some (kp p q) := by
  obtain ⟨d, hd⟩ := sizeK
  have h1 : (KV p q).formed Try.prog 63 = true := by simp [Value.formed, Try.underlying63, cellsK]
  have h2 : Try.prog.keyLits (Try.prog.types.size + 1) 63 [.int .i64 p, .int .i64 q] = some [.int .i64 p, .int .i64 q] := by
    rw [hd]
    simp [Program.keyLits, Try.underlying63, Try.underlying3, cellsK, cellsIK, hp, hq]
  have h3 : (KV p q).cells.toList = [.int .i64 p, .int .i64 q] := rfl
  simp only [keyOf, Try.underlying63, kTypeK, h1, h3, h2, Bool.and_self, if_true, Option.map_some, kp]
theorem litsI_inv {d : Nat} {x : Value} {l : List Lit} (h : Try.prog.keyLits (d + 1) 3 [x] = some l) : ∃ p, x = .int .i64 p ∧ l = [.int .i64 p] ∧ Iw p := by
  unfold Program.keyLits at h
  cases x <;> simp [Try.underlying3] at h
  obtain ⟨⟨rfl, hw⟩, rfl⟩ := h
  exact ⟨_, rfl, rfl, hw⟩
theorem keyP_inv {v : Value} {kl : Lit} (h : keyOf Try.prog 63 v = some kl) : ∃ p q, v = KV p q ∧ kl = kp p q ∧ Iw p ∧ Iw q := by
  obtain ⟨d, hd⟩ := sizeK
  simp only [keyOf, Try.underlying63, kTypeK, Bool.true_and] at h
  split at h
  · rename_i hf
    cases v <;> simp [Value.formed, Try.underlying63, cellsK] at hf
    rename_i cs
    obtain ⟨l⟩ := cs
    match l, hf with
    | [x, y], _ =>
      have hc : (Value.agg #[x, y]).cells.toList = [x, y] := rfl
      rw [hd, hc] at h
      unfold Program.keyLits at h
      cases hx : Try.prog.keyLits (d + 1) 3 [x] with
      | none => simp [Try.underlying63, cellsK, cellsIK, hx] at h
      | some lx =>
        cases hy : Try.prog.keyLits (d + 1) 3 [y] with
        | none => simp [Try.underlying63, cellsK, cellsIK, hx, hy] at h
        | some ly =>
          obtain ⟨p, rfl, rfl, hp⟩ := litsI_inv hx
          obtain ⟨q, rfl, rfl, hq⟩ := litsI_inv hy
          simp [Try.underlying63, cellsK, cellsIK, hx, hy] at h
          exact ⟨p, q, rfl, h.symm, hp, hq⟩
  · cases h
theorem kp_inj {p q p' q' : Int} (hp : Iw p) (hq : Iw q) (hp' : Iw p') (hq' : Iw q') (e : kp p q = kp p' q') : p = p' ∧ q = q' := by
  have h := lawK.inj (keyP hp hq) (by rw [e]; exact keyP hp' hq')
  injection h with h
  simpa using h
/-! what houses are to each other, as a map says it -/
abbrev MD := DataW Unit
def upd (f : Int → Int → Int) (a b v : Int) : Int → Int → Int := fun p q => if p = a ∧ q = b then v else f p q
structure Kn (f : Int → Int → Int) (D : MD) : Prop where
  im : Maps.IsMap D
  hs : ∀ p q, Iw p → Iw q → Maps.has D (kp p q) = decide (f p q ≠ 0)
  el : ∀ p q, Iw p → Iw q → D.atKey (kp p q) (.lit (.int .i64 0)) = .lit (.int .i64 (f p q))
theorem Kn.made : Kn (fun _ _ => 0) (.map []) := ⟨Maps.isMap_empty, fun p q _ _ => rfl, fun p q _ _ => rfl⟩
theorem Kn.put {f : Int → Int → Int} {D : MD} (h : Kn f D) {p q r : Int} (hp : Iw p) (hq : Iw q) (hr : r ≠ 0) : Kn (upd f p q r) (D.put (kp p q) (.lit (.int .i64 r))) := by
  have hk := lawK.key (keyP hp hq)
  refine ⟨h.im.put _ _, fun a b ha hb => ?_, fun a b ha hb => ?_⟩
  · by_cases e : a = p ∧ b = q
    · obtain ⟨rfl, rfl⟩ := e
      rw [Maps.has_put_same h.im hk]; simp [upd, hr]
    · rw [Maps.has_put_other (fun k => e (kp_inj ha hb hp hq k)), h.hs a b ha hb]; simp only [upd, if_neg e]
  · by_cases e : a = p ∧ b = q
    · obtain ⟨rfl, rfl⟩ := e
      rw [Maps.atKey_put_same h.im hk]; simp [upd]
    · rw [Maps.atKey_put_other (fun k => e (kp_inj ha hb hp hq k)), h.el a b ha hb]; simp only [upd, if_neg e]
/-- what is said of all pairs that the loop has met -/
def Don (f : Int → Int → Int) (left : Lit → Bool) (G : Int → Int → Prop) : Prop := ∀ p q, Iw p → Iw q → f p q ≠ 0 → left (kp p q) = false → G p q
theorem Don.start {f : Int → Int → Int} {D : MD} (h : Kn f D) (G : Int → Int → Prop) : Don f (Maps.has D) G := fun p q hp hq hf hl => by
  rw [h.hs p q hp hq] at hl; simp [hf] at hl
theorem Don.step {f : Int → Int → Int} {left : Lit → Bool} {G : Int → Int → Prop} (h : Don f left G) {p q : Int} (hp : Iw p) (hq : Iw q) (hg : G p q) : Don f (fun z => left z && !z.sameKey (kp p q)) G := fun a b ha hb hf hl => by
  simp only [Bool.and_eq_false_iff, Bool.not_eq_false'] at hl
  rcases hl with k | k
  · exact h a b ha hb hf k
  · obtain ⟨rfl, rfl⟩ := kp_inj ha hb hp hq (WideAt.sameKey_eq k)
    exact hg
theorem Don.all {f : Int → Int → Int} {left : Lit → Bool} {G : Int → Int → Prop} (h : Don f left G) (hl : ∀ kl, left kl = false) {p q : Int} (hp : Iw p) (hq : Iw q) (hf : f p q ≠ 0) : G p q := h p q hp hq hf (hl _)
theorem zeroI (w : World) : (zeroValue 3).run Try.prog w = .ok (.int .i64 0) w := by kernel_rfl
abbrev OwnK (w : World) (b n : Nat) (D : MD) : Prop := w.ownsMap Try.prog 63 (plainElem Try.prog 3) b n D
/-- relations that are known: in a map -/
structure Rels (w : World) (f : Int → Int → Int) (b : Nat) : Prop where
  own : ∃ n D, n ≤ 100 ∧ OwnK w b n D ∧ Kn f D
abbrev RelV (n : Nat) (b : Nat) : Value := .agg #[.int .i64 (n : Int), .map (some b)]
theorem Rels.below {w w' : World} {f : Int → Int → Int} {b : Nat} (h : Rels w f b) (k : Below w.heap.size w w') : Rels w' f b := by
  obtain ⟨n, D, hn, ho, hk⟩ := h.own
  exact ⟨n, D, hn, ho.kept (row := none) ⟨k.os, k.tape, k.output, k.size, fun i hi _ => k.block i hi⟩ (by simp), hk⟩
/-- the step of a loop over them -/
theorem wpList_next_K {ops : Array Oper} {rest : List Oper} {o : Oper} {a : Act} {w : World} {Q : Exit → Act → World → Prop} (hg : o.guard = none) (it : Operand) (hop : o.op = Op.next it false)
    (b r n : Nat) (D : MD) (left : Lit → Bool) (cnt : Nat) (f : Int → Int → Int) (hK : Kn f D) (hit : a.eval it = .pointer (some ⟨r, 0, none⟩)) (h : w.ranges Try.prog 63 (plainElem Try.prog 3) b r n D left cnt)
    (hDone : (∀ kl, left kl = false) → wpList Try.prog ops Q rest (a.put o.dst (.tuple #[.bool false])) w)
    (hMore : ∀ (p q c : Int) (w' : World) (cnt' : Nat), f p q = c → Iw p → Iw q → c ≠ 0 → w'.ranges Try.prog 63 (plainElem Try.prog 3) b r n D (fun z => left z && !z.sameKey (kp p q)) cnt' → cnt' < cnt → w.grownBy w' (some r) → w'.heap.size = w.heap.size →
      (Instr.entry (.pointer (some ⟨r, 0, none⟩))).run Try.prog w' = .ok (.tuple #[KV p q, .int .i64 c]) w' → wpList Try.prog ops Q rest (a.put o.dst (.tuple #[.bool true, KV p q, .int .i64 c])) w') :
    wpList Try.prog ops Q (o :: rest) a w := by
  refine wpList_next_ranges w hg it hop 63 lawK (plainElem Try.prog 3) (fun x : Int × Int => KV x.1 x.2) (Value.int .i64) (fun key kl hkey => by obtain ⟨p, q, rfl, _⟩ := keyP_inv hkey; exact ⟨(p, q), rfl⟩) (fun v y hv => by obtain ⟨c, rfl, _⟩ := plainElem_int_inv Try.underlying3 hv; exact ⟨c, rfl⟩)
    b r n D left cnt hit h (fun _ hl => hDone hl) (fun x c kl y w' cnt' hkey hlk hv hat hrg hlt hgr hsz hen => ?_)
  obtain ⟨p, q⟩ := x
  obtain ⟨p', q', ev, rfl, hp, hq⟩ := keyP_inv hkey
  obtain ⟨rfl, rfl⟩ : p = p' ∧ q = q' := by injection ev with ev; simpa using ev
  obtain ⟨c', ec, rfl, hwc⟩ := plainElem_int_inv Try.underlying3 hv
  cases ec
  have hf : f p q = c := by
    have h1 := hK.el p q hp hq
    rw [hat] at h1
    simpa using h1.symm
  have hc : c ≠ 0 := by
    have h1 := hK.hs p q hp hq
    rw [Maps.has_true_of_atKey hat, hf] at h1
    simpa using h1.symm
  exact hMore p q c w' cnt' hf hp hq hc hrg hlt hgr hsz hen
end Go.Proofs.Ytnljcppefnaapaa
