/-
  Three own slices of ints, all apart: a number more, and where the new slice lies; bounds of what is reached.
-/
import Derived.Test.YtnljcppefnaapaaHoMem
import Derived.Test.YtnljcppefnaapaaHoRg
import Derived.Maps.AppendAt
namespace Go.Proofs.Ytnljcppefnaapaa
open Go.RowKit
set_option linter.unusedSimpArgs false
set_option linter.unusedVariables false

theorem wpList_appL {ops : Array Oper} {rest : List Oper} {o : Oper} {act : Act} {w : World} {Q : Exit → Act → World → Prop} (hgd : o.guard = none) (s x : Operand)
    (hop : o.op = .call { callee := .builtin .append, args := #[s, x], argTypes := #[33, 33] })
    (R : Nat) (v : Value) (L : List Int) (hs : act.eval s = v) (hown : OwnI w R v L)
    (D : Nat) (z : Int) (hx : act.eval x = .slice (some ⟨D, 0, none⟩) 1 1) (hM : w.cell? ⟨D, 0, none⟩ = some (.int .i64 z)) (hlen : L.length ≤ 2000000) (hR : R ≤ w.heap.size)
    (h : ∀ v' w', OwnI w' R v' (L ++ [z]) → w.grownBy w' v.ownBlock → (v'.ownBlock = v.ownBlock ∨ v'.ownBlock = some w.heap.size) → wpList Try.prog ops Q rest (act.put o.dst v') w') : wpList Try.prog ops Q (o :: rest) act w := by
  obtain ⟨i0, hi, hz0, hz1, hz2⟩ := info_parts infoI
  refine wpList_append_own_at w hgd s x 33 hop R 3 i0 (.int .i64 0) 1 8 Try.underlying33 hi hz0 hz1 hz2 rfl (by decide) v L.length (cellsI L) hs hown ⟨D, 0, none⟩ 1 1 [.int .i64 z] hx rfl ?_ (fun u hu => by simp at hu; subst hu; rfl) (by unfold maxLen; omega) (by omega) hR ?_
  · intro j u hu
    rw [Addr.add_lit, Nat.zero_add]
    match j, hu with
    | 0, e => simp at e; subst e; exact hM
    | n + 1, e => simp at e
  · intro v' w' h2 h3 _ h5
    exact h v' w' (by rw [OwnI, List.length_append, cellsI, List.map_append]; exact h2) h3 h5
def Apt (v v' : Value) : Prop := v.ownBlock = none ∨ v.ownBlock ≠ v'.ownBlock
theorem Apt.comm {v v' : Value} (h : Apt v v') : Apt v' v := by
  cases e : v'.ownBlock with
  | none => exact .inl e
  | some k => exact .inr (fun q => by rcases h with h | h; (rw [h] at q; rw [q] at e; cases e); exact h q.symm)
theorem apt_moved {W : World} {R : Nat} {v v' u : Value} {L : List Int} (h : Apt v u) (hu : OwnI W R u L) (loc : v'.ownBlock = v.ownBlock ∨ v'.ownBlock = some W.heap.size) : Apt v' u := by
  rcases loc with q | q
  · unfold Apt; rw [q]; exact h
  · refine .inr (fun k => ?_)
    rw [q] at k
    have := (hu.lt _ k.symm).2
    omega
structure Tri (W : World) (R : Nat) (vs vn va : Value) (S N A : List Int) : Prop where
  os : OwnI W R vs S
  on : OwnI W R vn N
  oa : OwnI W R va A
  sn : Apt vs vn
  sa : Apt vs va
  na : Apt vn va
section
variable {W W' : World} {R : Nat} {vs vn va v' : Value} {S N A : List Int} {z : Int}
theorem Tri.later (h : Tri W R vs vn va S N A) (k : Below W.heap.size W W') : Tri W' R vs vn va S N A := ⟨owni_later h.os k, owni_later h.on k, owni_later h.oa k, h.sn, h.sa, h.na⟩
theorem Tri.alloc (h : Tri W R vs vn va S N A) (o : Obj) : Tri (W.alloc o) R vs vn va S N A := h.later ((Below.refl _ _).alloc (Nat.le_refl _) o)
theorem Tri.appS (h : Tri W R vs vn va S N A) (own : OwnI W' R v' (S ++ [z])) (grow : W.grownBy W' vs.ownBlock) (loc : v'.ownBlock = vs.ownBlock ∨ v'.ownBlock = some W.heap.size) : Tri W' R v' vn va (S ++ [z]) N A :=
  ⟨own, World.ownsRow.kept h.on grow h.sn.comm, World.ownsRow.kept h.oa grow h.sa.comm, apt_moved h.sn h.on loc, apt_moved h.sa h.oa loc, h.na⟩
theorem Tri.appN (h : Tri W R vs vn va S N A) (own : OwnI W' R v' (N ++ [z])) (grow : W.grownBy W' vn.ownBlock) (loc : v'.ownBlock = vn.ownBlock ∨ v'.ownBlock = some W.heap.size) : Tri W' R vs v' va S (N ++ [z]) A :=
  ⟨World.ownsRow.kept h.os grow h.sn, own, World.ownsRow.kept h.oa grow h.na.comm, h.os |> fun ho => (apt_moved h.sn.comm ho loc).comm, h.sa, apt_moved h.na h.oa loc⟩
end
section
variable {f : Int → Int → Int} {n : Nat} {h : Int} {S A : List Int}
theorem in_len (I : InR f n h (S, A)) : S.length ≤ n := nd_len I.ran I.nd
theorem row_len (I : InR f n h (S, A)) (T : List Int) (u : Int) (C : Nat) (hC : C ≤ n) : (rowR f u C (atR f n T (S, []))).1.length ≤ n ∧ (rowR f u C (atR f n T (S, []))).2.length ≤ n := by
  have st := row_st (u := u) (at_st (f := f) (n := n) (S0 := S) (Fr := fun _ => True) T (S, []) ⟨by simp, I.nd, I.ran, fun x hx => (by cases hx)⟩ (fun _ _ => trivial)) trivial C hC
  have h1 := nd_len st.ran st.nd
  refine ⟨h1, ?_⟩
  rw [st.eq, List.length_append] at h1
  omega
theorem at_ran (I : InR f n h (S, A)) (h1 : 1 ≤ h ∧ h ≤ n) {u : Int} (hu : u ∈ A) : 1 ≤ u ∧ u ≤ n := by
  rcases I.at0 u hu with rfl | q
  · exact h1
  · exact I.ran u q
theorem rounds_at_len (h : Int) (hn : 1 ≤ n) : ∀ r : Nat, (roundsR f n r ([], [h])).2.length ≤ n
  | 0 => by simpa [roundsR] using hn
  | r + 1 => by
    obtain ⟨I, _⟩ := in_rounds (f := f) (n := n) h r
    obtain ⟨I2, _, l⟩ := in_round I
    have := nd_len I2.ran I2.nd
    show (roundR f n (roundsR f n r ([], [h]))).2.length ≤ n
    omega
end
/-- who is reached from himself, among the first -/
def ringB (f : Int → Int → Int) (n H : Nat) : Bool := (List.range H).any fun k => decide (((k : Int) + 1) ∈ seenR f n ((k : Int) + 1))
theorem ringB_succ (f : Int → Int → Int) (n H : Nat) : ringB f n (H + 1) = (ringB f n H || decide (((H : Int) + 1) ∈ seenR f n ((H : Int) + 1))) := by simp [ringB, List.range_succ]
theorem ring_free {M : Mat} (ho : relsOk M = true) : relsFree M = !ringB (relF M) M.length M.length := by
  cases hr : ringB (relF M) M.length M.length with
  | false =>
    rw [Bool.not_false, free_iff_seen ho]
    intro h h1 h2 hm
    have := List.any_eq_false.1 hr (h - 1).toNat (List.mem_range.2 (by omega))
    rw [show (((h - 1).toNat : Nat) : Int) + 1 = h by omega] at this
    simp [hm] at this
  | true =>
    rw [Bool.not_true, ← Bool.not_eq_true, free_iff_seen ho]
    intro hno
    obtain ⟨k, hk, hm⟩ := List.any_eq_true.1 hr
    have hk2 := List.mem_range.1 hk
    exact hno _ (by omega) (by omega) (of_decide_eq_true hm)
end Go.Proofs.Ytnljcppefnaapaa
