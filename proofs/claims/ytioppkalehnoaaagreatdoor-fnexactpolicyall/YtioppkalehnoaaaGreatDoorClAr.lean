/-
  The first clause that fits counts, by the program: applyFirst, PolicyDo.
-/
import Derived.Test.YtioppkalehnoaaaGreatDoorClAq
namespace Go.Proofs.YtioppkalehnoaaaGreatDoor
open Go.RowKit
set_option linter.unusedSimpArgs false
set_option linter.unusedVariables false

abbrev z5a : Array Value := #[.int .i64 0, .int .i64 0, .slice none 0 0, .int .i64 0, .slice none 0 0]
/-- an answer that was made, and stored -/
theorem OwnRt.stored {w W W' W2 : World} {r : Rt} {pv mv : Value} {RA : Nat} (ho : OwnRt W r pv mv W') (hb : Below w.heap.size w W) (hg : W'.grownBy W2 (some RA)) (h1 : RA < W.heap.size) (h2 : w.heap.size ≤ RA) : OwnRt w r pv mv W2 := by
  obtain ⟨S, o1, b1, o2, hS, hb2⟩ := ho
  have hs := hb.size
  exact ⟨S, owni_only (owni_mono o1 hs) hg (fun e => by have := (b1 RA e).1; omega), b1.mono hs (Nat.le_refl _), owni_only o2 hg (fun e => by have := (o2.lt RA e).1; omega), by omega, below_only (next hb hb2) hg (next hb hb2).size h2⟩
/-- a route's box and the answer's block -/
def Br (w : World) (f b : Int) (a : Option Addr) (c : Nat) (P : List Int) (l : Int) (d : Option Addr) (e : Nat) (M : List Int) (W : World) : Prop := At5 W w.heap.size (.int .i64 f) (.int .i64 b) (.slice a P.length c) (.int .i64 l) (.slice d M.length e) ∧ AtL W (w.heap.size + 1) 0 z5l ∧ RtM W a c P d e M ∧ Below w.heap.size w W
theorem Br.new {w : World} (f b : Int) (a : Option Addr) (c : Nat) (P : List Int) (l : Int) (d : Option Addr) (e : Nat) (M : List Int) (h : RtM w a c P d e M) (t t' : TypeId) : Br w f b a c P l d e M ((w.alloc (.cells #[.int .i64 f, .int .i64 b, .slice a P.length c, .int .i64 l, .slice d M.length e] t)).alloc (.cells #[.int .i64 0, .int .i64 0, .slice none 0 0, .int .i64 0, .slice none 0 0] t')) := by
  have h2 := At5.new (w.alloc (.cells #[.int .i64 f, .int .i64 b, .slice a P.length c, .int .i64 l, .slice d M.length e] t)) (.int .i64 0) (.int .i64 0) (.slice none 0 0) (.int .i64 0) (.slice none 0 0) t'
  simp only [World.size_alloc] at h2
  exact ⟨(At5.new w (.int .i64 f) (.int .i64 b) (.slice a P.length c) (.int .i64 l) (.slice d M.length e) t).alloc _, h2.toL, (h.alloc _).alloc _, ((Below.refl w.heap.size w).alloc (Nat.le_refl _) _).alloc (by simp) _⟩
section
variable {w W W' : World} {f b : Int} {a : Option Addr} {c : Nat} {P : List Int} {l : Int} {d : Option Addr} {e : Nat} {M : List Int}
theorem Br.later (h : Br w f b a c P l d e M W) (k : Below W.heap.size W W') : Br w f b a c P l d e M W' := ⟨h.1.below k, h.2.1.below k, h.2.2.1.below k, next h.2.2.2 k⟩
theorem Br.drew (h : Br w f b a c P l d e M W) : Br w f b a c P l d e M W.drew := ⟨h.1.drew, h.2.1.drew, h.2.2.1.drew, h.2.2.2.drew⟩
end
theorem applyC_len {u : CL} {r : Rt} (hu : clOk u = true) (hr : rtOk r = true) : (applyC u r).1.2.2.1.length ≤ 5 ∧ (applyC u r).1.2.2.2.2.length ≤ 9 := by
  unfold applyC
  split
  · simp [zRt]
  · have h := makeC_good (clOk_good hu) ((rtOk_iff r).1 hr)
    exact ⟨h.path.len, h.marks.len⟩

set_option maxRecDepth 100000 in
set_option maxHeartbeats 4000000 in
theorem ifirst_is (L : List CL) (a' : Option Addr) (n' cap' : Nat) (f b : Int) (a : Option Addr) (c : Nat) (P : List Int) (l : Int) (d : Option Addr) (e : Nat) (M : List Int) {r : Rt × Bool} (k : firstC L (f, b, P, l, M) = r) (hL : ∀ u ∈ L, clOk u = true) (hr : rtOk (f, b, P, l, M) = true) (w : World) (p : Addr) (hn : n' = L.length) (hA : CsA w a' L) (hl : L.length ≤ 2000000) (hm : RtM w a c P d e M) (hE : EV w p) :
    Calls Tryz.prog 36 #[.slice a' n' cap', .agg #[.int .i64 f, .int .i64 b, .slice a P.length c, .int .i64 l, .slice d M.length e]] w (OwnRB w r) := by
  subst hn
  have KX := Lib.hid k
  have HLs := Lib.hid hL
  have HR := Lib.hid hr
  have HG := Lib.hid ((rtOk_iff _).1 hr)
  have HA := Lib.hid hA
  have HE := Lib.hid hE
  have H0 := Lib.hid (Br.new f b a c P l d e M hm 32 32)
  clear k hL hr hA hE hm
  go_enter Tryz.func36, Tryz.ntmps36
  go_wp2_with fail
  generalize (w.alloc (.cells #[.int .i64 f, .int .i64 b, .slice a P.length c, .int .i64 l, .slice d M.length e] 32)).alloc (.cells #[.int .i64 0, .int .i64 0, .slice none 0 0, .int .i64 0, .slice none 0 0] 32) = W0 at *
  go_loopw [7, 10] (fun _ i wr => ∃ k : Nat, k ≤ L.length ∧ i = .int .i64 k ∧ Hid (∀ (j : Nat) u, j < k → L[j]? = some u → fitsC u (f, b, P, l, M) = false) ∧ Hid (Br w f b a c P l d e M wr)) (fun _ i _ => L.length - (intOf i).toNat)
  case atStart => exact ⟨0, Nat.zero_le _, rfl, Lib.hid (fun j u hj => by omega), H0⟩
  case round =>
    clear H0
    obtain ⟨k, hk, rfl, HN, HI⟩ := hrel
    by_cases hlt : k < L.length
    · obtain ⟨u, hu⟩ : ∃ u, L[k]? = some u := ⟨_, List.getElem?_eq_getElem hlt⟩
      have HV := Lib.hid hu
      have ho := HLs.out u (List.mem_of_getElem? hu)
      obtain ⟨b', off', rfl, q0, q1, q2, q3, q4, q5, q6, q7⟩ := (HA.out.below HI.out.2.2.2).at hu
      have i0 : (0 : Int) ≤ (k : Int) := by omega
      have i1 : (k : Int) < (L.length : Int) := by omega
      have HI1 := Lib.hid (HI.out.later ((Below.refl _ wr).alloc (Nat.le_refl _) (.cells #[.int .i64 u.i, .int .i64 u.n, .int .i64 u.f, .int .i64 u.b, .bool u.x, .int .i64 u.l, .int .i64 u.m, .int .i64 u.k] 59)))
      have HU0 := Lib.hid (AtL.new wr u 59)
      change Hid (AtL (wr.alloc (.cells #[.int .i64 u.i, .int .i64 u.n, .int .i64 u.f, .int .i64 u.b, .bool u.x, .int .i64 u.l, .int .i64 u.m, .int .i64 u.k] 59)) wr.heap.size 0 u.cells) at HU0
      have hsz : w.heap.size + 1 < wr.heap.size := HI.out.2.1.lt (by show 0 < 5; omega)
      obtain ⟨T, V, F, hC⟩ := cond_any ho
      have HC := Lib.hid hC
      have hfind := hC.find
      have hgoes := hC.goes
      clear hC hu HI
      go_wp2_with fail
      clear q0 q1 q2 q3 q4 q5 q6 q7
      generalize wr.alloc (.cells #[.int .i64 u.i, .int .i64 u.n, .int .i64 u.f, .int .i64 u.b, .bool u.x, .int .i64 u.l, .int .i64 u.m, .int .i64 u.k] 59) = wq at *
      cases hx : fitsC u (f, b, P, l, M) with
      | false =>
        refine wp_region_held_drew (S := fun W => ((W.cell? ⟨wr.heap.size, 0, none⟩ = some (.int .i64 u.i) ∧ W.cell? ⟨wr.heap.size, 1, none⟩ = some (.int .i64 u.n) ∧ W.cell? ⟨wr.heap.size, 2, none⟩ = some (.int .i64 u.f) ∧ W.cell? ⟨wr.heap.size, 3, none⟩ = some (.int .i64 u.b) ∧ W.cell? ⟨wr.heap.size, 4, none⟩ = some (.bool u.x) ∧ W.cell? ⟨wr.heap.size, 5, none⟩ = some (.int .i64 u.l) ∧ W.cell? ⟨wr.heap.size, 6, none⟩ = some (.int .i64 u.m) ∧ W.cell? ⟨wr.heap.size, 7, none⟩ = some (.int .i64 u.k)) ∧ (W.cell? ⟨w.heap.size, 0, none⟩ = some (.int .i64 f) ∧ W.cell? ⟨w.heap.size, 1, none⟩ = some (.int .i64 b) ∧ W.cell? ⟨w.heap.size, 2, none⟩ = some (.slice a P.length c) ∧ W.cell? ⟨w.heap.size, 3, none⟩ = some (.int .i64 l) ∧ W.cell? ⟨w.heap.size, 4, none⟩ = some (.slice d M.length e))) ∧ Hid (Br w f b a c P l d e M W ∧ AtL W wr.heap.size 0 u.cells ∧ EV W p)) (by kernel_rfl) ?_ (fun hHeld => ?_)
        · exact ⟨⟨HU0.out.z8.1, HI1.out.1.1⟩, Lib.hid ⟨HI1.out.drew, HU0.out.drew, HE.out.below HI1.out.2.2.2.drew⟩⟩
        refine takeH (i := 0) (v := ?_) rfl rfl (by kernel_rfl) (by kernel_rfl) (by kernel_rfl) (fun _ _ _ h => h) (by rfl) ?_ (by assumption) ?_
        rotate_left 1
        · intro w hSw
          (try dsimp only at hSw)
          go_simp
          try with_reducible rfl
        try simp only [List.setIfInBounds_toArray, List.set_cons_zero, List.set_cons_succ]
        refine takeH (i := 2) (v := ?_) rfl rfl (by kernel_rfl) (by kernel_rfl) (by kernel_rfl) (fun _ _ _ h => h) (by rfl) ?_ (by assumption) ?_
        rotate_left 1
        · intro w hSw
          (try dsimp only at hSw)
          go_simp
          try with_reducible rfl
        try simp only [List.setIfInBounds_toArray, List.set_cons_zero, List.set_cons_succ]
        refine wpAnyH_ready (rs := [1]) (by kernel_rfl) (by simp) ?_
        refine AllReadyH.cons rfl (fun K hK => ?_) (AllReadyH.nil)
        go_simp
        refine (HC.out.make _).mono ?_
        rintro en w1 ⟨rfl, b1⟩
        go_wp2_with fail
        refine hK.out _ _ ?_ (fun hNew => ?_)
        · exact ⟨⟨⟨cell_later b1 hHeld.1.1.1, cell_later b1 hHeld.1.1.2.1, cell_later b1 hHeld.1.1.2.2.1, cell_later b1 hHeld.1.1.2.2.2.1, cell_later b1 hHeld.1.1.2.2.2.2.1, cell_later b1 hHeld.1.1.2.2.2.2.2.1, cell_later b1 hHeld.1.1.2.2.2.2.2.2.1, cell_later b1 hHeld.1.1.2.2.2.2.2.2.2⟩, ⟨cell_later b1 hHeld.1.2.1, cell_later b1 hHeld.1.2.2.1, cell_later b1 hHeld.1.2.2.2.1, cell_later b1 hHeld.1.2.2.2.2.1, cell_later b1 hHeld.1.2.2.2.2.2⟩⟩, Lib.hid ⟨hHeld.2.out.1.later b1, hHeld.2.out.2.1.below b1, hHeld.2.out.2.2.below b1⟩⟩
        clear hK K hHeld
        have hHeld := hNew
        clear hNew
        try simp only [Act.put, List.setIfInBounds_toArray, List.set_cons_zero, List.set_cons_succ]
        refine wpAnyH_ready (rs := [3]) (by kernel_rfl) (by simp) ?_
        refine AllReadyH.cons rfl (fun K hK => ?_) (AllReadyH.nil)
        go_simp
        refine (HC.out.fits f b a c P l d e M false _ p hx HG.out hHeld.2.out.1.2.2.1 hHeld.2.out.2.2).mono ?_
        rintro en wz ⟨rfl, b3⟩
        go_wp2_with fail
        refine hK.out _ _ ?_ (fun hNew => ?_)
        · exact ⟨⟨⟨cell_later b3 hHeld.1.1.1, cell_later b3 hHeld.1.1.2.1, cell_later b3 hHeld.1.1.2.2.1, cell_later b3 hHeld.1.1.2.2.2.1, cell_later b3 hHeld.1.1.2.2.2.2.1, cell_later b3 hHeld.1.1.2.2.2.2.2.1, cell_later b3 hHeld.1.1.2.2.2.2.2.2.1, cell_later b3 hHeld.1.1.2.2.2.2.2.2.2⟩, ⟨cell_later b3 hHeld.1.2.1, cell_later b3 hHeld.1.2.2.1, cell_later b3 hHeld.1.2.2.2.1, cell_later b3 hHeld.1.2.2.2.2.1, cell_later b3 hHeld.1.2.2.2.2.2⟩⟩, Lib.hid ⟨hHeld.2.out.1.later b3, hHeld.2.out.2.1.below b3, hHeld.2.out.2.2.below b3⟩⟩
        clear hK K hHeld
        have hHeld := hNew
        clear hNew
        try simp only [Act.put, List.setIfInBounds_toArray, List.set_cons_zero, List.set_cons_succ]
        refine wpAnyH_done (by kernel_rfl) ?_ _
        have HZ := Lib.hid hHeld.2.out
        clear hHeld HI1 HU0
        have HN2 : Hid (∀ (j : Nat) v, j < k + 1 → L[j]? = some v → fitsC v (f, b, P, l, M) = false) := Lib.hid (fun j v hj hv => by
          by_cases e : j = k
          · subst e; rw [HV.out] at hv; cases hv; exact hx
          · exact HN.out j v (by omega) hv)
        clear hx hfind hgoes
        go_wp2_with fail
        go_roundw
        case rel => exact ⟨k + 1, by omega, by go_num, HN2, Lib.hid HZ.out.1⟩
        case measure => simp [intOf]; omega
      | true =>
        refine wp_region_held_drew (S := fun W => ((W.cell? ⟨wr.heap.size, 0, none⟩ = some (.int .i64 u.i) ∧ W.cell? ⟨wr.heap.size, 1, none⟩ = some (.int .i64 u.n) ∧ W.cell? ⟨wr.heap.size, 2, none⟩ = some (.int .i64 u.f) ∧ W.cell? ⟨wr.heap.size, 3, none⟩ = some (.int .i64 u.b) ∧ W.cell? ⟨wr.heap.size, 4, none⟩ = some (.bool u.x) ∧ W.cell? ⟨wr.heap.size, 5, none⟩ = some (.int .i64 u.l) ∧ W.cell? ⟨wr.heap.size, 6, none⟩ = some (.int .i64 u.m) ∧ W.cell? ⟨wr.heap.size, 7, none⟩ = some (.int .i64 u.k)) ∧ (W.cell? ⟨w.heap.size, 0, none⟩ = some (.int .i64 f) ∧ W.cell? ⟨w.heap.size, 1, none⟩ = some (.int .i64 b) ∧ W.cell? ⟨w.heap.size, 2, none⟩ = some (.slice a P.length c) ∧ W.cell? ⟨w.heap.size, 3, none⟩ = some (.int .i64 l) ∧ W.cell? ⟨w.heap.size, 4, none⟩ = some (.slice d M.length e))) ∧ Hid (Br w f b a c P l d e M W ∧ AtL W wr.heap.size 0 u.cells ∧ EV W p)) (by kernel_rfl) ?_ (fun hHeld => ?_)
        · exact ⟨⟨HU0.out.z8.1, HI1.out.1.1⟩, Lib.hid ⟨HI1.out.drew, HU0.out.drew, HE.out.below HI1.out.2.2.2.drew⟩⟩
        refine takeH (i := 0) (v := ?_) rfl rfl (by kernel_rfl) (by kernel_rfl) (by kernel_rfl) (fun _ _ _ h => h) (by rfl) ?_ (by assumption) ?_
        rotate_left 1
        · intro w hSw
          (try dsimp only at hSw)
          go_simp
          try with_reducible rfl
        try simp only [List.setIfInBounds_toArray, List.set_cons_zero, List.set_cons_succ]
        refine takeH (i := 2) (v := ?_) rfl rfl (by kernel_rfl) (by kernel_rfl) (by kernel_rfl) (fun _ _ _ h => h) (by rfl) ?_ (by assumption) ?_
        rotate_left 1
        · intro w hSw
          (try dsimp only at hSw)
          go_simp
          try with_reducible rfl
        try simp only [List.setIfInBounds_toArray, List.set_cons_zero, List.set_cons_succ]
        refine wpAnyH_ready (rs := [1]) (by kernel_rfl) (by simp) ?_
        refine AllReadyH.cons rfl (fun K hK => ?_) (AllReadyH.nil)
        go_simp
        refine (HC.out.make _).mono ?_
        rintro en w1 ⟨rfl, b1⟩
        go_wp2_with fail
        refine hK.out _ _ ?_ (fun hNew => ?_)
        · exact ⟨⟨⟨cell_later b1 hHeld.1.1.1, cell_later b1 hHeld.1.1.2.1, cell_later b1 hHeld.1.1.2.2.1, cell_later b1 hHeld.1.1.2.2.2.1, cell_later b1 hHeld.1.1.2.2.2.2.1, cell_later b1 hHeld.1.1.2.2.2.2.2.1, cell_later b1 hHeld.1.1.2.2.2.2.2.2.1, cell_later b1 hHeld.1.1.2.2.2.2.2.2.2⟩, ⟨cell_later b1 hHeld.1.2.1, cell_later b1 hHeld.1.2.2.1, cell_later b1 hHeld.1.2.2.2.1, cell_later b1 hHeld.1.2.2.2.2.1, cell_later b1 hHeld.1.2.2.2.2.2⟩⟩, Lib.hid ⟨hHeld.2.out.1.later b1, hHeld.2.out.2.1.below b1, hHeld.2.out.2.2.below b1⟩⟩
        clear hK K hHeld
        have hHeld := hNew
        clear hNew
        try simp only [Act.put, List.setIfInBounds_toArray, List.set_cons_zero, List.set_cons_succ]
        refine wpAnyH_ready (rs := [3]) (by kernel_rfl) (by simp) ?_
        refine AllReadyH.cons rfl (fun K hK => ?_) (AllReadyH.nil)
        go_simp
        refine (HC.out.fits f b a c P l d e M true _ p hx HG.out hHeld.2.out.1.2.2.1 hHeld.2.out.2.2).mono ?_
        rintro en wz ⟨rfl, b3⟩
        go_wp2_with fail
        refine hK.out _ _ ?_ (fun hNew => ?_)
        · exact ⟨⟨⟨cell_later b3 hHeld.1.1.1, cell_later b3 hHeld.1.1.2.1, cell_later b3 hHeld.1.1.2.2.1, cell_later b3 hHeld.1.1.2.2.2.1, cell_later b3 hHeld.1.1.2.2.2.2.1, cell_later b3 hHeld.1.1.2.2.2.2.2.1, cell_later b3 hHeld.1.1.2.2.2.2.2.2.1, cell_later b3 hHeld.1.1.2.2.2.2.2.2.2⟩, ⟨cell_later b3 hHeld.1.2.1, cell_later b3 hHeld.1.2.2.1, cell_later b3 hHeld.1.2.2.2.1, cell_later b3 hHeld.1.2.2.2.2.1, cell_later b3 hHeld.1.2.2.2.2.2⟩⟩, Lib.hid ⟨hHeld.2.out.1.later b3, hHeld.2.out.2.1.below b3, hHeld.2.out.2.2.below b3⟩⟩
        clear hK K hHeld
        have hHeld := hNew
        clear hNew
        try simp only [Act.put, List.setIfInBounds_toArray, List.set_cons_zero, List.set_cons_succ]
        refine wpAnyH_done (by kernel_rfl) ?_ _
        have HZ := Lib.hid hHeld.2.out
        clear hHeld HI1 HU0
        have HX := Lib.hid (show applyC u (f, b, P, l, M) = r by rw [← KX.out]; exact (firstC_hit HV.out hx HN.out).symm)
        obtain ⟨⟨⟨fU, bU, PU, lU, MU⟩, x⟩, hU⟩ : ∃ s, applyC u (f, b, P, l, M) = s := ⟨_, rfl⟩
        have HUl : Hid (PU.length ≤ 5 ∧ MU.length ≤ 9) := Lib.hid (by have := applyC_len ho HR.out; rw [hU] at this; exact this)
        have HU := Lib.hid hU
        have HX2 := Lib.hid (show r = ((fU, bU, PU, lU, MU), x) by rw [← HX.out]; exact hU)
        clear hx hfind hgoes hU HX
        obtain ⟨⟨q0, q1, q2, q3, q4, q5, q6, q7⟩, _⟩ := HZ.out.2.1.z8
        obtain ⟨⟨s0, s1, s2, s3, s4⟩, _⟩ := HZ.out.1.1
        go_wp2_with fail
        clear q0 q1 q2 q3 q4 q5 q6 q7 s0 s1 s2 s3 s4
        refine (iapply_is u f b a c P l d e M HU.out ho HR.out _ p HZ.out.1.2.2.1 HZ.out.2.2).mono ?_
        rintro en w5 ⟨pv, mv, rfl, hO⟩
        have HO := Lib.hid hO
        obtain ⟨T5, o1, _, o2, _, b5⟩ := hO
        replace o1 : OwnI w5 wz.heap.size pv PU := o1
        replace o2 : OwnI w5 T5 mv MU := o2
        obtain ⟨pa, pc, rfl, _, _⟩ := OwnI.tab o1
        obtain ⟨ma, mc, rfl, _, _⟩ := OwnI.tab o2
        have HA5 := Lib.hid (HZ.out.1.2.1.below b5)
        have hsz5 : w.heap.size + 1 < wz.heap.size := HZ.out.1.2.1.lt (by show 0 < 5; omega)
        clear o1 o2 b5
        go_wp2_with (refine wpList_stA rfl 32 (.tmp 4) (.tmp 21) rfl (w.heap.size + 1) #[.int .i64 fU, .int .i64 bU, .slice pa PU.length pc, .int .i64 lU, .slice ma MU.length mc] ?xa ?ya (one5a _ _ _ _ _ _ _ _ _) infoR5 _ HA5.out ?la ?ga)
        try case xa => rfl
        try case ya => rfl
        try case la => rfl
        intro wF aF gF
        have HF := Lib.hid (HO.out.stored HZ.out.1.2.2.2 gF hsz5 (by omega))
        obtain ⟨⟨z0, z1, z2, z3, z4⟩, _⟩ := AtL.to5 aF
        clear aF gF HO HA5
        go_wp2_with fail
        exact bodyPost_ret (v := .tuple #[.agg #[.int .i64 fU, .int .i64 bU, .slice pa PU.length pc, .int .i64 lU, .slice ma MU.length mc], .bool x]) (by simp [results, Tryz.results36, go_sem, z0, z1, z2, z3, z4]) rfl (by rw [HX2.out]; exact ⟨_, _, rfl, HF.out⟩)
    · obtain rfl : k = L.length := by omega
      have HX := Lib.hid (show r = (zRt, false) by
        rw [← KX.out]
        exact firstC_miss (fun j u hu => HN.out j u (List.getElem?_eq_some_iff.1 hu).1 hu))
      go_wp2_with (refine wpList_stA rfl 32 (.tmp 4) (.tmp 24) rfl (w.heap.size + 1) #[.int .i64 0, .int .i64 0, .slice none 0 0, .int .i64 0, .slice none 0 0] ?xb ?yb (one5a _ _ _ _ _ _ _ _ _) infoR5 _ HI.out.2.1 ?lb ?gb)
      try case xb => rfl
      try case yb => rfl
      try case lb => rfl
      intro wF aF gF
      have HF := Lib.hid (below_only HI.out.2.2.2 gF HI.out.2.2.2.size (by omega))
      obtain ⟨⟨z0, z1, z2, z3, z4⟩, _⟩ := AtL.to5 aF
      clear aF gF
      go_wp2_with fail
      exact bodyPost_ret (v := .tuple #[rtV zRt (.slice none 0 0) (.slice none 0 0), .bool false]) (by simp [results, Tryz.results36, go_sem, z0, z1, z2, z3, z4, rtV, zRt]) rfl (by rw [HX.out]; exact ⟨_, _, rfl, OwnRt.zero HF.out⟩)

set_option maxRecDepth 100000 in
set_option maxHeartbeats 2000000 in
theorem ipoldo_is (L : List CL) (a' : Option Addr) (n' cap' : Nat) (f b : Int) (a : Option Addr) (c : Nat) (P : List Int) (l : Int) (d : Option Addr) (e : Nat) (M : List Int) {r : Rt × Bool} (k : polDo L (f, b, P, l, M) = r) (w : World) (p : Addr) (hn : n' = L.length) (hA : CsA w a' L) (hl : L.length ≤ 2000000) (hm : RtM w a c P d e M) (hE : EV w p) :
    Calls Tryz.prog 11 #[.slice a' n' cap', .agg #[.int .i64 f, .int .i64 b, .slice a P.length c, .int .i64 l, .slice d M.length e]] w (OwnRB w r) := by
  subst hn
  have KX := Lib.hid k
  have HA := Lib.hid hA
  have HE := Lib.hid hE
  have H0 := Lib.hid (Br.new f b a c P l d e M hm 32 32)
  clear k hA hm hE
  go_enter Tryz.func11, Tryz.ntmps11
  go_wp2_with fail
  generalize (w.alloc (.cells #[.int .i64 f, .int .i64 b, .slice a P.length c, .int .i64 l, .slice d M.length e] 32)).alloc (.cells #[.int .i64 0, .int .i64 0, .slice none 0 0, .int .i64 0, .slice none 0 0] 32) = W0 at *
  cases ho : polOk L with
  | false =>
    have HX := Lib.hid (show r = (zRt, false) by rw [← KX.out, polDo_no1 ho])
    refine (ipolok_is L ho a' cap' _ _ rfl (HA.out.below H0.out.2.2.2) hl).mono ?_
    rintro en w1 ⟨rfl, b1⟩
    have H1 := Lib.hid (H0.out.later b1)
    clear b1 H0
    go_wp2_with (refine wpList_stA rfl 32 (.tmp 4) (.tmp 14) rfl (w.heap.size + 1) #[.int .i64 0, .int .i64 0, .slice none 0 0, .int .i64 0, .slice none 0 0] ?xp ?yp (one5a _ _ _ _ _ _ _ _ _) infoR5 _ H1.out.2.1 ?lp ?gp)
    try case xp => rfl
    try case yp => rfl
    try case lp => rfl
    intro wF aF gF
    have HF := Lib.hid (below_only H1.out.2.2.2 gF H1.out.2.2.2.size (by omega))
    obtain ⟨⟨z0, z1, z2, z3, z4⟩, _⟩ := AtL.to5 aF
    clear aF gF
    go_wp2_with fail
    exact bodyPost_ret (v := .tuple #[rtV zRt (.slice none 0 0) (.slice none 0 0), .bool false]) (by simp [results, Tryz.results11, go_sem, z0, z1, z2, z3, z4, rtV, zRt]) rfl (by rw [HX.out]; exact ⟨_, _, rfl, OwnRt.zero HF.out⟩)
  | true =>
    refine (ipolok_is L ho a' cap' _ _ rfl (HA.out.below H0.out.2.2.2) hl).mono ?_
    rintro en w1 ⟨rfl, b1⟩
    have H1 := Lib.hid (H0.out.later b1)
    clear b1 H0
    obtain ⟨⟨q0, q1, q2, q3, q4⟩, _⟩ := H1.out.1
    go_wp2_with fail
    clear q0 q1 q2 q3 q4
    cases hr : rtOk (f, b, P, l, M) with
    | false =>
      have HX := Lib.hid (show r = (zRt, false) by rw [← KX.out, polDo_no2 hr])
      refine (riok_is f b a c P l d e M hr _ p H1.out.2.2.1 (HE.out.below H1.out.2.2.2)).mono ?_
      rintro en w2 ⟨rfl, b2⟩
      have H2 := Lib.hid (H1.out.later b2)
      clear b2 H1
      go_wp2_with (refine wpList_stA rfl 32 (.tmp 4) (.tmp 14) rfl (w.heap.size + 1) #[.int .i64 0, .int .i64 0, .slice none 0 0, .int .i64 0, .slice none 0 0] ?xq ?yq (one5a _ _ _ _ _ _ _ _ _) infoR5 _ H2.out.2.1 ?lq ?gq)
      try case xq => rfl
      try case yq => rfl
      try case lq => rfl
      intro wF aF gF
      have HF := Lib.hid (below_only H2.out.2.2.2 gF H2.out.2.2.2.size (by omega))
      obtain ⟨⟨z0, z1, z2, z3, z4⟩, _⟩ := AtL.to5 aF
      clear aF gF
      go_wp2_with fail
      exact bodyPost_ret (v := .tuple #[rtV zRt (.slice none 0 0) (.slice none 0 0), .bool false]) (by simp [results, Tryz.results11, go_sem, z0, z1, z2, z3, z4, rtV, zRt]) rfl (by rw [HX.out]; exact ⟨_, _, rfl, OwnRt.zero HF.out⟩)
    | true =>
      refine (riok_is f b a c P l d e M hr _ p H1.out.2.2.1 (HE.out.below H1.out.2.2.2)).mono ?_
      rintro en w2 ⟨rfl, b2⟩
      have H2 := Lib.hid (H1.out.later b2)
      clear b2 H1
      obtain ⟨⟨⟨fU, bU, PU, lU, MU⟩, x⟩, hU⟩ : ∃ s, firstC L (f, b, P, l, M) = s := ⟨_, rfl⟩
      have HU := Lib.hid hU
      have HX := Lib.hid (show r = ((fU, bU, PU, lU, MU), x) by rw [← KX.out, polDo_yes ho hr]; exact hU)
      clear hU
      obtain ⟨⟨q0, q1, q2, q3, q4⟩, _⟩ := H2.out.1
      go_wp2_with fail
      clear q0 q1 q2 q3 q4
      refine (ifirst_is L a' _ cap' f b a c P l d e M HU.out ((polOk_iff L).1 ho).2 hr _ p rfl (HA.out.below H2.out.2.2.2) hl H2.out.2.2.1 (HE.out.below H2.out.2.2.2)).mono ?_
      rintro en w5 ⟨pv, mv, rfl, hO⟩
      have HO := Lib.hid hO
      obtain ⟨T5, o1, _, o2, _, b5⟩ := hO
      replace o1 : OwnI w5 w2.heap.size pv PU := o1
      replace o2 : OwnI w5 T5 mv MU := o2
      obtain ⟨pa, pc, rfl, _, _⟩ := OwnI.tab o1
      obtain ⟨ma, mc, rfl, _, _⟩ := OwnI.tab o2
      have HA5 := Lib.hid (H2.out.2.1.below b5)
      have hsz5 : w.heap.size + 1 < w2.heap.size := H2.out.2.1.lt (by show 0 < 5; omega)
      clear o1 o2 b5
      go_wp2_with (refine wpList_stA rfl 32 (.tmp 4) (.tmp 18) rfl (w.heap.size + 1) #[.int .i64 fU, .int .i64 bU, .slice pa PU.length pc, .int .i64 lU, .slice ma MU.length mc] ?xa ?ya (one5a _ _ _ _ _ _ _ _ _) infoR5 _ HA5.out ?la ?ga)
      try case xa => rfl
      try case ya => rfl
      try case la => rfl
      intro wF aF gF
      have HF := Lib.hid (HO.out.stored H2.out.2.2.2 gF hsz5 (by omega))
      obtain ⟨⟨z0, z1, z2, z3, z4⟩, _⟩ := AtL.to5 aF
      clear aF gF HO HA5
      go_wp2_with fail
      exact bodyPost_ret (v := .tuple #[.agg #[.int .i64 fU, .int .i64 bU, .slice pa PU.length pc, .int .i64 lU, .slice ma MU.length mc], .bool x]) (by simp [results, Tryz.results11, go_sem, z0, z1, z2, z3, z4]) rfl (by rw [HX.out]; exact ⟨_, _, rfl, HF.out⟩)
end Go.Proofs.YtioppkalehnoaaaGreatDoor
