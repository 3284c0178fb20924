/-
  The exact laws of RelsOk, RelOf, RelMay, RelsFree: the walks.
-/
import Derived.Test.YtnljcppefnaapaaHoImp
import Derived.Test.YtnljcppefnaapaaHoEx
namespace Go.Proofs.Ytnljcppefnaapaa
open Go.RowKit
set_option linter.unusedSimpArgs false
set_option linter.unusedVariables false

theorem mat_small {L M : List IR} {N : Nat} (he : matP L = matP M) (hs : ∀ v ∈ M, v.P.length ≤ N) : ∀ x ∈ L, x.P.length ≤ N := fun x hx => by
  have : x.P ∈ matP M := by rw [← he]; exact List.mem_map_of_mem hx
  obtain ⟨y, hy, e⟩ := List.mem_map.1 this
  rw [← e]; exact hs y hy
set_option maxRecDepth 100000 in
set_option maxHeartbeats 4000000 in
theorem exactRelsOk_walk (a0 : Option Addr) (n0 cap0 : Nat) (L0 : List IR) (w : World) (hn0 : n0 = L0.length) (hA0 : MatA w a0 L0) (hr0 : ∀ x ∈ L0, x.P.length ≤ 9223372036854775807) (hl0 : n0 ≤ 9223372036854775807) :
    Calls Try.prog 12 #[.slice a0 n0 cap0] w fun e w' => e = .returned (.bool true) ∧ Below w.heap.size w w' := by
  subst hn0
  have HB0 := Lib.hid (Below.refl w.heap.size w)
  have Aq_0 := Lib.hid hA0
  clear hA0
  go_enter Try.func12, Try.ntmps12
  go_wp2_with fail
  refine (szss_any L0 a0 cap0 _ _ rfl Aq_0.out hl0 hr0).mono ?_
  rintro en w0 ⟨z, rfl, hz, rfl⟩
  by_cases hneg : z < 0
  · go_wp2_with fail
    go_ret
    exact ⟨rfl, HB0.out⟩
  obtain ⟨hl1, hs⟩ := hz (by omega)
  have HS := Lib.hid hs
  clear hs hz
  obtain ⟨rs, hy⟩ : ∃ rs, relsOk (matP L0) = rs := ⟨_, rfl⟩
  have HY := Lib.hid hy
  have hyy : (rs != rs) = false := by simp
  clear hy
  go_wp2_with fail
  refine (toss_own L0 a0 cap0 _ _ rfl Aq_0.out hl1 HS.out).mono ?_
  rintro en w1 ⟨Nt, gt, ct, rfl, hp, hm, b⟩
  have HB1 := Lib.hid (HB0.out.trans (b.mono HB0.out.size))
  have Aq_1 := Lib.hid (Aq_0.out.below b)
  have At_1 := Lib.hid hp.mat
  have Et := Lib.hid hm
  have lt : Hid (Nt.length = L0.length) := Lib.hid (by have := congrArg List.length hm; simpa [matP] using this)
  clear hp hm b
  go_wp2_with fail
  refine (srelsok_is Nt (show relsOk (matP Nt) = rs by rw [Et.out]; exact HY.out) (some ⟨gt, 0, none⟩) ct _ _ rfl At_1.out (by have := lt.out; omega)).mono ?_
  rintro en w2 ⟨rfl, b⟩
  have HB2 := Lib.hid (HB1.out.trans (b.mono HB1.out.size))
  have Aq_2 := Lib.hid (Aq_1.out.below b)
  have At_2 := Lib.hid (At_1.out.below b)
  clear b
  go_wp2_with fail
  refine (toss_own L0 a0 cap0 _ _ rfl Aq_2.out hl1 HS.out).mono ?_
  rintro en w3 ⟨Nx, gx, cx, rfl, hp, hm, b⟩
  have HB3 := Lib.hid (HB2.out.trans (b.mono HB2.out.size))
  have Aq_3 := Lib.hid (Aq_2.out.below b)
  have Ax_3 := Lib.hid hp.mat
  have Ex := Lib.hid hm
  have lx : Hid (Nx.length = L0.length) := Lib.hid (by have := congrArg List.length hm; simpa [matP] using this)
  clear hp hm b
  go_wp2_with fail
  refine (irelsok_is Nx (show relsOk (matP Nx) = rs by rw [Ex.out]; exact HY.out) (some ⟨gx, 0, none⟩) cx _ _ rfl Ax_3.out (by have := lx.out; omega)).mono ?_
  rintro en w4 ⟨rfl, b⟩
  have HB4 := Lib.hid (HB3.out.trans (b.mono HB3.out.size))
  have Aq_4 := Lib.hid (Aq_3.out.below b)
  have Ax_4 := Lib.hid (Ax_3.out.below b)
  clear b
  go_wp2_with fail
  refine (toss_own L0 a0 cap0 _ _ rfl Aq_4.out hl1 HS.out).mono ?_
  rintro en w5 ⟨Nu, gu, cu, rfl, hp, hm, b⟩
  have HB5 := Lib.hid (HB4.out.trans (b.mono HB4.out.size))
  have Aq_5 := Lib.hid (Aq_4.out.below b)
  have Ax_5 := Lib.hid (Ax_4.out.below b)
  have Au_5 := Lib.hid hp.mat
  have Eu := Lib.hid hm
  have lu : Hid (Nu.length = L0.length) := Lib.hid (by have := congrArg List.length hm; simpa [matP] using this)
  clear hp hm b
  go_wp2_with fail
  refine (eqss_is Nx Nu (some ⟨gx, 0, none⟩) (some ⟨gu, 0, none⟩) cx cu _ _ _ rfl rfl Ax_5.out Au_5.out (Ex.out.trans Eu.out.symm) (by have := lx.out; omega) (fun v hv => by have h1 := mat_small Ex.out HS.out v hv; omega)).mono ?_
  rintro en w6 ⟨rfl, b⟩
  have HB6 := Lib.hid (HB5.out.trans (b.mono HB5.out.size))
  have Aq_6 := Lib.hid (Aq_5.out.below b)
  have Ax_6 := Lib.hid (Ax_5.out.below b)
  have Au_6 := Lib.hid (Au_5.out.below b)
  clear b
  go_wp2_with fail
  go_ret
  exact ⟨rfl, HB6.out⟩
set_option maxRecDepth 100000 in
set_option maxHeartbeats 4000000 in
theorem exactRelOf_walk (a0 : Option Addr) (n0 cap0 : Nat) (L0 : List IR) (x : Int) (y : Int) (w : World) (hn0 : n0 = L0.length) (hA0 : MatA w a0 L0) (hr0 : ∀ x ∈ L0, x.P.length ≤ 9223372036854775807) (hl0 : n0 ≤ 9223372036854775807) (hwx : Iw x) (hwy : Iw y) :
    Calls Try.prog 13 #[.slice a0 n0 cap0, .int .i64 x, .int .i64 y] w fun e w' => e = .returned (.bool true) ∧ Below w.heap.size w w' := by
  subst hn0
  have HB0 := Lib.hid (Below.refl w.heap.size w)
  have Aq_0 := Lib.hid hA0
  clear hA0
  go_enter Try.func13, Try.ntmps13
  go_wp2_with fail
  refine (szss_any L0 a0 cap0 _ _ rfl Aq_0.out hl0 hr0).mono ?_
  rintro en w0 ⟨z, rfl, hz, rfl⟩
  by_cases hneg : z < 0
  · go_wp2_with fail
    go_ret
    exact ⟨rfl, HB0.out⟩
  obtain ⟨hl1, hs⟩ := hz (by omega)
  have HS := Lib.hid hs
  clear hs hz
  obtain ⟨rs, hy⟩ : ∃ rs, relOf (matP L0) x y = rs := ⟨_, rfl⟩
  have HY := Lib.hid hy
  have hyy : (rs != rs) = false := by simp
  clear hy
  go_wp2_with fail
  refine (toss_own L0 a0 cap0 _ _ rfl Aq_0.out hl1 HS.out).mono ?_
  rintro en w1 ⟨Nt, gt, ct, rfl, hp, hm, b⟩
  have HB1 := Lib.hid (HB0.out.trans (b.mono HB0.out.size))
  have Aq_1 := Lib.hid (Aq_0.out.below b)
  have At_1 := Lib.hid hp.mat
  have Et := Lib.hid hm
  have lt : Hid (Nt.length = L0.length) := Lib.hid (by have := congrArg List.length hm; simpa [matP] using this)
  clear hp hm b
  go_wp2_with fail
  refine (srelof_is Nt x y (show relOf (matP Nt) x y = rs by rw [Et.out]; exact HY.out) (some ⟨gt, 0, none⟩) ct _ _ rfl At_1.out (by have := lt.out; omega)).mono ?_
  rintro en w2 ⟨rfl, b⟩
  have HB2 := Lib.hid (HB1.out.trans (b.mono HB1.out.size))
  have Aq_2 := Lib.hid (Aq_1.out.below b)
  have At_2 := Lib.hid (At_1.out.below b)
  clear b
  go_wp2_with fail
  refine (toss_own L0 a0 cap0 _ _ rfl Aq_2.out hl1 HS.out).mono ?_
  rintro en w3 ⟨Nx, gx, cx, rfl, hp, hm, b⟩
  have HB3 := Lib.hid (HB2.out.trans (b.mono HB2.out.size))
  have Aq_3 := Lib.hid (Aq_2.out.below b)
  have Ax_3 := Lib.hid hp.mat
  have Ex := Lib.hid hm
  have lx : Hid (Nx.length = L0.length) := Lib.hid (by have := congrArg List.length hm; simpa [matP] using this)
  clear hp hm b
  go_wp2_with fail
  refine (irelof_is Nx x y hwx hwy (show relOf (matP Nx) x y = rs by rw [Ex.out]; exact HY.out) (some ⟨gx, 0, none⟩) cx _ _ rfl Ax_3.out (by have := lx.out; omega)).mono ?_
  rintro en w4 ⟨rfl, b⟩
  have HB4 := Lib.hid (HB3.out.trans (b.mono HB3.out.size))
  have Aq_4 := Lib.hid (Aq_3.out.below b)
  have Ax_4 := Lib.hid (Ax_3.out.below b)
  clear b
  go_wp2_with fail
  refine (toss_own L0 a0 cap0 _ _ rfl Aq_4.out hl1 HS.out).mono ?_
  rintro en w5 ⟨Nu, gu, cu, rfl, hp, hm, b⟩
  have HB5 := Lib.hid (HB4.out.trans (b.mono HB4.out.size))
  have Aq_5 := Lib.hid (Aq_4.out.below b)
  have Ax_5 := Lib.hid (Ax_4.out.below b)
  have Au_5 := Lib.hid hp.mat
  have Eu := Lib.hid hm
  have lu : Hid (Nu.length = L0.length) := Lib.hid (by have := congrArg List.length hm; simpa [matP] using this)
  clear hp hm b
  go_wp2_with fail
  refine (eqss_is Nx Nu (some ⟨gx, 0, none⟩) (some ⟨gu, 0, none⟩) cx cu _ _ _ rfl rfl Ax_5.out Au_5.out (Ex.out.trans Eu.out.symm) (by have := lx.out; omega) (fun v hv => by have h1 := mat_small Ex.out HS.out v hv; omega)).mono ?_
  rintro en w6 ⟨rfl, b⟩
  have HB6 := Lib.hid (HB5.out.trans (b.mono HB5.out.size))
  have Aq_6 := Lib.hid (Aq_5.out.below b)
  have Ax_6 := Lib.hid (Ax_5.out.below b)
  have Au_6 := Lib.hid (Au_5.out.below b)
  clear b
  go_wp2_with fail
  go_ret
  exact ⟨rfl, HB6.out⟩
set_option maxRecDepth 100000 in
set_option maxHeartbeats 4000000 in
theorem exactRelMay_walk (a0 : Option Addr) (n0 cap0 : Nat) (L0 : List IR) (x : Int) (y : Int) (u : Int) (w : World) (hn0 : n0 = L0.length) (hA0 : MatA w a0 L0) (hr0 : ∀ x ∈ L0, x.P.length ≤ 9223372036854775807) (hl0 : n0 ≤ 9223372036854775807) (hwx : Iw x) (hwy : Iw y) (hwu : Iw u) :
    Calls Try.prog 14 #[.slice a0 n0 cap0, .int .i64 x, .int .i64 y, .int .i64 u] w fun e w' => e = .returned (.bool true) ∧ Below w.heap.size w w' := by
  subst hn0
  have HB0 := Lib.hid (Below.refl w.heap.size w)
  have Aq_0 := Lib.hid hA0
  clear hA0
  go_enter Try.func14, Try.ntmps14
  go_wp2_with fail
  refine (szss_any L0 a0 cap0 _ _ rfl Aq_0.out hl0 hr0).mono ?_
  rintro en w0 ⟨z, rfl, hz, rfl⟩
  by_cases hneg : z < 0
  · go_wp2_with fail
    go_ret
    exact ⟨rfl, HB0.out⟩
  obtain ⟨hl1, hs⟩ := hz (by omega)
  have HS := Lib.hid hs
  clear hs hz
  obtain ⟨rs, hy⟩ : ∃ rs, relMay (matP L0) x y u = rs := ⟨_, rfl⟩
  have HY := Lib.hid hy
  have hyy : (rs != rs) = false := by simp
  clear hy
  go_wp2_with fail
  refine (toss_own L0 a0 cap0 _ _ rfl Aq_0.out hl1 HS.out).mono ?_
  rintro en w1 ⟨Nt, gt, ct, rfl, hp, hm, b⟩
  have HB1 := Lib.hid (HB0.out.trans (b.mono HB0.out.size))
  have Aq_1 := Lib.hid (Aq_0.out.below b)
  have At_1 := Lib.hid hp.mat
  have Et := Lib.hid hm
  have lt : Hid (Nt.length = L0.length) := Lib.hid (by have := congrArg List.length hm; simpa [matP] using this)
  clear hp hm b
  go_wp2_with fail
  refine (srelmay_is Nt x y u (show relMay (matP Nt) x y u = rs by rw [Et.out]; exact HY.out) (some ⟨gt, 0, none⟩) ct _ _ rfl At_1.out (by have := lt.out; omega)).mono ?_
  rintro en w2 ⟨rfl, b⟩
  have HB2 := Lib.hid (HB1.out.trans (b.mono HB1.out.size))
  have Aq_2 := Lib.hid (Aq_1.out.below b)
  have At_2 := Lib.hid (At_1.out.below b)
  clear b
  go_wp2_with fail
  refine (toss_own L0 a0 cap0 _ _ rfl Aq_2.out hl1 HS.out).mono ?_
  rintro en w3 ⟨Nx, gx, cx, rfl, hp, hm, b⟩
  have HB3 := Lib.hid (HB2.out.trans (b.mono HB2.out.size))
  have Aq_3 := Lib.hid (Aq_2.out.below b)
  have Ax_3 := Lib.hid hp.mat
  have Ex := Lib.hid hm
  have lx : Hid (Nx.length = L0.length) := Lib.hid (by have := congrArg List.length hm; simpa [matP] using this)
  clear hp hm b
  go_wp2_with fail
  refine (irelmay_is Nx x y u hwx hwy hwu (show relMay (matP Nx) x y u = rs by rw [Ex.out]; exact HY.out) (some ⟨gx, 0, none⟩) cx _ _ rfl Ax_3.out (by have := lx.out; omega)).mono ?_
  rintro en w4 ⟨rfl, b⟩
  have HB4 := Lib.hid (HB3.out.trans (b.mono HB3.out.size))
  have Aq_4 := Lib.hid (Aq_3.out.below b)
  have Ax_4 := Lib.hid (Ax_3.out.below b)
  clear b
  go_wp2_with fail
  refine (toss_own L0 a0 cap0 _ _ rfl Aq_4.out hl1 HS.out).mono ?_
  rintro en w5 ⟨Nu, gu, cu, rfl, hp, hm, b⟩
  have HB5 := Lib.hid (HB4.out.trans (b.mono HB4.out.size))
  have Aq_5 := Lib.hid (Aq_4.out.below b)
  have Ax_5 := Lib.hid (Ax_4.out.below b)
  have Au_5 := Lib.hid hp.mat
  have Eu := Lib.hid hm
  have lu : Hid (Nu.length = L0.length) := Lib.hid (by have := congrArg List.length hm; simpa [matP] using this)
  clear hp hm b
  go_wp2_with fail
  refine (eqss_is Nx Nu (some ⟨gx, 0, none⟩) (some ⟨gu, 0, none⟩) cx cu _ _ _ rfl rfl Ax_5.out Au_5.out (Ex.out.trans Eu.out.symm) (by have := lx.out; omega) (fun v hv => by have h1 := mat_small Ex.out HS.out v hv; omega)).mono ?_
  rintro en w6 ⟨rfl, b⟩
  have HB6 := Lib.hid (HB5.out.trans (b.mono HB5.out.size))
  have Aq_6 := Lib.hid (Aq_5.out.below b)
  have Ax_6 := Lib.hid (Ax_5.out.below b)
  have Au_6 := Lib.hid (Au_5.out.below b)
  clear b
  go_wp2_with fail
  go_ret
  exact ⟨rfl, HB6.out⟩
set_option maxRecDepth 100000 in
set_option maxHeartbeats 4000000 in
theorem exactRelsFree_walk (a0 : Option Addr) (n0 cap0 : Nat) (L0 : List IR) (w : World) (hn0 : n0 = L0.length) (hA0 : MatA w a0 L0) (hr0 : ∀ x ∈ L0, x.P.length ≤ 9223372036854775807) (hl0 : n0 ≤ 9223372036854775807) :
    Calls Try.prog 15 #[.slice a0 n0 cap0] w fun e w' => e = .returned (.bool true) ∧ Below w.heap.size w w' := by
  subst hn0
  have HB0 := Lib.hid (Below.refl w.heap.size w)
  have Aq_0 := Lib.hid hA0
  clear hA0
  go_enter Try.func15, Try.ntmps15
  go_wp2_with fail
  refine (szss_any L0 a0 cap0 _ _ rfl Aq_0.out hl0 hr0).mono ?_
  rintro en w0 ⟨z, rfl, hz, rfl⟩
  by_cases hneg : z < 0
  · go_wp2_with fail
    go_ret
    exact ⟨rfl, HB0.out⟩
  obtain ⟨hl1, hs⟩ := hz (by omega)
  have HS := Lib.hid hs
  clear hs hz
  obtain ⟨rs, hy⟩ : ∃ rs, relsFree (matP L0) = rs := ⟨_, rfl⟩
  have HY := Lib.hid hy
  have hyy : (rs != rs) = false := by simp
  clear hy
  go_wp2_with fail
  refine (toss_own L0 a0 cap0 _ _ rfl Aq_0.out hl1 HS.out).mono ?_
  rintro en w1 ⟨Nt, gt, ct, rfl, hp, hm, b⟩
  have HB1 := Lib.hid (HB0.out.trans (b.mono HB0.out.size))
  have Aq_1 := Lib.hid (Aq_0.out.below b)
  have At_1 := Lib.hid hp.mat
  have Et := Lib.hid hm
  have lt : Hid (Nt.length = L0.length) := Lib.hid (by have := congrArg List.length hm; simpa [matP] using this)
  clear hp hm b
  go_wp2_with fail
  refine (srelsfree_is Nt (show relsFree (matP Nt) = rs by rw [Et.out]; exact HY.out) (some ⟨gt, 0, none⟩) ct _ _ rfl At_1.out (by have := lt.out; omega)).mono ?_
  rintro en w2 ⟨rfl, b⟩
  have HB2 := Lib.hid (HB1.out.trans (b.mono HB1.out.size))
  have Aq_2 := Lib.hid (Aq_1.out.below b)
  have At_2 := Lib.hid (At_1.out.below b)
  clear b
  go_wp2_with fail
  refine (toss_own L0 a0 cap0 _ _ rfl Aq_2.out hl1 HS.out).mono ?_
  rintro en w3 ⟨Nx, gx, cx, rfl, hp, hm, b⟩
  have HB3 := Lib.hid (HB2.out.trans (b.mono HB2.out.size))
  have Aq_3 := Lib.hid (Aq_2.out.below b)
  have Ax_3 := Lib.hid hp.mat
  have Ex := Lib.hid hm
  have lx : Hid (Nx.length = L0.length) := Lib.hid (by have := congrArg List.length hm; simpa [matP] using this)
  clear hp hm b
  go_wp2_with fail
  refine (irelsfree_is Nx (show relsFree (matP Nx) = rs by rw [Ex.out]; exact HY.out) (some ⟨gx, 0, none⟩) cx _ _ rfl Ax_3.out (by have := lx.out; omega)).mono ?_
  rintro en w4 ⟨rfl, b⟩
  have HB4 := Lib.hid (HB3.out.trans (b.mono HB3.out.size))
  have Aq_4 := Lib.hid (Aq_3.out.below b)
  have Ax_4 := Lib.hid (Ax_3.out.below b)
  clear b
  go_wp2_with fail
  refine (toss_own L0 a0 cap0 _ _ rfl Aq_4.out hl1 HS.out).mono ?_
  rintro en w5 ⟨Nu, gu, cu, rfl, hp, hm, b⟩
  have HB5 := Lib.hid (HB4.out.trans (b.mono HB4.out.size))
  have Aq_5 := Lib.hid (Aq_4.out.below b)
  have Ax_5 := Lib.hid (Ax_4.out.below b)
  have Au_5 := Lib.hid hp.mat
  have Eu := Lib.hid hm
  have lu : Hid (Nu.length = L0.length) := Lib.hid (by have := congrArg List.length hm; simpa [matP] using this)
  clear hp hm b
  go_wp2_with fail
  refine (eqss_is Nx Nu (some ⟨gx, 0, none⟩) (some ⟨gu, 0, none⟩) cx cu _ _ _ rfl rfl Ax_5.out Au_5.out (Ex.out.trans Eu.out.symm) (by have := lx.out; omega) (fun v hv => by have h1 := mat_small Ex.out HS.out v hv; omega)).mono ?_
  rintro en w6 ⟨rfl, b⟩
  have HB6 := Lib.hid (HB5.out.trans (b.mono HB5.out.size))
  have Aq_6 := Lib.hid (Aq_5.out.below b)
  have Ax_6 := Lib.hid (Ax_5.out.below b)
  have Au_6 := Lib.hid (Au_5.out.below b)
  clear b
  go_wp2_with fail
  go_ret
  exact ⟨rfl, HB6.out⟩
end Go.Proofs.Ytnljcppefnaapaa
