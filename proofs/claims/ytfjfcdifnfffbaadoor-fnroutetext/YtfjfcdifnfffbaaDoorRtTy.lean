/-
  A route's text tells the route.
-/
import Derived.Test.YtfjfcdifnfffbaaDoorRtTx
namespace Go.Proofs.YtfjfcdifnfffbaaDoor
set_option linter.unusedSimpArgs false
set_option linter.unusedVariables false

def tdig3 (n : Nat) : List UInt8 :=
  if n < 10 then [UInt8.ofNat (48 + n)] else if n < 100 then [UInt8.ofNat (48 + n / 10), UInt8.ofNat (48 + n % 10)]
  else [UInt8.ofNat (48 + n / 100), UInt8.ofNat (48 + n / 10 % 10), UInt8.ofNat (48 + n % 10)]
theorem tdec3 {n : Nat} (h : n < 1000) : Lib.decDigits n = tdig3 n := by
  unfold tdig3
  split
  · rw [Lib.decDigits, dif_pos (by omega)]
  · split
    · rw [Lib.decDigits, dif_neg (by omega), Lib.decDigits, dif_pos (by omega)]; rfl
    · rw [Lib.decDigits, dif_neg (by omega), Lib.decDigits, dif_neg (by omega), Lib.decDigits, dif_pos (by omega), Nat.div_div_eq_div_mul]; rfl
def tval (l : List UInt8) : Nat := l.foldl (fun a d => 10 * a + (d.toNat - 48)) 0
theorem tdig3_ok : ∀ n, n < 256 → tval (tdig3 n) = n ∧ (tdig3 n).all (fun d => d != 47) = true := by decide +kernel
def tback (l : List UInt8) : Nat × Nat := (tval (l.takeWhile fun d => d != 47), tval (l.dropWhile fun d => d != 47).tail)
theorem tback_text {m n : Nat} (hm : m < 256) (hn : n < 256) : tback (Lib.decDigits m ++ [47] ++ Lib.decDigits n) = (m, n) := by
  rw [tdec3 (by omega), tdec3 (by omega)]
  obtain ⟨v1, a1⟩ := tdig3_ok m hm
  obtain ⟨v2, a2⟩ := tdig3_ok n hn
  have p1 : ∀ a ∈ tdig3 m, (fun d : UInt8 => d != 47) a = true := by simpa [List.all_eq_true] using a1
  unfold tback
  rw [List.append_assoc, List.takeWhile_append_of_pos p1, List.dropWhile_append_of_pos p1]
  simp [v1, v2]
theorem ttxt_list (f b : Int) : (txt f b).data.toList = Lib.decDigits f.toNat ++ [47] ++ Lib.decDigits b.toNat := by
  simp [txt, dig, ByteArray.data_append]
theorem ttext_inj {f b g c : Int} (ho : okB f b = true) (hg : okB g c = true) (h : txt f b = txt g c) : f = g ∧ b = c := by
  obtain ⟨f0, f1, b0, b8⟩ := okB_in ho
  obtain ⟨g0, g1, c0, c8⟩ := okB_in hg
  have k := congrArg (fun s : ByteArray => tback s.data.toList) h
  simp only [ttxt_list] at k
  rw [tback_text (by omega) (by omega), tback_text (by omega) (by omega)] at k
  simp only [Prod.mk.injEq] at k
  omega
theorem tempty_ne {s : ByteArray} (h : s.size ≠ 0) : (s.toList == ([] : List UInt8)) = false := by
  rw [beq_eq_false_iff_ne]
  intro k
  refine h ?_
  have : s.data.toList = [] := by simpa [ByteArray.toList_eq] using k
  show s.data.size = 0
  rw [← Array.length_toList, this]; rfl
theorem split32 : ∀ {A C B D : List UInt8}, 32 ∉ A → 32 ∉ C → A ++ 32 :: B = C ++ 32 :: D → A = C ∧ B = D
  | [], [], B, D, _, _, h => ⟨rfl, by simpa using h⟩
  | [], c :: C, B, D, _, hC, h => by
    simp only [List.nil_append, List.cons_append, List.cons.injEq] at h
    exact (hC (by rw [← h.1]; simp)).elim
  | a :: A, [], B, D, hA, _, h => by
    simp only [List.nil_append, List.cons_append, List.cons.injEq] at h
    exact (hA (by rw [h.1]; simp)).elim
  | a :: A, c :: C, B, D, hA, hC, h => by
    simp only [List.cons_append, List.cons.injEq] at h
    obtain ⟨e1, e2⟩ := split32 (fun x => hA (List.mem_cons_of_mem _ x)) (fun x => hC (List.mem_cons_of_mem _ x)) h.2
    exact ⟨by rw [h.1, e1], e2⟩
theorem dgt_nat {h : Int} (h0 : 0 ≤ h) (h9 : h ≤ 9) : (dgt h).toNat = 48 + h.toNat := by
  unfold dgt
  rw [UInt8.toNat_ofNat']
  omega
theorem dgt_eq {x y : Int} (x0 : 0 ≤ x) (x9 : x ≤ 9) (y0 : 0 ≤ y) (y9 : y ≤ 9) (h : dgt x = dgt y) : x = y := by
  have := congrArg UInt8.toNat h
  rw [dgt_nat x0 x9, dgt_nat y0 y9] at this
  omega
theorem dgt_no32 {x : Int} (x0 : 0 ≤ x) (x9 : x ≤ 9) : (32 : UInt8) ≠ dgt x := fun h => by
  have := congrArg UInt8.toNat h
  rw [dgt_nat x0 x9] at this
  simp at this
  omega
theorem mks_inj : ∀ {M N : List Int}, (∀ x ∈ M, 1 ≤ x ∧ x ≤ 9) → (∀ x ∈ N, 1 ≤ x ∧ x ≤ 9) → mks M = mks N → M = N
  | [], [], _, _, _ => rfl
  | [], _ :: _, _, _, h => by simp [mks] at h
  | _ :: _, [], _, _, h => by simp [mks] at h
  | a :: M, b :: N, hM, hN, h => by
    simp only [mks, List.map_cons, List.cons.injEq] at h
    have ha := hM a (by simp); have hb := hN b (by simp)
    rw [dgt_eq (by omega) ha.2 (by omega) hb.2 h.1, mks_inj (fun x hx => hM x (List.mem_cons_of_mem _ hx)) (fun x hx => hN x (List.mem_cons_of_mem _ hx)) h.2]
theorem tdig3_no32 : ∀ n, n < 256 → (tdig3 n).all (fun d => d != 32) = true := by decide +kernel
theorem dec_no32 {n : Nat} (h : n < 256) : (32 : UInt8) ∉ Lib.decDigits n := by
  rw [tdec3 (by omega)]
  intro k
  have := List.all_eq_true.1 (tdig3_no32 n h) _ k
  simp at this
theorem txt_no32 {f b : Int} (h : okB f b = true) : (32 : UInt8) ∉ (txt f b).data.toList := by
  obtain ⟨f0, f1, b0, b8⟩ := okB_in h
  rw [ttxt_list]
  intro k
  simp only [List.mem_append, List.mem_singleton] at k
  rcases k with (k | k) | k
  · exact dec_no32 (by omega) k
  · cases k
  · exact dec_no32 (by omega) k
theorem strk_mem : ∀ {L : List Int} {x : UInt8}, x ∈ strk L → x = 45 ∨ ∃ h ∈ L, x = dgt h
  | [], _, h => by cases h
  | a :: l, x, h => by
    simp only [strk, List.mem_cons] at h
    rcases h with h | h | h
    · exact .inl h
    · exact .inr ⟨a, by simp, h⟩
    · rcases strk_mem h with h | ⟨y, hy, e⟩
      · exact .inl h
      · exact .inr ⟨y, List.mem_cons_of_mem _ hy, e⟩
theorem ptext_no32 {L : List Int} (h : Path L) : (32 : UInt8) ∉ (ptext L).data.toList := by
  rw [ptext_yes h]
  show (32 : UInt8) ∉ (ptxt L).toArray.toList
  intro k
  by_cases e : L = []
  · subst e; simp [ptxt] at k
  · rw [ptxt_jn e] at k
    cases L with
    | nil => exact e rfl
    | cons a l =>
      simp only [jn, List.mem_cons] at k
      have k' : (32 : UInt8) ∈ dgt a :: strk l := by simpa using k
      rcases List.mem_cons.1 k' with k | k
      · have := h.1 a (by simp)
        exact dgt_no32 (by omega) (by omega) k
      · rcases strk_mem k with k | ⟨y, hy, k⟩
        · cases k
        · have := h.1 y (List.mem_cons_of_mem _ hy)
          exact dgt_no32 (by omega) (by omega) k
theorem rtt_list {r : Rt} (h : rtOk r = true) : (rtt r).data.toList = (txt r.1 r.2.1).data.toList ++ 32 :: ((ptext r.2.2.1).data.toList ++ 32 :: (dgt r.2.2.2.1 :: 32 :: 109 :: mks r.2.2.2.2)) := by
  rw [rtt_yes h, rhead]
  simp [dg]
theorem rtt_inj {r q : Rt} (hr : rtOk r = true) (hq : rtOk q = true) (e : rtt r = rtt q) : r = q := by
  have gr := (rtOk_iff r).1 hr
  have gq := (rtOk_iff q).1 hq
  have e0 : (rtt r).data.toList = (rtt q).data.toList := by rw [e]
  rw [rtt_list hr, rtt_list hq] at e0
  obtain ⟨e1, e0⟩ := split32 (txt_no32 gr.ran) (txt_no32 gq.ran) e0
  obtain ⟨e2, e0⟩ := split32 (ptext_no32 gr.path) (ptext_no32 gq.path) e0
  simp only [List.cons.injEq, true_and] at e0
  have t2 := ttext_inj gr.ran gq.ran (ByteArray.ext (Array.ext' e1))
  have t3 := ptext_inj gr.path gq.path (ByteArray.ext (Array.ext' e2))
  have t4 := dgt_eq gr.like.1 gr.like.2 gq.like.1 gq.like.2 e0.1
  have t5 := mks_inj gr.marks.1 gq.marks.1 e0.2
  obtain ⟨f, b, P, l, M⟩ := r
  obtain ⟨g, c, Q, k, N⟩ := q
  simp only [Prod.mk.injEq]
  exact ⟨t2.1, t2.2, t3, t4, t5⟩
theorem rtt_eq {r q : Rt} (hr : rtOk r = true) (hq : rtOk q = true) {x : Bool} (h : decide (r = q) = x) : ((rtt r).toList == (rtt q).toList) = x := by
  rw [text_eq, ← h, Bool.eq_iff_iff, decide_eq_true_eq, decide_eq_true_eq]
  exact ⟨rtt_inj hr hq, fun e => by rw [e]⟩
theorem rtt_some {r : Rt} (h : rtOk r = true) : ((rtt r).toList == ([] : List UInt8)) = false := tempty_ne (by
  have e : (rtt r).data.toList.length = (rtt r).size := Array.length_toList
  rw [← e, rtt_list h]
  simp only [List.length_append, List.length_cons]
  omega)
end Go.Proofs.YtfjfcdifnfffbaaDoor
