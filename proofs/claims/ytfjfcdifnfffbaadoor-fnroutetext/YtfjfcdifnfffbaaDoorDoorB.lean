/-
  The door seat: the text of a range, as the model and as the program write it.
-/
import Derived.Test.YtfjfcdifnfffbaaDoorDoorA
import Derived.Test.YtfjfcdifnfffbaaDoorShelf
import Derived.Lib.SmallJoins
import Derived.Lib.AppendIntMem
namespace Go.Proofs.YtfjfcdifnfffbaaDoor
open Go.RowKit
set_option linter.unusedSimpArgs false

def dig (z : Int) : ByteArray := ⟨(Lib.decDigits z.toNat).toArray⟩
def txt (f b : Int) : ByteArray := dig f ++ ⟨#[47]⟩ ++ dig b
theorem dig_size {z : Int} (h0 : 0 ≤ z) (h : z < 1000) : (dig z).size ≤ 21 := by
  have := dec_len (n := z.toNat) (by omega)
  simpa [dig, ByteArray.size] using this
theorem txt_fits {f b : Int} (f0 : 0 ≤ f) (f1 : f ≤ 255) (b0 : 0 ≤ b) (b8 : b ≤ 8) :
    ¬ 9223372036854775807 < (dig f).size + 1 ∧ ¬ 9223372036854775807 < (dig f).size + 1 + (dig b).size := by
  have := dig_size f0 (by omega); have := dig_size b0 (by omega)
  omega
theorem dec_int (z : Int) (w : World) (h0 : 0 ≤ z) (h : z < 1000) :
    Calls Tryd.prog 82 #[.int .i64 z] w fun e w' => e = .returned (.string (dig z)) ∧ Below w.heap.size w w' := by
  have := dec_any z.toNat w (by omega)
  rwa [Int.toNat_of_nonneg h0] at this

set_option maxRecDepth 4000 in
set_option maxHeartbeats 1000000 in
theorem l1text (f b : Int) (w : World) (f0 : 0 ≤ f) (f1 : f ≤ 255) (b0 : 0 ≤ b) (b8 : b ≤ 8) :
    Calls Tryd.prog 80 #[.agg #[.int .i64 f, .int .i64 b]] w fun e w' => e = .returned (.string (txt f b)) ∧ Below w.heap.size w w' := by
  obtain ⟨hl1, hl2⟩ := txt_fits f0 f1 b0 b8
  go_enter Tryd.func80, Tryd.ntmps80
  go_wp2_with fail
  refine wp_region_held_drew (S := fun w' => w'.cell? ⟨w.heap.size, 0, none⟩ = some (.int .i64 f) ∧ w'.cell? ⟨w.heap.size, 1, none⟩ = some (.int .i64 b) ∧ Below w.heap.size w w') (by kernel_rfl) ?_ (fun hHeld => ?_)
  · exact ⟨by simp, by simp, ((Below.refl _ _).alloc (Nat.le_refl _) _).drew⟩
  refine takeH (i := 0) (v := ?_) rfl rfl (by kernel_rfl) (by kernel_rfl) (by kernel_rfl) (fun _ _ _ h => h) (by rfl) ?_ (by assumption) ?_
  rotate_left 1
  · intro w hSw
    (try dsimp only at hSw)
    go_simp
    try with_reducible rfl
  try simp only [List.setIfInBounds_toArray, List.set_cons_zero, List.set_cons_succ]
  refine takeH (i := 1) (v := ?_) rfl rfl (by kernel_rfl) (by kernel_rfl) (by kernel_rfl) (fun _ _ _ h => h) (by rfl) ?_ (by assumption) ?_
  rotate_left 1
  · intro w hSw
    (try dsimp only at hSw)
    go_simp
    try with_reducible rfl
  try simp only [List.setIfInBounds_toArray, List.set_cons_zero, List.set_cons_succ]
  refine takeH (i := 4) (v := ?_) rfl rfl (by kernel_rfl) (by kernel_rfl) (by kernel_rfl) (fun _ _ _ h => h) (by rfl) ?_ (by assumption) ?_
  rotate_left 1
  · intro w hSw
    (try dsimp only at hSw)
    go_simp
    try with_reducible rfl
  try simp only [List.setIfInBounds_toArray, List.set_cons_zero, List.set_cons_succ]
  refine takeH (i := 5) (v := ?_) rfl rfl (by kernel_rfl) (by kernel_rfl) (by kernel_rfl) (fun _ _ _ h => h) (by rfl) ?_ (by assumption) ?_
  rotate_left 1
  · intro w hSw
    (try dsimp only at hSw)
    go_simp
    try with_reducible rfl
  try simp only [List.setIfInBounds_toArray, List.set_cons_zero, List.set_cons_succ]
  refine wpAnyH_ready (rs := [2]) (by kernel_rfl) (by simp) ?_
  refine AllReadyH.cons rfl (fun K hK => ?_) (AllReadyH.nil)
  go_simp
  refine (dec_int _ _ f0 (by omega)).mono ?_
  rintro e w1 ⟨rfl, hb1⟩
  go_wp2_with fail
  refine hK.out _ _ ?_ (fun hNew => ?_)
  · exact ⟨cell_later hb1 hHeld.1, cell_later hb1 hHeld.2.1, below_on hHeld.2.2 hb1 hHeld.2.2.size⟩
  clear hK K hHeld
  have hHeld := hNew
  clear hNew
  try simp only [Act.put, List.setIfInBounds_toArray, List.set_cons_zero, List.set_cons_succ]
  refine takeH (i := 3) (v := ?_) rfl rfl (by kernel_rfl) (by kernel_rfl) (by kernel_rfl) (fun _ _ _ h => h) (by rfl) ?_ (by assumption) ?_
  rotate_left 1
  · intro w hSw
    (try dsimp only at hSw)
    go_simp
    try with_reducible rfl
  try simp only [List.setIfInBounds_toArray, List.set_cons_zero, List.set_cons_succ]
  refine wpAnyH_ready (rs := [6]) (by kernel_rfl) (by simp) ?_
  refine AllReadyH.cons rfl (fun K hK => ?_) (AllReadyH.nil)
  go_simp
  refine (dec_int _ _ b0 (by omega)).mono ?_
  rintro e w2 ⟨rfl, hb2⟩
  go_wp2_with fail
  refine hK.out _ _ ?_ (fun hNew => ?_)
  · exact ⟨cell_later hb2 hHeld.1, cell_later hb2 hHeld.2.1, below_on hHeld.2.2 hb2 hHeld.2.2.size⟩
  clear hK K hHeld
  have hHeld := hNew
  clear hNew
  try simp only [Act.put, List.setIfInBounds_toArray, List.set_cons_zero, List.set_cons_succ]
  refine takeH (i := 7) (v := ?_) rfl rfl (by kernel_rfl) (by kernel_rfl) (by kernel_rfl) (fun _ _ _ h => h) (by rfl) ?_ (by assumption) ?_
  rotate_left 1
  · intro w hSw
    (try dsimp only at hSw)
    go_simp
    try with_reducible rfl
  try simp only [List.setIfInBounds_toArray, List.set_cons_zero, List.set_cons_succ]
  refine takeH (i := 8) (v := ?_) rfl rfl (by kernel_rfl) (by kernel_rfl) (by kernel_rfl) (fun _ _ _ h => h) (by rfl) ?_ (by assumption) ?_
  rotate_left 1
  · intro w hSw
    (try dsimp only at hSw)
    go_simp
    try with_reducible rfl
  try simp only [List.setIfInBounds_toArray, List.set_cons_zero, List.set_cons_succ]
  refine wpAnyH_done (by kernel_rfl) ?_ _
  go_wp2
  go_ret
  exact ⟨rfl, hHeld.2.2⟩

abbrev Pow (w : World) : Prop := Lib.TabIs Tryd.prog w "internal/strconv.uint64pow10" .u64 Lib.pow10Tab
theorem gPow : Tryd.prog.globalNamed "internal/strconv.uint64pow10" = some 1 := by kernel_rfl
theorem Pow.on {w w' : World} {B : Nat} (h : Pow w) (hb : Below B w w') (hB : w.heap.size ≤ B) : Pow w' := Joins.tab_stays gPow h hb hB
theorem itoa_int (z : Int) (w : World) (h0 : 0 ≤ z) (h : z < 1000) (ht : Pow w) :
    Calls Tryd.prog 76 #[.int .i64 z] w fun e w' => e = .returned (.string (dig z)) ∧ Below w.heap.size w w' := by
  refine (Tryd.strconv_Itoa z (by omega) (by omega) w ht).mono ?_
  rintro e w' ⟨rfl, k, os, rfl⟩
  refine ⟨?_, Lib.below_grow _ _ (Nat.le_refl _) _ _⟩
  obtain ⟨n, rfl⟩ := Int.eq_ofNat_of_zero_le h0
  rw [Lib.itoa_nonneg]; rfl

set_option maxRecDepth 4000 in
set_option maxHeartbeats 1000000 in
theorem itext_no (f b : Int) (w : World) (ho : okB f b = false) :
    Calls Tryd.prog 77 #[.agg #[.int .i64 f, .int .i64 b]] w fun e w' => e = .returned (.string ⟨#[]⟩) ∧ Below w.heap.size w w' := by
  go_enter Tryd.func77, Tryd.ntmps77
  go_wp2_with fail
  refine (iok_is ho _).mono ?_
  rintro e w1 ⟨rfl, hb1⟩
  go_wp2
  go_ret
  exact ⟨rfl, below_box hb1 (by simp)⟩

set_option maxRecDepth 4000 in
set_option maxHeartbeats 1000000 in
theorem itext_yes (f b : Int) (w : World) (ho : okB f b = true) (f0 : 0 ≤ f) (f1 : f ≤ 255) (b0 : 0 ≤ b) (b8 : b ≤ 8) (ht : Pow w) :
    Calls Tryd.prog 77 #[.agg #[.int .i64 f, .int .i64 b]] w fun e w' => e = .returned (.string (txt f b)) ∧ Below w.heap.size w w' := by
  obtain ⟨hl1, hl2⟩ := txt_fits f0 f1 b0 b8
  go_enter Tryd.func77, Tryd.ntmps77
  go_wp2_with fail
  refine (iok_is ho _).mono ?_
  rintro e w1 ⟨rfl, hb1⟩
  have c0 := cell_later (a := ⟨w.heap.size, 0, none⟩) (v := .int .i64 f) hb1 (by simp)
  have c1 := cell_later (a := ⟨w.heap.size, 1, none⟩) (v := .int .i64 b) hb1 (by simp)
  have hb0 : Below w.heap.size w w1 := below_box hb1 (by simp)
  clear hb1
  go_wp2_with fail
  refine wp_region_held_drew (S := fun w' => w'.cell? ⟨w.heap.size, 0, none⟩ = some (.int .i64 f) ∧ w'.cell? ⟨w.heap.size, 1, none⟩ = some (.int .i64 b) ∧ Below w.heap.size w w') (by kernel_rfl) ?_ (fun hHeld => ?_)
  · exact ⟨c0, c1, hb0.drew⟩
  refine takeH (i := 0) (v := ?_) rfl rfl (by kernel_rfl) (by kernel_rfl) (by kernel_rfl) (fun _ _ _ h => h) (by rfl) ?_ (by assumption) ?_
  rotate_left 1
  · intro w hSw
    (try dsimp only at hSw)
    go_simp
    try with_reducible rfl
  try simp only [List.setIfInBounds_toArray, List.set_cons_zero, List.set_cons_succ]
  refine takeH (i := 1) (v := ?_) rfl rfl (by kernel_rfl) (by kernel_rfl) (by kernel_rfl) (fun _ _ _ h => h) (by rfl) ?_ (by assumption) ?_
  rotate_left 1
  · intro w hSw
    (try dsimp only at hSw)
    go_simp
    try with_reducible rfl
  try simp only [List.setIfInBounds_toArray, List.set_cons_zero, List.set_cons_succ]
  refine takeH (i := 4) (v := ?_) rfl rfl (by kernel_rfl) (by kernel_rfl) (by kernel_rfl) (fun _ _ _ h => h) (by rfl) ?_ (by assumption) ?_
  rotate_left 1
  · intro w hSw
    (try dsimp only at hSw)
    go_simp
    try with_reducible rfl
  try simp only [List.setIfInBounds_toArray, List.set_cons_zero, List.set_cons_succ]
  refine takeH (i := 5) (v := ?_) rfl rfl (by kernel_rfl) (by kernel_rfl) (by kernel_rfl) (fun _ _ _ h => h) (by rfl) ?_ (by assumption) ?_
  rotate_left 1
  · intro w hSw
    (try dsimp only at hSw)
    go_simp
    try with_reducible rfl
  try simp only [List.setIfInBounds_toArray, List.set_cons_zero, List.set_cons_succ]
  refine wpAnyH_ready (rs := [2]) (by kernel_rfl) (by simp) ?_
  refine AllReadyH.cons rfl (fun K hK => ?_) (AllReadyH.nil)
  go_simp
  refine (itoa_int _ _ f0 (by omega) (ht.on hHeld.2.2 (Nat.le_refl _))).mono ?_
  rintro e w2 ⟨rfl, hb2⟩
  go_wp2_with fail
  refine hK.out _ _ ?_ (fun hNew => ?_)
  · exact ⟨cell_later hb2 hHeld.1, cell_later hb2 hHeld.2.1, below_on hHeld.2.2 hb2 hHeld.2.2.size⟩
  clear hK K hHeld
  have hHeld := hNew
  clear hNew
  try simp only [Act.put, List.setIfInBounds_toArray, List.set_cons_zero, List.set_cons_succ]
  refine takeH (i := 3) (v := ?_) rfl rfl (by kernel_rfl) (by kernel_rfl) (by kernel_rfl) (fun _ _ _ h => h) (by rfl) ?_ (by assumption) ?_
  rotate_left 1
  · intro w hSw
    (try dsimp only at hSw)
    go_simp
    try with_reducible rfl
  try simp only [List.setIfInBounds_toArray, List.set_cons_zero, List.set_cons_succ]
  refine wpAnyH_ready (rs := [6]) (by kernel_rfl) (by simp) ?_
  refine AllReadyH.cons rfl (fun K hK => ?_) (AllReadyH.nil)
  go_simp
  refine (itoa_int _ _ b0 (by omega) (ht.on hHeld.2.2 (Nat.le_refl _))).mono ?_
  rintro e w3 ⟨rfl, hb3⟩
  go_wp2_with fail
  refine hK.out _ _ ?_ (fun hNew => ?_)
  · exact ⟨cell_later hb3 hHeld.1, cell_later hb3 hHeld.2.1, below_on hHeld.2.2 hb3 hHeld.2.2.size⟩
  clear hK K hHeld
  have hHeld := hNew
  clear hNew
  try simp only [Act.put, List.setIfInBounds_toArray, List.set_cons_zero, List.set_cons_succ]
  refine takeH (i := 7) (v := ?_) rfl rfl (by kernel_rfl) (by kernel_rfl) (by kernel_rfl) (fun _ _ _ h => h) (by rfl) ?_ (by assumption) ?_
  rotate_left 1
  · intro w hSw
    (try dsimp only at hSw)
    go_simp
    try with_reducible rfl
  try simp only [List.setIfInBounds_toArray, List.set_cons_zero, List.set_cons_succ]
  refine takeH (i := 8) (v := ?_) rfl rfl (by kernel_rfl) (by kernel_rfl) (by kernel_rfl) (fun _ _ _ h => h) (by rfl) ?_ (by assumption) ?_
  rotate_left 1
  · intro w hSw
    (try dsimp only at hSw)
    go_simp
    try with_reducible rfl
  try simp only [List.setIfInBounds_toArray, List.set_cons_zero, List.set_cons_succ]
  refine wpAnyH_done (by kernel_rfl) ?_ _
  go_wp2
  go_ret
  exact ⟨rfl, hHeld.2.2⟩

/-- the text of a range; the empty one of an invalid range -/
def rtext (f b : Int) : ByteArray := if okB f b = true then txt f b else ⟨#[]⟩
theorem okB_in {f b : Int} (h : okB f b = true) : 0 ≤ f ∧ f ≤ 255 ∧ 0 ≤ b ∧ b ≤ 8 := by
  by_cases g : 0 ≤ f ∧ f ≤ 255 ∧ 0 ≤ b ∧ b ≤ 8
  · exact g
  · rw [okB_no (by omega)] at h; cases h

theorem itext_any (f b : Int) (w : World) (ht : Pow w) :
    Calls Tryd.prog 77 #[.agg #[.int .i64 f, .int .i64 b]] w fun e w' => e = .returned (.string (rtext f b)) ∧ Below w.heap.size w w' := by
  cases ho : okB f b with
  | false => rw [rtext, if_neg (by simp [ho])]; exact itext_no f b w ho
  | true =>
    obtain ⟨f0, f1, b0, b8⟩ := okB_in ho
    rw [rtext, if_pos ho]; exact itext_yes f b w ho f0 f1 b0 b8 ht

end Go.Proofs.YtfjfcdifnfffbaaDoor
