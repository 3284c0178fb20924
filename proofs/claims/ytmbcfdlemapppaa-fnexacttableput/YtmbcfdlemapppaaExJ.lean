/-
  The exact laws of TableOk, TableFind, TableSame: the walks.
-/
import Derived.Test.YtmbcfdlemapppaaExI
namespace Go.Proofs.Ytmbcfdlemapppaa
open Go.RowKit
set_option linter.unusedSimpArgs false

set_option maxHeartbeats 1000000 in
theorem exactTabOk_walk (a : Option Addr) (cap : Nat) (T : List E) (w : World) (hT : TabA w a T) (hn : T.length ≤ 9223372036854775807) :
    Calls Try.prog 3 #[.slice a T.length cap] w fun e w' => e = .returned (.bool true) ∧ Below w.heap.size w w' := by
  have HT := Lib.hid hT
  clear hT
  by_cases hl : T.length ≤ 1048576
  · go_enter Try.func3, Try.ntmps3
    go_wp2_with fail
    refine (sz1_is (szI_yes hl) _ _ _ hn).mono ?_
    rintro e w0 ⟨rfl, rfl⟩
    go_wp2_with fail
    refine (toS_any a cap T _ HT.out hl).mono ?_
    rintro e w1 ⟨v1, rfl, o1, b1⟩
    obtain ⟨a1, p1, rfl, t1, n1⟩ := Owns.tabN o1
    have HB := Lib.hid b1
    have H1 := Lib.hid t1
    clear o1 t1 n1 b1
    go_wp2_with fail
    refine (stok_any a1 p1 T _ H1.out (by omega)).mono ?_
    rintro e w2 ⟨rfl, b2⟩
    have HB2 := Lib.hid (next HB.out b2)
    clear HB H1 b2
    go_wp2_with fail
    refine (toS_any a cap T _ (HT.out.below HB2.out) hl).mono ?_
    rintro e w3 ⟨v3, rfl, o3, b3⟩
    obtain ⟨a3, p3, rfl, t3, n3⟩ := Owns.tabN o3
    have HB3 := Lib.hid (next HB2.out b3)
    have H3 := Lib.hid t3
    clear o3 t3 n3 b3 HB2
    go_wp2_with fail
    refine (tok_any a3 p3 T _ H3.out (by omega)).mono ?_
    rintro e w4 ⟨rfl, b4⟩
    have HB4 := Lib.hid (next HB3.out b4)
    have H4 := Lib.hid (H3.out.below b4)
    clear b4 HB3 H3
    go_wp2_with fail
    refine (toS_any a cap T _ (HT.out.below HB4.out) hl).mono ?_
    rintro e w5 ⟨v5, rfl, o5, b5⟩
    obtain ⟨a5, p5, rfl, t5, n5⟩ := Owns.tabN o5
    have HB5 := Lib.hid (next HB4.out b5)
    have H5 := Lib.hid (And.intro (H4.out.below b5) t5)
    clear o5 t5 n5 b5 HB4 H4
    go_wp2_with fail
    refine (eqS_same a3 a5 p3 p5 T _ H5.out.1 H5.out.2 (by omega)).mono ?_
    rintro e w6 ⟨rfl, b6⟩
    have HB6 := Lib.hid (next HB5.out b6)
    clear b6 HB5 H5
    go_wp2_with fail
    go_ret
    exact ⟨rfl, HB6.out⟩
  · go_enter Try.func3, Try.ntmps3
    go_wp2_with fail
    refine (sz1_is (szI_no hl) _ _ _ hn).mono ?_
    rintro e w0 ⟨rfl, rfl⟩
    go_wp2_with fail
    go_ret
    exact ⟨rfl, Below.refl _ _⟩

set_option maxHeartbeats 1000000 in
theorem exactTabFind_walk (a : Option Addr) (cap : Nat) (T : List E) (x : Int) (w : World) (hT : TabA w a T) (hn : T.length ≤ 9223372036854775807) :
    Calls Try.prog 6 #[.slice a T.length cap, .int .i64 x] w fun e w' => e = .returned (.bool true) ∧ Below w.heap.size w w' := by
  have HT := Lib.hid hT
  clear hT
  by_cases hl : T.length ≤ 1048576
  · go_enter Try.func6, Try.ntmps6
    go_wp2_with fail
    refine (sz1_is (szI_yes hl) _ _ _ hn).mono ?_
    rintro e w0 ⟨rfl, rfl⟩
    go_wp2_with fail
    refine (toS_any a cap T _ HT.out hl).mono ?_
    rintro e w1 ⟨v1, rfl, o1, b1⟩
    obtain ⟨a1, p1, rfl, t1, n1⟩ := Owns.tabN o1
    have HB := Lib.hid b1
    have H1 := Lib.hid t1
    clear o1 t1 n1 b1
    go_wp2_with fail
    refine (sfind_any a1 p1 T x _ H1.out (by omega)).mono ?_
    rintro e w2 ⟨rfl, b2⟩
    have HB2 := Lib.hid (next HB.out b2)
    clear HB H1 b2
    go_wp2_with fail
    refine (toS_any a cap T _ (HT.out.below HB2.out) hl).mono ?_
    rintro e w3 ⟨v3, rfl, o3, b3⟩
    obtain ⟨a3, p3, rfl, t3, n3⟩ := Owns.tabN o3
    have HB3 := Lib.hid (next HB2.out b3)
    have H3 := Lib.hid t3
    clear o3 t3 n3 b3 HB2
    go_wp2_with fail
    refine (tfind_any a3 p3 T x _ H3.out (by omega)).mono ?_
    rintro e w4 ⟨rfl, b4⟩
    have HB4 := Lib.hid (next HB3.out b4)
    have H4 := Lib.hid (H3.out.below b4)
    clear b4 HB3 H3
    go_wp2_with fail
    refine (toS_any a cap T _ (HT.out.below HB4.out) hl).mono ?_
    rintro e w5 ⟨v5, rfl, o5, b5⟩
    obtain ⟨a5, p5, rfl, t5, n5⟩ := Owns.tabN o5
    have HB5 := Lib.hid (next HB4.out b5)
    have H5 := Lib.hid (And.intro (H4.out.below b5) t5)
    clear o5 t5 n5 b5 HB4 H4
    go_wp2_with fail
    refine (eqS_same a3 a5 p3 p5 T _ H5.out.1 H5.out.2 (by omega)).mono ?_
    rintro e w6 ⟨rfl, b6⟩
    have HB6 := Lib.hid (next HB5.out b6)
    clear b6 HB5 H5
    go_wp2_with fail
    go_ret
    exact ⟨rfl, HB6.out⟩
  · go_enter Try.func6, Try.ntmps6
    go_wp2_with fail
    refine (sz1_is (szI_no hl) _ _ _ hn).mono ?_
    rintro e w0 ⟨rfl, rfl⟩
    go_wp2_with fail
    go_ret
    exact ⟨rfl, Below.refl _ _⟩

set_option maxHeartbeats 1000000 in
theorem exactTabSame_walk (a b : Option Addr) (cap cap' : Nat) (A B : List E) (w : World) (hA : TabA w a A) (hB : TabA w b B) (hn : A.length ≤ 9223372036854775807) (hm : B.length ≤ 9223372036854775807) :
    Calls Try.prog 7 #[.slice a A.length cap, .slice b B.length cap'] w fun e w' => e = .returned (.bool true) ∧ Below w.heap.size w w' := by
  have HA := Lib.hid hA
  have HB := Lib.hid hB
  clear hA hB
  by_cases hl : A.length ≤ 1048576
  · by_cases hk : B.length ≤ 1048576 - A.length
    · go_enter Try.func7, Try.ntmps7
      go_wp2_with fail
      refine (sz1_is (szI_yes hl) _ _ _ hn).mono ?_
      rintro e w0 ⟨rfl, rfl⟩
      generalize hd : 1048576 - A.length = d at *
      go_wp2_with fail
      refine (sz_is (szI_yes hk) _ _ _ (by omega) hm).mono ?_
      rintro e w0 ⟨rfl, rfl⟩
      go_wp2_with fail
      refine (toS_any a cap A _ HA.out hl).mono ?_
      rintro e w1 ⟨v1, rfl, o1, b1⟩
      obtain ⟨a1, p1, rfl, t1, n1⟩ := Owns.tabN o1
      have B1 := Lib.hid b1
      have H1 := Lib.hid t1
      clear o1 t1 n1 b1
      go_wp2_with fail
      refine (toS_any b cap' B _ (HB.out.below B1.out) (by omega)).mono ?_
      rintro e w2 ⟨v2, rfl, o2, b2⟩
      obtain ⟨a2, p2, rfl, t2, n2⟩ := Owns.tabN o2
      have B2 := Lib.hid (next B1.out b2)
      have H2 := Lib.hid (And.intro (H1.out.below b2) t2)
      clear o2 t2 n2 b2 B1 H1
      go_wp2_with fail
      refine (ssame_any a1 a2 p1 p2 A B _ H2.out.1 H2.out.2 (by omega) (by omega)).mono ?_
      rintro e w3 ⟨rfl, b3⟩
      have B3 := Lib.hid (next B2.out b3)
      clear B2 H2 b3
      go_wp2_with fail
      refine (toS_any a cap A _ (HA.out.below B3.out) hl).mono ?_
      rintro e w4 ⟨v4, rfl, o4, b4⟩
      obtain ⟨a4, p4, rfl, t4, n4⟩ := Owns.tabN o4
      have B4 := Lib.hid (next B3.out b4)
      have H4 := Lib.hid t4
      clear o4 t4 n4 b4 B3
      go_wp2_with fail
      refine (toS_any b cap' B _ (HB.out.below B4.out) (by omega)).mono ?_
      rintro e w5 ⟨v5, rfl, o5, b5⟩
      obtain ⟨a5, p5, rfl, t5, n5⟩ := Owns.tabN o5
      have B5 := Lib.hid (next B4.out b5)
      have H5 := Lib.hid (And.intro (H4.out.below b5) t5)
      clear o5 t5 n5 b5 B4 H4
      go_wp2_with fail
      refine (tsame_any a4 a5 p4 p5 A B _ H5.out.1 H5.out.2 (by omega) (by omega)).mono ?_
      rintro e w6 ⟨rfl, b6⟩
      have B6 := Lib.hid (next B5.out b6)
      have H6 := Lib.hid (And.intro (H5.out.1.below b6) (H5.out.2.below b6))
      clear B5 H5 b6
      go_wp2_with fail
      refine (toS_any a cap A _ (HA.out.below B6.out) hl).mono ?_
      rintro e w7 ⟨v7, rfl, o7, b7⟩
      obtain ⟨a7, p7, rfl, t7, n7⟩ := Owns.tabN o7
      have B7 := Lib.hid (next B6.out b7)
      have H7 := Lib.hid (And.intro (H6.out.1.below b7) (And.intro (H6.out.2.below b7) t7))
      clear o7 t7 n7 b7 B6 H6
      go_wp2_with fail
      refine (eqS_same a4 a7 p4 p7 A _ H7.out.1 H7.out.2.2 (by omega)).mono ?_
      rintro e w8 ⟨rfl, b8⟩
      have B8 := Lib.hid (next B7.out b8)
      have H8 := Lib.hid (H7.out.2.1.below b8)
      clear b8 B7 H7
      go_wp2_with fail
      refine (toS_any b cap' B _ (HB.out.below B8.out) (by omega)).mono ?_
      rintro e w9 ⟨v9, rfl, o9, b9⟩
      obtain ⟨a9, p9, rfl, t9, n9⟩ := Owns.tabN o9
      have B9 := Lib.hid (next B8.out b9)
      have H9 := Lib.hid (And.intro (H8.out.below b9) t9)
      clear o9 t9 n9 b9 B8 H8
      go_wp2_with fail
      refine (eqS_same a5 a9 p5 p9 B _ H9.out.1 H9.out.2 (by omega)).mono ?_
      rintro e w10 ⟨rfl, b10⟩
      have B10 := Lib.hid (next B9.out b10)
      clear b10 B9 H9
      go_wp2_with fail
      go_ret
      exact ⟨rfl, B10.out⟩
    · go_enter Try.func7, Try.ntmps7
      go_wp2_with fail
      refine (sz1_is (szI_yes hl) _ _ _ hn).mono ?_
      rintro e w0 ⟨rfl, rfl⟩
      generalize hd : 1048576 - A.length = d at *
      go_wp2_with fail
      refine (sz_is (szI_no hk) _ _ _ (by omega) hm).mono ?_
      rintro e w0 ⟨rfl, rfl⟩
      go_wp2_with fail
      go_ret
      exact ⟨rfl, Below.refl _ _⟩
  · go_enter Try.func7, Try.ntmps7
    go_wp2_with fail
    refine (sz1_is (szI_no hl) _ _ _ hn).mono ?_
    rintro e w0 ⟨rfl, rfl⟩
    go_wp2_with fail
    go_ret
    exact ⟨rfl, Below.refl _ _⟩

end Go.Proofs.Ytmbcfdlemapppaa
