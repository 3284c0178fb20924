/-
  NARROWER THAN 'FOR EVERY INPUT', by the rows' own cells (each row's printed sentence says how): FnExactPathOk: ifaces, laid · FnExactPathHas: ifaces, laid · FnExactPathAdd: ifaces, laid · FnExactPathText: ifaces, laid · FnExactPathRead: ifaces, laid · FnExactPathCmp: ifaces, laid · FnPathBack: ifaces, laid · FnPathStrict: ifaces, laid · FnPathAdd: ifaces, laid · FnPathHas: ifaces, laid · FnPathCmp: ifaces, laid · FnPathThree: ifaces, laid · FnPathForm: ifaces, laid · FnPathRest: ifaces, laid · FnPathTexts: ifaces, laid.
  DERIVED. THE GIVEN ROWS OF THIS SEAT. 15 by the template 'for every input the law returns true; each argument reads behind the call as it read before'; 0 by the template 'total and deterministic' (their statements: YtnabcffpficgcaaDoorTotals.lean).
  GIVEN WITH THE SEED: the statements are not yours to turn. If you find one false, say at which input.
  Laid BY PROGRAM, IN A SANDBOX (cutbox-rows.mjs): the forced cells as the released guide's own fill.sh prints them over the translation e58282754546732f… (all of the seat's roots in one cut). By AI agents, Wed Nov 11 2026. No macro, syntax, notation, axiom, sorry.
-/
import Derived.Test.YtnabcffpficgcaaDoorChecked
import GoSem.PinnedTables
import GoSem.Claim
import GoSem.ClaimJoined
import GoSem.ClaimMapViews
import Derived.JoinedTies
import Derived.KernelRfl
namespace Go.Proofs.YtnabcffpficgcaaDoor
/- THE CELL 'sum', in the pinned program and in every row, IS THE sha256 OF THE DUMP (.gsa) THAT YtnabcffpficgcaaDoorProg.lean LOADS. Nothing in Lean hashes anything: it is a label: what it is worth is what the hold of that sum in a sandbox is worth. -/
noncomputable def Tryd.pinned : Pinned := { name := "ytnabcffpficgcaadoor", sum := "e58282754546732f1bea7b528fc0414cd71ffb25900d93d26d05b58f6f36f0d7", checked := Tryd.checked }
namespace Rows
def none {H : Type} : Left H := { results := [], args := [] }

/- WHAT THE LISTED PACKAGE-LEVEL VARIABLES READ AS WHEN THE CALL BEGINS. Each datum BY PROGRAM (the guide's laid-datum.mjs) off the statement by which the dump's own 'gosem.cut.vars' lays the variable. In a bare row this is a premise. The card (YtnabcffpficgcaaDoorCards.lean) ties it to the program's text. -/
def laid_loop_example_wayboard_impl_errNoPath {H : Type} : DataW H := .iface "*errors.errorString" (.ptr (.agg [.lit (.string [97, 32, 112, 97, 116, 104, 32, 104, 97, 115, 32, 101, 97, 99, 104, 32, 104, 111, 117, 115, 101, 32, 97, 116, 32, 109, 111, 115, 116, 32, 111, 110, 99, 101, 44, 32, 97, 110, 100, 32, 110, 111, 116, 104, 105, 110, 103, 32, 101, 108, 115, 101])]))
def laid_math_bits_deBruijn32tab {H : Type} : DataW H := .agg [.lit (.int .u8 0), .lit (.int .u8 1), .lit (.int .u8 28), .lit (.int .u8 2), .lit (.int .u8 29), .lit (.int .u8 14), .lit (.int .u8 24), .lit (.int .u8 3), .lit (.int .u8 30), .lit (.int .u8 22), .lit (.int .u8 20), .lit (.int .u8 15), .lit (.int .u8 25), .lit (.int .u8 17), .lit (.int .u8 4), .lit (.int .u8 8), .lit (.int .u8 31), .lit (.int .u8 27), .lit (.int .u8 13), .lit (.int .u8 23), .lit (.int .u8 21), .lit (.int .u8 19), .lit (.int .u8 16), .lit (.int .u8 7), .lit (.int .u8 26), .lit (.int .u8 12), .lit (.int .u8 18), .lit (.int .u8 6), .lit (.int .u8 11), .lit (.int .u8 5), .lit (.int .u8 10), .lit (.int .u8 9)]
def laid_math_bits_deBruijn64tab {H : Type} : DataW H := .agg [.lit (.int .u8 0), .lit (.int .u8 1), .lit (.int .u8 56), .lit (.int .u8 2), .lit (.int .u8 57), .lit (.int .u8 49), .lit (.int .u8 28), .lit (.int .u8 3), .lit (.int .u8 61), .lit (.int .u8 58), .lit (.int .u8 42), .lit (.int .u8 50), .lit (.int .u8 38), .lit (.int .u8 29), .lit (.int .u8 17), .lit (.int .u8 4), .lit (.int .u8 62), .lit (.int .u8 47), .lit (.int .u8 59), .lit (.int .u8 36), .lit (.int .u8 45), .lit (.int .u8 43), .lit (.int .u8 51), .lit (.int .u8 22), .lit (.int .u8 53), .lit (.int .u8 39), .lit (.int .u8 33), .lit (.int .u8 30), .lit (.int .u8 24), .lit (.int .u8 18), .lit (.int .u8 12), .lit (.int .u8 5), .lit (.int .u8 63), .lit (.int .u8 55), .lit (.int .u8 48), .lit (.int .u8 27), .lit (.int .u8 60), .lit (.int .u8 41), .lit (.int .u8 37), .lit (.int .u8 16), .lit (.int .u8 46), .lit (.int .u8 35), .lit (.int .u8 44), .lit (.int .u8 21), .lit (.int .u8 52), .lit (.int .u8 32), .lit (.int .u8 23), .lit (.int .u8 11), .lit (.int .u8 54), .lit (.int .u8 26), .lit (.int .u8 40), .lit (.int .u8 15), .lit (.int .u8 34), .lit (.int .u8 20), .lit (.int .u8 31), .lit (.int .u8 10), .lit (.int .u8 25), .lit (.int .u8 14), .lit (.int .u8 19), .lit (.int .u8 9), .lit (.int .u8 13), .lit (.int .u8 8), .lit (.int .u8 7), .lit (.int .u8 6)]
def laid_internal_strconv_uint64pow10 {H : Type} : DataW H := .agg [.lit (.int .u64 1), .lit (.int .u64 10), .lit (.int .u64 100), .lit (.int .u64 1000), .lit (.int .u64 10000), .lit (.int .u64 100000), .lit (.int .u64 1000000), .lit (.int .u64 10000000), .lit (.int .u64 100000000), .lit (.int .u64 1000000000), .lit (.int .u64 10000000000), .lit (.int .u64 100000000000), .lit (.int .u64 1000000000000), .lit (.int .u64 10000000000000), .lit (.int .u64 100000000000000), .lit (.int .u64 1000000000000000), .lit (.int .u64 10000000000000000), .lit (.int .u64 100000000000000000), .lit (.int .u64 1000000000000000000), .lit (.int .u64 10000000000000000000)]
def laid_unicode_utf8_acceptRanges {H : Type} : DataW H := .agg [.agg [.lit (.int .u8 128), .lit (.int .u8 191)], .agg [.lit (.int .u8 160), .lit (.int .u8 191)], .agg [.lit (.int .u8 128), .lit (.int .u8 159)], .agg [.lit (.int .u8 144), .lit (.int .u8 191)], .agg [.lit (.int .u8 128), .lit (.int .u8 143)], .agg [.lit (.int .u8 0), .lit (.int .u8 0)], .agg [.lit (.int .u8 0), .lit (.int .u8 0)], .agg [.lit (.int .u8 0), .lit (.int .u8 0)], .agg [.lit (.int .u8 0), .lit (.int .u8 0)], .agg [.lit (.int .u8 0), .lit (.int .u8 0)], .agg [.lit (.int .u8 0), .lit (.int .u8 0)], .agg [.lit (.int .u8 0), .lit (.int .u8 0)], .agg [.lit (.int .u8 0), .lit (.int .u8 0)], .agg [.lit (.int .u8 0), .lit (.int .u8 0)], .agg [.lit (.int .u8 0), .lit (.int .u8 0)], .agg [.lit (.int .u8 0), .lit (.int .u8 0)]]
def laid_strconv_ErrRange {H : Type} : DataW H := .iface "*errors.errorString" (.ptr (.agg [.lit (.string [118, 97, 108, 117, 101, 32, 111, 117, 116, 32, 111, 102, 32, 114, 97, 110, 103, 101])]))
def laid_strconv_ErrSyntax {H : Type} : DataW H := .iface "*errors.errorString" (.ptr (.agg [.lit (.string [105, 110, 118, 97, 108, 105, 100, 32, 115, 121, 110, 116, 97, 120])]))
/-- One of Go's own tables, pinned by name: the form's constant. -/
def laid_unicode_utf8_first : DataW Unit := Go.Pinned.utf8First

/-- 'laws.FnExactPathOk': WHATEVER THE INPUT: true; the input reads as it did. -/
def fnExactPathOkSpec : ChangeSpec := { name := "fnExactPathOk", vars := ["loop.example/wayboard/impl.errNoPath"], fn := fun _ => fun
  | [d, g1] => { results := [.lit (.bool true)], args := [d], vars := [g1] }
  | _ => none }
def fnExactPathOkRow : OpenClaim := { program := "ytnabcffpficgcaadoor", sum := "e58282754546732f1bea7b528fc0414cd71ffb25900d93d26d05b58f6f36f0d7", func := "loop.example/wayboard/laws.FnExactPathOk", spec := "fnExactPathOk", inPlace := ["internal/reflectlite.TypeOf"], unfollowed := true, recurses := true, named := ["loop.example/wayboard/impl.errNoPath"], ifaces := true, apart := false, laid := [("loop.example/wayboard/impl.errNoPath", laid_loop_example_wayboard_impl_errNoPath)] }
def FnExactPathOkSaid : Prop := fnExactPathOkRow.holds Tryd.pinned (OpenSpec.ofChange fnExactPathOkSpec)

/-- ITS FALSE NEIGHBOUR: 'it returns false'. Refute it at one input. -/
def fnExactPathOkWrong : ChangeSpec := { name := "fnExactPathOk", vars := ["loop.example/wayboard/impl.errNoPath"], fn := fun _ => fun
  | [d, g1] => { results := [.lit (.bool false)], args := [d], vars := [g1] }
  | _ => none }
def FnExactPathOkWrongFalsely : Prop := fnExactPathOkRow.holds Tryd.pinned (OpenSpec.ofChange fnExactPathOkWrong)

/-- 'laws.FnExactPathHas': WHATEVER THE INPUT: true; the input reads as it did. -/
def fnExactPathHasSpec : ChangeSpec := { name := "fnExactPathHas", vars := ["loop.example/wayboard/impl.errNoPath"], fn := fun _ => fun
  | [d1, d2, g1] => { results := [.lit (.bool true)], args := [d1, d2], vars := [g1] }
  | _ => none }
def fnExactPathHasRow : OpenClaim := { program := "ytnabcffpficgcaadoor", sum := "e58282754546732f1bea7b528fc0414cd71ffb25900d93d26d05b58f6f36f0d7", func := "loop.example/wayboard/laws.FnExactPathHas", spec := "fnExactPathHas", inPlace := ["internal/reflectlite.TypeOf"], unfollowed := true, recurses := true, named := ["loop.example/wayboard/impl.errNoPath"], ifaces := true, apart := false, laid := [("loop.example/wayboard/impl.errNoPath", laid_loop_example_wayboard_impl_errNoPath)] }
def FnExactPathHasSaid : Prop := fnExactPathHasRow.holds Tryd.pinned (OpenSpec.ofChange fnExactPathHasSpec)

/-- ITS FALSE NEIGHBOUR: 'it returns false'. Refute it at one input. -/
def fnExactPathHasWrong : ChangeSpec := { name := "fnExactPathHas", vars := ["loop.example/wayboard/impl.errNoPath"], fn := fun _ => fun
  | [d1, d2, g1] => { results := [.lit (.bool false)], args := [d1, d2], vars := [g1] }
  | _ => none }
def FnExactPathHasWrongFalsely : Prop := fnExactPathHasRow.holds Tryd.pinned (OpenSpec.ofChange fnExactPathHasWrong)

/-- 'laws.FnExactPathAdd': WHATEVER THE INPUT: true; the input reads as it did. -/
def fnExactPathAddSpec : ChangeSpec := { name := "fnExactPathAdd", vars := ["loop.example/wayboard/impl.errNoPath"], fn := fun _ => fun
  | [d1, d2, g1] => { results := [.lit (.bool true)], args := [d1, d2], vars := [g1] }
  | _ => none }
def fnExactPathAddRow : OpenClaim := { program := "ytnabcffpficgcaadoor", sum := "e58282754546732f1bea7b528fc0414cd71ffb25900d93d26d05b58f6f36f0d7", func := "loop.example/wayboard/laws.FnExactPathAdd", spec := "fnExactPathAdd", inPlace := ["internal/reflectlite.TypeOf"], unfollowed := true, recurses := true, named := ["loop.example/wayboard/impl.errNoPath"], ifaces := true, apart := false, laid := [("loop.example/wayboard/impl.errNoPath", laid_loop_example_wayboard_impl_errNoPath)] }
def FnExactPathAddSaid : Prop := fnExactPathAddRow.holds Tryd.pinned (OpenSpec.ofChange fnExactPathAddSpec)

/-- ITS FALSE NEIGHBOUR: 'it returns false'. Refute it at one input. -/
def fnExactPathAddWrong : ChangeSpec := { name := "fnExactPathAdd", vars := ["loop.example/wayboard/impl.errNoPath"], fn := fun _ => fun
  | [d1, d2, g1] => { results := [.lit (.bool false)], args := [d1, d2], vars := [g1] }
  | _ => none }
def FnExactPathAddWrongFalsely : Prop := fnExactPathAddRow.holds Tryd.pinned (OpenSpec.ofChange fnExactPathAddWrong)

/-- 'laws.FnExactPathText': WHATEVER THE INPUT: true; the input reads as it did. -/
def fnExactPathTextSpec : ChangeSpec := { name := "fnExactPathText", vars := ["loop.example/wayboard/impl.errNoPath"], fn := fun _ => fun
  | [d, g1] => { results := [.lit (.bool true)], args := [d], vars := [g1] }
  | _ => none }
def fnExactPathTextRow : OpenClaim := { program := "ytnabcffpficgcaadoor", sum := "e58282754546732f1bea7b528fc0414cd71ffb25900d93d26d05b58f6f36f0d7", func := "loop.example/wayboard/laws.FnExactPathText", spec := "fnExactPathText", inPlace := ["internal/reflectlite.TypeOf", "internal/abi.NoEscape", "internal/bytealg.MakeNoZero"], unfollowed := true, recurses := true, named := ["loop.example/wayboard/impl.errNoPath", "internal/strconv.uint64pow10", "math/bits.deBruijn32tab", "math/bits.deBruijn64tab"], ifaces := true, apart := false, laid := [("math/bits.deBruijn32tab", laid_math_bits_deBruijn32tab), ("math/bits.deBruijn64tab", laid_math_bits_deBruijn64tab), ("internal/strconv.uint64pow10", laid_internal_strconv_uint64pow10), ("loop.example/wayboard/impl.errNoPath", laid_loop_example_wayboard_impl_errNoPath)] }
def FnExactPathTextSaid : Prop := fnExactPathTextRow.holds Tryd.pinned (OpenSpec.ofChange fnExactPathTextSpec)

/-- ITS FALSE NEIGHBOUR: 'it returns false'. Refute it at one input. -/
def fnExactPathTextWrong : ChangeSpec := { name := "fnExactPathText", vars := ["loop.example/wayboard/impl.errNoPath"], fn := fun _ => fun
  | [d, g1] => { results := [.lit (.bool false)], args := [d], vars := [g1] }
  | _ => none }
def FnExactPathTextWrongFalsely : Prop := fnExactPathTextRow.holds Tryd.pinned (OpenSpec.ofChange fnExactPathTextWrong)

/-- 'laws.FnExactPathRead': WHATEVER THE INPUT: true; the input reads as it did. -/
def fnExactPathReadSpec : ChangeSpec := { name := "fnExactPathRead", vars := ["loop.example/wayboard/impl.errNoPath"], fn := fun _ => fun
  | [d, g1] => { results := [.lit (.bool true)], args := [d], vars := [g1] }
  | _ => none }
def fnExactPathReadRow : OpenClaim := { program := "ytnabcffpficgcaadoor", sum := "e58282754546732f1bea7b528fc0414cd71ffb25900d93d26d05b58f6f36f0d7", func := "loop.example/wayboard/laws.FnExactPathRead", spec := "fnExactPathRead", inPlace := ["internal/bytealg.CountString", "internal/bytealg.IndexByteString", "internal/bytealg.IndexString", "internal/abi.NoEscape", "internal/bytealg.MakeNoZero", "internal/reflectlite.TypeOf"], unfollowed := true, recurses := true, named := ["loop.example/wayboard/impl.errNoPath", "unicode/utf8.first", "unicode/utf8.acceptRanges", "internal/bytealg.MaxLen", "strconv.ErrSyntax", "strconv.ErrRange", "internal/strconv.uint64pow10", "math/bits.deBruijn32tab", "math/bits.deBruijn64tab"], ifaces := true, apart := false, laid := [("math/bits.deBruijn32tab", laid_math_bits_deBruijn32tab), ("math/bits.deBruijn64tab", laid_math_bits_deBruijn64tab), ("internal/strconv.uint64pow10", laid_internal_strconv_uint64pow10), ("unicode/utf8.acceptRanges", laid_unicode_utf8_acceptRanges), ("strconv.ErrRange", laid_strconv_ErrRange), ("strconv.ErrSyntax", laid_strconv_ErrSyntax), ("loop.example/wayboard/impl.errNoPath", laid_loop_example_wayboard_impl_errNoPath), ("unicode/utf8.first", laid_unicode_utf8_first)] }
def FnExactPathReadSaid : Prop := fnExactPathReadRow.holds Tryd.pinned (OpenSpec.ofChange fnExactPathReadSpec)

/-- ITS FALSE NEIGHBOUR: 'it returns false'. Refute it at one input. -/
def fnExactPathReadWrong : ChangeSpec := { name := "fnExactPathRead", vars := ["loop.example/wayboard/impl.errNoPath"], fn := fun _ => fun
  | [d, g1] => { results := [.lit (.bool false)], args := [d], vars := [g1] }
  | _ => none }
def FnExactPathReadWrongFalsely : Prop := fnExactPathReadRow.holds Tryd.pinned (OpenSpec.ofChange fnExactPathReadWrong)

/-- 'laws.FnExactPathCmp': WHATEVER THE INPUT: true; the input reads as it did. -/
def fnExactPathCmpSpec : ChangeSpec := { name := "fnExactPathCmp", vars := ["loop.example/wayboard/impl.errNoPath"], fn := fun _ => fun
  | [d1, d2, g1] => { results := [.lit (.bool true)], args := [d1, d2], vars := [g1] }
  | _ => none }
def fnExactPathCmpRow : OpenClaim := { program := "ytnabcffpficgcaadoor", sum := "e58282754546732f1bea7b528fc0414cd71ffb25900d93d26d05b58f6f36f0d7", func := "loop.example/wayboard/laws.FnExactPathCmp", spec := "fnExactPathCmp", inPlace := ["internal/reflectlite.TypeOf"], unfollowed := true, recurses := true, named := ["loop.example/wayboard/impl.errNoPath"], ifaces := true, apart := false, laid := [("loop.example/wayboard/impl.errNoPath", laid_loop_example_wayboard_impl_errNoPath)] }
def FnExactPathCmpSaid : Prop := fnExactPathCmpRow.holds Tryd.pinned (OpenSpec.ofChange fnExactPathCmpSpec)

/-- ITS FALSE NEIGHBOUR: 'it returns false'. Refute it at one input. -/
def fnExactPathCmpWrong : ChangeSpec := { name := "fnExactPathCmp", vars := ["loop.example/wayboard/impl.errNoPath"], fn := fun _ => fun
  | [d1, d2, g1] => { results := [.lit (.bool false)], args := [d1, d2], vars := [g1] }
  | _ => none }
def FnExactPathCmpWrongFalsely : Prop := fnExactPathCmpRow.holds Tryd.pinned (OpenSpec.ofChange fnExactPathCmpWrong)

/-- 'laws.FnPathBack': WHATEVER THE INPUT: true; the input reads as it did. -/
def fnPathBackSpec : ChangeSpec := { name := "fnPathBack", vars := ["loop.example/wayboard/impl.errNoPath"], fn := fun _ => fun
  | [d, g1] => { results := [.lit (.bool true)], args := [d], vars := [g1] }
  | _ => none }
def fnPathBackRow : OpenClaim := { program := "ytnabcffpficgcaadoor", sum := "e58282754546732f1bea7b528fc0414cd71ffb25900d93d26d05b58f6f36f0d7", func := "loop.example/wayboard/laws.FnPathBack", spec := "fnPathBack", inPlace := ["internal/reflectlite.TypeOf", "internal/abi.NoEscape", "internal/bytealg.MakeNoZero", "internal/bytealg.CountString", "internal/bytealg.IndexByteString", "internal/bytealg.IndexString"], unfollowed := true, recurses := true, named := ["loop.example/wayboard/impl.errNoPath", "internal/strconv.uint64pow10", "math/bits.deBruijn32tab", "math/bits.deBruijn64tab", "unicode/utf8.first", "unicode/utf8.acceptRanges", "internal/bytealg.MaxLen", "strconv.ErrSyntax", "strconv.ErrRange"], ifaces := true, apart := false, laid := [("math/bits.deBruijn32tab", laid_math_bits_deBruijn32tab), ("math/bits.deBruijn64tab", laid_math_bits_deBruijn64tab), ("internal/strconv.uint64pow10", laid_internal_strconv_uint64pow10), ("unicode/utf8.acceptRanges", laid_unicode_utf8_acceptRanges), ("strconv.ErrRange", laid_strconv_ErrRange), ("strconv.ErrSyntax", laid_strconv_ErrSyntax), ("loop.example/wayboard/impl.errNoPath", laid_loop_example_wayboard_impl_errNoPath), ("unicode/utf8.first", laid_unicode_utf8_first)] }
def FnPathBackSaid : Prop := fnPathBackRow.holds Tryd.pinned (OpenSpec.ofChange fnPathBackSpec)

/-- ITS FALSE NEIGHBOUR: 'it returns false'. Refute it at one input. -/
def fnPathBackWrong : ChangeSpec := { name := "fnPathBack", vars := ["loop.example/wayboard/impl.errNoPath"], fn := fun _ => fun
  | [d, g1] => { results := [.lit (.bool false)], args := [d], vars := [g1] }
  | _ => none }
def FnPathBackWrongFalsely : Prop := fnPathBackRow.holds Tryd.pinned (OpenSpec.ofChange fnPathBackWrong)

/-- 'laws.FnPathStrict': WHATEVER THE INPUT: true; the input reads as it did. -/
def fnPathStrictSpec : ChangeSpec := { name := "fnPathStrict", vars := ["loop.example/wayboard/impl.errNoPath"], fn := fun _ => fun
  | [d, g1] => { results := [.lit (.bool true)], args := [d], vars := [g1] }
  | _ => none }
def fnPathStrictRow : OpenClaim := { program := "ytnabcffpficgcaadoor", sum := "e58282754546732f1bea7b528fc0414cd71ffb25900d93d26d05b58f6f36f0d7", func := "loop.example/wayboard/laws.FnPathStrict", spec := "fnPathStrict", inPlace := ["internal/bytealg.CountString", "internal/bytealg.IndexByteString", "internal/bytealg.IndexString", "internal/abi.NoEscape", "internal/bytealg.MakeNoZero", "internal/reflectlite.TypeOf"], unfollowed := true, recurses := true, named := ["loop.example/wayboard/impl.errNoPath", "unicode/utf8.first", "unicode/utf8.acceptRanges", "internal/bytealg.MaxLen", "strconv.ErrSyntax", "strconv.ErrRange", "internal/strconv.uint64pow10", "math/bits.deBruijn32tab", "math/bits.deBruijn64tab"], ifaces := true, apart := false, laid := [("math/bits.deBruijn32tab", laid_math_bits_deBruijn32tab), ("math/bits.deBruijn64tab", laid_math_bits_deBruijn64tab), ("internal/strconv.uint64pow10", laid_internal_strconv_uint64pow10), ("unicode/utf8.acceptRanges", laid_unicode_utf8_acceptRanges), ("strconv.ErrRange", laid_strconv_ErrRange), ("strconv.ErrSyntax", laid_strconv_ErrSyntax), ("loop.example/wayboard/impl.errNoPath", laid_loop_example_wayboard_impl_errNoPath), ("unicode/utf8.first", laid_unicode_utf8_first)] }
def FnPathStrictSaid : Prop := fnPathStrictRow.holds Tryd.pinned (OpenSpec.ofChange fnPathStrictSpec)

/-- ITS FALSE NEIGHBOUR: 'it returns false'. Refute it at one input. -/
def fnPathStrictWrong : ChangeSpec := { name := "fnPathStrict", vars := ["loop.example/wayboard/impl.errNoPath"], fn := fun _ => fun
  | [d, g1] => { results := [.lit (.bool false)], args := [d], vars := [g1] }
  | _ => none }
def FnPathStrictWrongFalsely : Prop := fnPathStrictRow.holds Tryd.pinned (OpenSpec.ofChange fnPathStrictWrong)

/-- 'laws.FnPathAdd': WHATEVER THE INPUT: true; the input reads as it did. -/
def fnPathAddSpec : ChangeSpec := { name := "fnPathAdd", vars := ["loop.example/wayboard/impl.errNoPath"], fn := fun _ => fun
  | [d, g1] => { results := [.lit (.bool true)], args := [d], vars := [g1] }
  | _ => none }
def fnPathAddRow : OpenClaim := { program := "ytnabcffpficgcaadoor", sum := "e58282754546732f1bea7b528fc0414cd71ffb25900d93d26d05b58f6f36f0d7", func := "loop.example/wayboard/laws.FnPathAdd", spec := "fnPathAdd", inPlace := ["internal/reflectlite.TypeOf"], unfollowed := true, recurses := true, named := ["loop.example/wayboard/impl.errNoPath"], ifaces := true, apart := false, laid := [("loop.example/wayboard/impl.errNoPath", laid_loop_example_wayboard_impl_errNoPath)] }
def FnPathAddSaid : Prop := fnPathAddRow.holds Tryd.pinned (OpenSpec.ofChange fnPathAddSpec)

/-- ITS FALSE NEIGHBOUR: 'it returns false'. Refute it at one input. -/
def fnPathAddWrong : ChangeSpec := { name := "fnPathAdd", vars := ["loop.example/wayboard/impl.errNoPath"], fn := fun _ => fun
  | [d, g1] => { results := [.lit (.bool false)], args := [d], vars := [g1] }
  | _ => none }
def FnPathAddWrongFalsely : Prop := fnPathAddRow.holds Tryd.pinned (OpenSpec.ofChange fnPathAddWrong)

/-- 'laws.FnPathHas': WHATEVER THE INPUT: true; the input reads as it did. -/
def fnPathHasSpec : ChangeSpec := { name := "fnPathHas", vars := ["loop.example/wayboard/impl.errNoPath"], fn := fun _ => fun
  | [d, g1] => { results := [.lit (.bool true)], args := [d], vars := [g1] }
  | _ => none }
def fnPathHasRow : OpenClaim := { program := "ytnabcffpficgcaadoor", sum := "e58282754546732f1bea7b528fc0414cd71ffb25900d93d26d05b58f6f36f0d7", func := "loop.example/wayboard/laws.FnPathHas", spec := "fnPathHas", inPlace := ["internal/reflectlite.TypeOf"], unfollowed := true, recurses := true, named := ["loop.example/wayboard/impl.errNoPath"], ifaces := true, apart := false, laid := [("loop.example/wayboard/impl.errNoPath", laid_loop_example_wayboard_impl_errNoPath)] }
def FnPathHasSaid : Prop := fnPathHasRow.holds Tryd.pinned (OpenSpec.ofChange fnPathHasSpec)

/-- ITS FALSE NEIGHBOUR: 'it returns false'. Refute it at one input. -/
def fnPathHasWrong : ChangeSpec := { name := "fnPathHas", vars := ["loop.example/wayboard/impl.errNoPath"], fn := fun _ => fun
  | [d, g1] => { results := [.lit (.bool false)], args := [d], vars := [g1] }
  | _ => none }
def FnPathHasWrongFalsely : Prop := fnPathHasRow.holds Tryd.pinned (OpenSpec.ofChange fnPathHasWrong)

/-- 'laws.FnPathCmp': WHATEVER THE INPUT: true; the input reads as it did. -/
def fnPathCmpSpec : ChangeSpec := { name := "fnPathCmp", vars := ["loop.example/wayboard/impl.errNoPath"], fn := fun _ => fun
  | [d1, d2, g1] => { results := [.lit (.bool true)], args := [d1, d2], vars := [g1] }
  | _ => none }
def fnPathCmpRow : OpenClaim := { program := "ytnabcffpficgcaadoor", sum := "e58282754546732f1bea7b528fc0414cd71ffb25900d93d26d05b58f6f36f0d7", func := "loop.example/wayboard/laws.FnPathCmp", spec := "fnPathCmp", inPlace := ["internal/reflectlite.TypeOf"], unfollowed := true, recurses := true, named := ["loop.example/wayboard/impl.errNoPath"], ifaces := true, apart := false, laid := [("loop.example/wayboard/impl.errNoPath", laid_loop_example_wayboard_impl_errNoPath)] }
def FnPathCmpSaid : Prop := fnPathCmpRow.holds Tryd.pinned (OpenSpec.ofChange fnPathCmpSpec)

/-- ITS FALSE NEIGHBOUR: 'it returns false'. Refute it at one input. -/
def fnPathCmpWrong : ChangeSpec := { name := "fnPathCmp", vars := ["loop.example/wayboard/impl.errNoPath"], fn := fun _ => fun
  | [d1, d2, g1] => { results := [.lit (.bool false)], args := [d1, d2], vars := [g1] }
  | _ => none }
def FnPathCmpWrongFalsely : Prop := fnPathCmpRow.holds Tryd.pinned (OpenSpec.ofChange fnPathCmpWrong)

/-- 'laws.FnPathThree': WHATEVER THE INPUT: true; the input reads as it did. -/
def fnPathThreeSpec : ChangeSpec := { name := "fnPathThree", vars := ["loop.example/wayboard/impl.errNoPath"], fn := fun _ => fun
  | [d1, d2, g1] => { results := [.lit (.bool true)], args := [d1, d2], vars := [g1] }
  | _ => none }
def fnPathThreeRow : OpenClaim := { program := "ytnabcffpficgcaadoor", sum := "e58282754546732f1bea7b528fc0414cd71ffb25900d93d26d05b58f6f36f0d7", func := "loop.example/wayboard/laws.FnPathThree", spec := "fnPathThree", inPlace := ["internal/reflectlite.TypeOf"], unfollowed := true, recurses := true, named := ["loop.example/wayboard/impl.errNoPath"], ifaces := true, apart := false, laid := [("loop.example/wayboard/impl.errNoPath", laid_loop_example_wayboard_impl_errNoPath)] }
def FnPathThreeSaid : Prop := fnPathThreeRow.holds Tryd.pinned (OpenSpec.ofChange fnPathThreeSpec)

/-- ITS FALSE NEIGHBOUR: 'it returns false'. Refute it at one input. -/
def fnPathThreeWrong : ChangeSpec := { name := "fnPathThree", vars := ["loop.example/wayboard/impl.errNoPath"], fn := fun _ => fun
  | [d1, d2, g1] => { results := [.lit (.bool false)], args := [d1, d2], vars := [g1] }
  | _ => none }
def FnPathThreeWrongFalsely : Prop := fnPathThreeRow.holds Tryd.pinned (OpenSpec.ofChange fnPathThreeWrong)

/-- 'laws.FnPathForm': WHATEVER THE INPUT: true; the input reads as it did. -/
def fnPathFormSpec : ChangeSpec := { name := "fnPathForm", vars := ["loop.example/wayboard/impl.errNoPath"], fn := fun _ => fun
  | [d1, d2, g1] => { results := [.lit (.bool true)], args := [d1, d2], vars := [g1] }
  | _ => none }
def fnPathFormRow : OpenClaim := { program := "ytnabcffpficgcaadoor", sum := "e58282754546732f1bea7b528fc0414cd71ffb25900d93d26d05b58f6f36f0d7", func := "loop.example/wayboard/laws.FnPathForm", spec := "fnPathForm", inPlace := ["internal/reflectlite.TypeOf"], unfollowed := true, recurses := true, named := ["loop.example/wayboard/impl.errNoPath"], ifaces := true, apart := false, laid := [("loop.example/wayboard/impl.errNoPath", laid_loop_example_wayboard_impl_errNoPath)] }
def FnPathFormSaid : Prop := fnPathFormRow.holds Tryd.pinned (OpenSpec.ofChange fnPathFormSpec)

/-- ITS FALSE NEIGHBOUR: 'it returns false'. Refute it at one input. -/
def fnPathFormWrong : ChangeSpec := { name := "fnPathForm", vars := ["loop.example/wayboard/impl.errNoPath"], fn := fun _ => fun
  | [d1, d2, g1] => { results := [.lit (.bool false)], args := [d1, d2], vars := [g1] }
  | _ => none }
def FnPathFormWrongFalsely : Prop := fnPathFormRow.holds Tryd.pinned (OpenSpec.ofChange fnPathFormWrong)

/-- 'laws.FnPathRest': WHATEVER THE INPUT: true; the input reads as it did. -/
def fnPathRestSpec : ChangeSpec := { name := "fnPathRest", vars := ["loop.example/wayboard/impl.errNoPath"], fn := fun _ => fun
  | [d1, d2, g1] => { results := [.lit (.bool true)], args := [d1, d2], vars := [g1] }
  | _ => none }
def fnPathRestRow : OpenClaim := { program := "ytnabcffpficgcaadoor", sum := "e58282754546732f1bea7b528fc0414cd71ffb25900d93d26d05b58f6f36f0d7", func := "loop.example/wayboard/laws.FnPathRest", spec := "fnPathRest", inPlace := ["internal/reflectlite.TypeOf", "internal/abi.NoEscape", "internal/bytealg.MakeNoZero"], unfollowed := true, recurses := true, named := ["loop.example/wayboard/impl.errNoPath", "internal/strconv.uint64pow10", "math/bits.deBruijn32tab", "math/bits.deBruijn64tab"], ifaces := true, apart := false, laid := [("math/bits.deBruijn32tab", laid_math_bits_deBruijn32tab), ("math/bits.deBruijn64tab", laid_math_bits_deBruijn64tab), ("internal/strconv.uint64pow10", laid_internal_strconv_uint64pow10), ("loop.example/wayboard/impl.errNoPath", laid_loop_example_wayboard_impl_errNoPath)] }
def FnPathRestSaid : Prop := fnPathRestRow.holds Tryd.pinned (OpenSpec.ofChange fnPathRestSpec)

/-- ITS FALSE NEIGHBOUR: 'it returns false'. Refute it at one input. -/
def fnPathRestWrong : ChangeSpec := { name := "fnPathRest", vars := ["loop.example/wayboard/impl.errNoPath"], fn := fun _ => fun
  | [d1, d2, g1] => { results := [.lit (.bool false)], args := [d1, d2], vars := [g1] }
  | _ => none }
def FnPathRestWrongFalsely : Prop := fnPathRestRow.holds Tryd.pinned (OpenSpec.ofChange fnPathRestWrong)

/-- 'laws.FnPathTexts': WHATEVER THE INPUT: true; the input reads as it did. -/
def fnPathTextsSpec : ChangeSpec := { name := "fnPathTexts", vars := ["loop.example/wayboard/impl.errNoPath"], fn := fun _ => fun
  | [d, g1] => { results := [.lit (.bool true)], args := [d], vars := [g1] }
  | _ => none }
def fnPathTextsRow : OpenClaim := { program := "ytnabcffpficgcaadoor", sum := "e58282754546732f1bea7b528fc0414cd71ffb25900d93d26d05b58f6f36f0d7", func := "loop.example/wayboard/laws.FnPathTexts", spec := "fnPathTexts", inPlace := ["internal/reflectlite.TypeOf", "internal/abi.NoEscape", "internal/bytealg.MakeNoZero"], unfollowed := true, recurses := true, named := ["loop.example/wayboard/impl.errNoPath", "internal/strconv.uint64pow10", "math/bits.deBruijn32tab", "math/bits.deBruijn64tab"], ifaces := true, apart := false, laid := [("math/bits.deBruijn32tab", laid_math_bits_deBruijn32tab), ("math/bits.deBruijn64tab", laid_math_bits_deBruijn64tab), ("internal/strconv.uint64pow10", laid_internal_strconv_uint64pow10), ("loop.example/wayboard/impl.errNoPath", laid_loop_example_wayboard_impl_errNoPath)] }
def FnPathTextsSaid : Prop := fnPathTextsRow.holds Tryd.pinned (OpenSpec.ofChange fnPathTextsSpec)

/-- ITS FALSE NEIGHBOUR: 'it returns false'. Refute it at one input. -/
def fnPathTextsWrong : ChangeSpec := { name := "fnPathTexts", vars := ["loop.example/wayboard/impl.errNoPath"], fn := fun _ => fun
  | [d, g1] => { results := [.lit (.bool false)], args := [d], vars := [g1] }
  | _ => none }
def FnPathTextsWrongFalsely : Prop := fnPathTextsRow.holds Tryd.pinned (OpenSpec.ofChange fnPathTextsWrong)

/- THE SECOND FORM. 'bulk': how many values and letters a reading holds, each counted each time it is reached (what is shared counts as often as it is met; a slice's spare places count too). A statement '..UptoSaid' is the law's where the arguments, and the package variables that the reading takes, are together of bulk at most 1048576: NARROWER than '..Said'. Prove '..Said' where nothing that the law and all that it calls make is longer than what came in: it says more and counts as full. Else prove '..UptoSaid'. A law counts once. -/
mutual
def uptoBulk {H : Type} : DataW H → Nat
  | .lit (.string bytes) => bytes.length + 1
  | .lit _ => 1
  | .nil => 1
  | .ptr d => uptoBulk d + 1
  | .slice elems spare => uptoBulkAll elems + uptoBulkAll spare + 1
  | .agg parts => uptoBulkAll parts + 1
  | .iface _ d => uptoBulk d + 1
  | .map entries => uptoBulkEntries entries + 1
  | .held _ => 1
def uptoBulkAll {H : Type} : List (DataW H) → Nat
  | [] => 0
  | d :: r => uptoBulk d + uptoBulkAll r
def uptoBulkEntries {H : Type} : List (Lit × DataW H) → Nat
  | [] => 0
  | x :: r => uptoBulkEntry x + uptoBulkEntries r
def uptoBulkEntry {H : Type} : Lit × DataW H → Nat
  | (.string bytes, d) => bytes.length + uptoBulk d + 1
  | (_, d) => uptoBulk d + 1
 end
def uptoSmall : (H : Type) → List (DataW H) → Bool := fun _ ds => decide (uptoBulkAll ds ≤ 1048576)
def OpenSpec.upto (s : _root_.Go.ChangeSpec) : _root_.Go.OpenSpec := { _root_.Go.OpenSpec.ofChange s with cond := some uptoSmall }

/-- 'laws.FnExactPathOk', WHERE WHAT IT READS IS OF BULK AT MOST 1048576: true; the input reads as it did. -/
def fnExactPathOkUptoRow : OpenClaim := { program := "ytnabcffpficgcaadoor", sum := "e58282754546732f1bea7b528fc0414cd71ffb25900d93d26d05b58f6f36f0d7", func := "loop.example/wayboard/laws.FnExactPathOk", spec := "fnExactPathOk", inPlace := ["internal/reflectlite.TypeOf"], unfollowed := true, recurses := true, named := ["loop.example/wayboard/impl.errNoPath"], ifaces := true, apart := false, laid := [("loop.example/wayboard/impl.errNoPath", laid_loop_example_wayboard_impl_errNoPath)], narrowed := true }
def FnExactPathOkUptoSaid : Prop := fnExactPathOkUptoRow.holds Tryd.pinned (OpenSpec.upto fnExactPathOkSpec)

/-- 'laws.FnExactPathHas', WHERE WHAT IT READS IS OF BULK AT MOST 1048576: true; the input reads as it did. -/
def fnExactPathHasUptoRow : OpenClaim := { program := "ytnabcffpficgcaadoor", sum := "e58282754546732f1bea7b528fc0414cd71ffb25900d93d26d05b58f6f36f0d7", func := "loop.example/wayboard/laws.FnExactPathHas", spec := "fnExactPathHas", inPlace := ["internal/reflectlite.TypeOf"], unfollowed := true, recurses := true, named := ["loop.example/wayboard/impl.errNoPath"], ifaces := true, apart := false, laid := [("loop.example/wayboard/impl.errNoPath", laid_loop_example_wayboard_impl_errNoPath)], narrowed := true }
def FnExactPathHasUptoSaid : Prop := fnExactPathHasUptoRow.holds Tryd.pinned (OpenSpec.upto fnExactPathHasSpec)

/-- 'laws.FnExactPathAdd', WHERE WHAT IT READS IS OF BULK AT MOST 1048576: true; the input reads as it did. -/
def fnExactPathAddUptoRow : OpenClaim := { program := "ytnabcffpficgcaadoor", sum := "e58282754546732f1bea7b528fc0414cd71ffb25900d93d26d05b58f6f36f0d7", func := "loop.example/wayboard/laws.FnExactPathAdd", spec := "fnExactPathAdd", inPlace := ["internal/reflectlite.TypeOf"], unfollowed := true, recurses := true, named := ["loop.example/wayboard/impl.errNoPath"], ifaces := true, apart := false, laid := [("loop.example/wayboard/impl.errNoPath", laid_loop_example_wayboard_impl_errNoPath)], narrowed := true }
def FnExactPathAddUptoSaid : Prop := fnExactPathAddUptoRow.holds Tryd.pinned (OpenSpec.upto fnExactPathAddSpec)

/-- 'laws.FnExactPathText', WHERE WHAT IT READS IS OF BULK AT MOST 1048576: true; the input reads as it did. -/
def fnExactPathTextUptoRow : OpenClaim := { program := "ytnabcffpficgcaadoor", sum := "e58282754546732f1bea7b528fc0414cd71ffb25900d93d26d05b58f6f36f0d7", func := "loop.example/wayboard/laws.FnExactPathText", spec := "fnExactPathText", inPlace := ["internal/reflectlite.TypeOf", "internal/abi.NoEscape", "internal/bytealg.MakeNoZero"], unfollowed := true, recurses := true, named := ["loop.example/wayboard/impl.errNoPath", "internal/strconv.uint64pow10", "math/bits.deBruijn32tab", "math/bits.deBruijn64tab"], ifaces := true, apart := false, laid := [("math/bits.deBruijn32tab", laid_math_bits_deBruijn32tab), ("math/bits.deBruijn64tab", laid_math_bits_deBruijn64tab), ("internal/strconv.uint64pow10", laid_internal_strconv_uint64pow10), ("loop.example/wayboard/impl.errNoPath", laid_loop_example_wayboard_impl_errNoPath)], narrowed := true }
def FnExactPathTextUptoSaid : Prop := fnExactPathTextUptoRow.holds Tryd.pinned (OpenSpec.upto fnExactPathTextSpec)

/-- 'laws.FnExactPathRead', WHERE WHAT IT READS IS OF BULK AT MOST 1048576: true; the input reads as it did. -/
def fnExactPathReadUptoRow : OpenClaim := { program := "ytnabcffpficgcaadoor", sum := "e58282754546732f1bea7b528fc0414cd71ffb25900d93d26d05b58f6f36f0d7", func := "loop.example/wayboard/laws.FnExactPathRead", spec := "fnExactPathRead", inPlace := ["internal/bytealg.CountString", "internal/bytealg.IndexByteString", "internal/bytealg.IndexString", "internal/abi.NoEscape", "internal/bytealg.MakeNoZero", "internal/reflectlite.TypeOf"], unfollowed := true, recurses := true, named := ["loop.example/wayboard/impl.errNoPath", "unicode/utf8.first", "unicode/utf8.acceptRanges", "internal/bytealg.MaxLen", "strconv.ErrSyntax", "strconv.ErrRange", "internal/strconv.uint64pow10", "math/bits.deBruijn32tab", "math/bits.deBruijn64tab"], ifaces := true, apart := false, laid := [("math/bits.deBruijn32tab", laid_math_bits_deBruijn32tab), ("math/bits.deBruijn64tab", laid_math_bits_deBruijn64tab), ("internal/strconv.uint64pow10", laid_internal_strconv_uint64pow10), ("unicode/utf8.acceptRanges", laid_unicode_utf8_acceptRanges), ("strconv.ErrRange", laid_strconv_ErrRange), ("strconv.ErrSyntax", laid_strconv_ErrSyntax), ("loop.example/wayboard/impl.errNoPath", laid_loop_example_wayboard_impl_errNoPath), ("unicode/utf8.first", laid_unicode_utf8_first)], narrowed := true }
def FnExactPathReadUptoSaid : Prop := fnExactPathReadUptoRow.holds Tryd.pinned (OpenSpec.upto fnExactPathReadSpec)

/-- 'laws.FnExactPathCmp', WHERE WHAT IT READS IS OF BULK AT MOST 1048576: true; the input reads as it did. -/
def fnExactPathCmpUptoRow : OpenClaim := { program := "ytnabcffpficgcaadoor", sum := "e58282754546732f1bea7b528fc0414cd71ffb25900d93d26d05b58f6f36f0d7", func := "loop.example/wayboard/laws.FnExactPathCmp", spec := "fnExactPathCmp", inPlace := ["internal/reflectlite.TypeOf"], unfollowed := true, recurses := true, named := ["loop.example/wayboard/impl.errNoPath"], ifaces := true, apart := false, laid := [("loop.example/wayboard/impl.errNoPath", laid_loop_example_wayboard_impl_errNoPath)], narrowed := true }
def FnExactPathCmpUptoSaid : Prop := fnExactPathCmpUptoRow.holds Tryd.pinned (OpenSpec.upto fnExactPathCmpSpec)

/-- 'laws.FnPathBack', WHERE WHAT IT READS IS OF BULK AT MOST 1048576: true; the input reads as it did. -/
def fnPathBackUptoRow : OpenClaim := { program := "ytnabcffpficgcaadoor", sum := "e58282754546732f1bea7b528fc0414cd71ffb25900d93d26d05b58f6f36f0d7", func := "loop.example/wayboard/laws.FnPathBack", spec := "fnPathBack", inPlace := ["internal/reflectlite.TypeOf", "internal/abi.NoEscape", "internal/bytealg.MakeNoZero", "internal/bytealg.CountString", "internal/bytealg.IndexByteString", "internal/bytealg.IndexString"], unfollowed := true, recurses := true, named := ["loop.example/wayboard/impl.errNoPath", "internal/strconv.uint64pow10", "math/bits.deBruijn32tab", "math/bits.deBruijn64tab", "unicode/utf8.first", "unicode/utf8.acceptRanges", "internal/bytealg.MaxLen", "strconv.ErrSyntax", "strconv.ErrRange"], ifaces := true, apart := false, laid := [("math/bits.deBruijn32tab", laid_math_bits_deBruijn32tab), ("math/bits.deBruijn64tab", laid_math_bits_deBruijn64tab), ("internal/strconv.uint64pow10", laid_internal_strconv_uint64pow10), ("unicode/utf8.acceptRanges", laid_unicode_utf8_acceptRanges), ("strconv.ErrRange", laid_strconv_ErrRange), ("strconv.ErrSyntax", laid_strconv_ErrSyntax), ("loop.example/wayboard/impl.errNoPath", laid_loop_example_wayboard_impl_errNoPath), ("unicode/utf8.first", laid_unicode_utf8_first)], narrowed := true }
def FnPathBackUptoSaid : Prop := fnPathBackUptoRow.holds Tryd.pinned (OpenSpec.upto fnPathBackSpec)

/-- 'laws.FnPathStrict', WHERE WHAT IT READS IS OF BULK AT MOST 1048576: true; the input reads as it did. -/
def fnPathStrictUptoRow : OpenClaim := { program := "ytnabcffpficgcaadoor", sum := "e58282754546732f1bea7b528fc0414cd71ffb25900d93d26d05b58f6f36f0d7", func := "loop.example/wayboard/laws.FnPathStrict", spec := "fnPathStrict", inPlace := ["internal/bytealg.CountString", "internal/bytealg.IndexByteString", "internal/bytealg.IndexString", "internal/abi.NoEscape", "internal/bytealg.MakeNoZero", "internal/reflectlite.TypeOf"], unfollowed := true, recurses := true, named := ["loop.example/wayboard/impl.errNoPath", "unicode/utf8.first", "unicode/utf8.acceptRanges", "internal/bytealg.MaxLen", "strconv.ErrSyntax", "strconv.ErrRange", "internal/strconv.uint64pow10", "math/bits.deBruijn32tab", "math/bits.deBruijn64tab"], ifaces := true, apart := false, laid := [("math/bits.deBruijn32tab", laid_math_bits_deBruijn32tab), ("math/bits.deBruijn64tab", laid_math_bits_deBruijn64tab), ("internal/strconv.uint64pow10", laid_internal_strconv_uint64pow10), ("unicode/utf8.acceptRanges", laid_unicode_utf8_acceptRanges), ("strconv.ErrRange", laid_strconv_ErrRange), ("strconv.ErrSyntax", laid_strconv_ErrSyntax), ("loop.example/wayboard/impl.errNoPath", laid_loop_example_wayboard_impl_errNoPath), ("unicode/utf8.first", laid_unicode_utf8_first)], narrowed := true }
def FnPathStrictUptoSaid : Prop := fnPathStrictUptoRow.holds Tryd.pinned (OpenSpec.upto fnPathStrictSpec)

/-- 'laws.FnPathAdd', WHERE WHAT IT READS IS OF BULK AT MOST 1048576: true; the input reads as it did. -/
def fnPathAddUptoRow : OpenClaim := { program := "ytnabcffpficgcaadoor", sum := "e58282754546732f1bea7b528fc0414cd71ffb25900d93d26d05b58f6f36f0d7", func := "loop.example/wayboard/laws.FnPathAdd", spec := "fnPathAdd", inPlace := ["internal/reflectlite.TypeOf"], unfollowed := true, recurses := true, named := ["loop.example/wayboard/impl.errNoPath"], ifaces := true, apart := false, laid := [("loop.example/wayboard/impl.errNoPath", laid_loop_example_wayboard_impl_errNoPath)], narrowed := true }
def FnPathAddUptoSaid : Prop := fnPathAddUptoRow.holds Tryd.pinned (OpenSpec.upto fnPathAddSpec)

/-- 'laws.FnPathHas', WHERE WHAT IT READS IS OF BULK AT MOST 1048576: true; the input reads as it did. -/
def fnPathHasUptoRow : OpenClaim := { program := "ytnabcffpficgcaadoor", sum := "e58282754546732f1bea7b528fc0414cd71ffb25900d93d26d05b58f6f36f0d7", func := "loop.example/wayboard/laws.FnPathHas", spec := "fnPathHas", inPlace := ["internal/reflectlite.TypeOf"], unfollowed := true, recurses := true, named := ["loop.example/wayboard/impl.errNoPath"], ifaces := true, apart := false, laid := [("loop.example/wayboard/impl.errNoPath", laid_loop_example_wayboard_impl_errNoPath)], narrowed := true }
def FnPathHasUptoSaid : Prop := fnPathHasUptoRow.holds Tryd.pinned (OpenSpec.upto fnPathHasSpec)

/-- 'laws.FnPathCmp', WHERE WHAT IT READS IS OF BULK AT MOST 1048576: true; the input reads as it did. -/
def fnPathCmpUptoRow : OpenClaim := { program := "ytnabcffpficgcaadoor", sum := "e58282754546732f1bea7b528fc0414cd71ffb25900d93d26d05b58f6f36f0d7", func := "loop.example/wayboard/laws.FnPathCmp", spec := "fnPathCmp", inPlace := ["internal/reflectlite.TypeOf"], unfollowed := true, recurses := true, named := ["loop.example/wayboard/impl.errNoPath"], ifaces := true, apart := false, laid := [("loop.example/wayboard/impl.errNoPath", laid_loop_example_wayboard_impl_errNoPath)], narrowed := true }
def FnPathCmpUptoSaid : Prop := fnPathCmpUptoRow.holds Tryd.pinned (OpenSpec.upto fnPathCmpSpec)

/-- 'laws.FnPathThree', WHERE WHAT IT READS IS OF BULK AT MOST 1048576: true; the input reads as it did. -/
def fnPathThreeUptoRow : OpenClaim := { program := "ytnabcffpficgcaadoor", sum := "e58282754546732f1bea7b528fc0414cd71ffb25900d93d26d05b58f6f36f0d7", func := "loop.example/wayboard/laws.FnPathThree", spec := "fnPathThree", inPlace := ["internal/reflectlite.TypeOf"], unfollowed := true, recurses := true, named := ["loop.example/wayboard/impl.errNoPath"], ifaces := true, apart := false, laid := [("loop.example/wayboard/impl.errNoPath", laid_loop_example_wayboard_impl_errNoPath)], narrowed := true }
def FnPathThreeUptoSaid : Prop := fnPathThreeUptoRow.holds Tryd.pinned (OpenSpec.upto fnPathThreeSpec)

/-- 'laws.FnPathForm', WHERE WHAT IT READS IS OF BULK AT MOST 1048576: true; the input reads as it did. -/
def fnPathFormUptoRow : OpenClaim := { program := "ytnabcffpficgcaadoor", sum := "e58282754546732f1bea7b528fc0414cd71ffb25900d93d26d05b58f6f36f0d7", func := "loop.example/wayboard/laws.FnPathForm", spec := "fnPathForm", inPlace := ["internal/reflectlite.TypeOf"], unfollowed := true, recurses := true, named := ["loop.example/wayboard/impl.errNoPath"], ifaces := true, apart := false, laid := [("loop.example/wayboard/impl.errNoPath", laid_loop_example_wayboard_impl_errNoPath)], narrowed := true }
def FnPathFormUptoSaid : Prop := fnPathFormUptoRow.holds Tryd.pinned (OpenSpec.upto fnPathFormSpec)

/-- 'laws.FnPathRest', WHERE WHAT IT READS IS OF BULK AT MOST 1048576: true; the input reads as it did. -/
def fnPathRestUptoRow : OpenClaim := { program := "ytnabcffpficgcaadoor", sum := "e58282754546732f1bea7b528fc0414cd71ffb25900d93d26d05b58f6f36f0d7", func := "loop.example/wayboard/laws.FnPathRest", spec := "fnPathRest", inPlace := ["internal/reflectlite.TypeOf", "internal/abi.NoEscape", "internal/bytealg.MakeNoZero"], unfollowed := true, recurses := true, named := ["loop.example/wayboard/impl.errNoPath", "internal/strconv.uint64pow10", "math/bits.deBruijn32tab", "math/bits.deBruijn64tab"], ifaces := true, apart := false, laid := [("math/bits.deBruijn32tab", laid_math_bits_deBruijn32tab), ("math/bits.deBruijn64tab", laid_math_bits_deBruijn64tab), ("internal/strconv.uint64pow10", laid_internal_strconv_uint64pow10), ("loop.example/wayboard/impl.errNoPath", laid_loop_example_wayboard_impl_errNoPath)], narrowed := true }
def FnPathRestUptoSaid : Prop := fnPathRestUptoRow.holds Tryd.pinned (OpenSpec.upto fnPathRestSpec)

/-- 'laws.FnPathTexts', WHERE WHAT IT READS IS OF BULK AT MOST 1048576: true; the input reads as it did. -/
def fnPathTextsUptoRow : OpenClaim := { program := "ytnabcffpficgcaadoor", sum := "e58282754546732f1bea7b528fc0414cd71ffb25900d93d26d05b58f6f36f0d7", func := "loop.example/wayboard/laws.FnPathTexts", spec := "fnPathTexts", inPlace := ["internal/reflectlite.TypeOf", "internal/abi.NoEscape", "internal/bytealg.MakeNoZero"], unfollowed := true, recurses := true, named := ["loop.example/wayboard/impl.errNoPath", "internal/strconv.uint64pow10", "math/bits.deBruijn32tab", "math/bits.deBruijn64tab"], ifaces := true, apart := false, laid := [("math/bits.deBruijn32tab", laid_math_bits_deBruijn32tab), ("math/bits.deBruijn64tab", laid_math_bits_deBruijn64tab), ("internal/strconv.uint64pow10", laid_internal_strconv_uint64pow10), ("loop.example/wayboard/impl.errNoPath", laid_loop_example_wayboard_impl_errNoPath)], narrowed := true }
def FnPathTextsUptoSaid : Prop := fnPathTextsUptoRow.holds Tryd.pinned (OpenSpec.upto fnPathTextsSpec)

end Rows
end Go.Proofs.YtnabcffpficgcaaDoor
