/-
  NARROWER THAN 'FOR EVERY INPUT', by the rows' own cells (each row's printed sentence says how): FnSealMake: ifaces, laid · FnSealHas: laid · FnSealLacks: ifaces, laid · FnSealOk: ifaces, laid · FnHijack: ifaces, laid · FnShorten: ifaces, laid · FnSealRange: ifaces, laid · FnSealMore: ifaces, laid · FnSealTold: ifaces, laid · FnExactSealMake: ifaces, laid · FnExactSealHas: laid · FnExactSealLacks: ifaces, laid · FnExactSealOk: ifaces, laid.
  DERIVED. THE GIVEN ROWS OF THIS SEAT. 13 by the template 'for every input the law returns true; each argument reads behind the call as it read before'; 0 by the template 'total and deterministic' (their statements: YtnnmgbgkgnejlaaDoorTotals.lean).
  GIVEN WITH THE SEED: the statements are not yours to turn. If you find one false, say at which input.
  Laid BY PROGRAM, IN A SANDBOX (cutbox-rows.mjs): the forced cells as the released guide's own fill.sh prints them over the translation 99dfc0641086bc76… (all of the seat's roots in one cut). By AI agents, Wed Nov 11 2026. No macro, syntax, notation, axiom, sorry.
-/
import Derived.Test.YtnnmgbgkgnejlaaDoorChecked
import GoSem.Claim
import GoSem.ClaimJoined
import GoSem.ClaimMapViews
import Derived.JoinedTies
import Derived.KernelRfl
namespace Go.Proofs.YtnnmgbgkgnejlaaDoor
/- THE CELL 'sum', in the pinned program and in every row, IS THE sha256 OF THE DUMP (.gsa) THAT YtnnmgbgkgnejlaaDoorProg.lean LOADS. Nothing in Lean hashes anything: it is a label: what it is worth is what the hold of that sum in a sandbox is worth. -/
noncomputable def Tryd.pinned : Pinned := { name := "ytnnmgbgkgnejlaadoor", sum := "99dfc0641086bc76b71f0bf692402e7a6b9c7f812802ca61db11f0d6b5524abe", checked := Tryd.checked }
namespace Rows
def none {H : Type} : Left H := { results := [], args := [] }

/- WHAT THE LISTED PACKAGE-LEVEL VARIABLES READ AS WHEN THE CALL BEGINS. Each datum BY PROGRAM (the guide's laid-datum.mjs) off the statement by which the dump's own 'gosem.cut.vars' lays the variable. In a bare row this is a premise. The card (YtnnmgbgkgnejlaaDoorCards.lean) ties it to the program's text. -/
def laid_math_bits_deBruijn32tab {H : Type} : DataW H := .agg [.lit (.int .u8 0), .lit (.int .u8 1), .lit (.int .u8 28), .lit (.int .u8 2), .lit (.int .u8 29), .lit (.int .u8 14), .lit (.int .u8 24), .lit (.int .u8 3), .lit (.int .u8 30), .lit (.int .u8 22), .lit (.int .u8 20), .lit (.int .u8 15), .lit (.int .u8 25), .lit (.int .u8 17), .lit (.int .u8 4), .lit (.int .u8 8), .lit (.int .u8 31), .lit (.int .u8 27), .lit (.int .u8 13), .lit (.int .u8 23), .lit (.int .u8 21), .lit (.int .u8 19), .lit (.int .u8 16), .lit (.int .u8 7), .lit (.int .u8 26), .lit (.int .u8 12), .lit (.int .u8 18), .lit (.int .u8 6), .lit (.int .u8 11), .lit (.int .u8 5), .lit (.int .u8 10), .lit (.int .u8 9)]
def laid_math_bits_deBruijn64tab {H : Type} : DataW H := .agg [.lit (.int .u8 0), .lit (.int .u8 1), .lit (.int .u8 56), .lit (.int .u8 2), .lit (.int .u8 57), .lit (.int .u8 49), .lit (.int .u8 28), .lit (.int .u8 3), .lit (.int .u8 61), .lit (.int .u8 58), .lit (.int .u8 42), .lit (.int .u8 50), .lit (.int .u8 38), .lit (.int .u8 29), .lit (.int .u8 17), .lit (.int .u8 4), .lit (.int .u8 62), .lit (.int .u8 47), .lit (.int .u8 59), .lit (.int .u8 36), .lit (.int .u8 45), .lit (.int .u8 43), .lit (.int .u8 51), .lit (.int .u8 22), .lit (.int .u8 53), .lit (.int .u8 39), .lit (.int .u8 33), .lit (.int .u8 30), .lit (.int .u8 24), .lit (.int .u8 18), .lit (.int .u8 12), .lit (.int .u8 5), .lit (.int .u8 63), .lit (.int .u8 55), .lit (.int .u8 48), .lit (.int .u8 27), .lit (.int .u8 60), .lit (.int .u8 41), .lit (.int .u8 37), .lit (.int .u8 16), .lit (.int .u8 46), .lit (.int .u8 35), .lit (.int .u8 44), .lit (.int .u8 21), .lit (.int .u8 52), .lit (.int .u8 32), .lit (.int .u8 23), .lit (.int .u8 11), .lit (.int .u8 54), .lit (.int .u8 26), .lit (.int .u8 40), .lit (.int .u8 15), .lit (.int .u8 34), .lit (.int .u8 20), .lit (.int .u8 31), .lit (.int .u8 10), .lit (.int .u8 25), .lit (.int .u8 14), .lit (.int .u8 19), .lit (.int .u8 9), .lit (.int .u8 13), .lit (.int .u8 8), .lit (.int .u8 7), .lit (.int .u8 6)]
def laid_internal_strconv_uint64pow10 {H : Type} : DataW H := .agg [.lit (.int .u64 1), .lit (.int .u64 10), .lit (.int .u64 100), .lit (.int .u64 1000), .lit (.int .u64 10000), .lit (.int .u64 100000), .lit (.int .u64 1000000), .lit (.int .u64 10000000), .lit (.int .u64 100000000), .lit (.int .u64 1000000000), .lit (.int .u64 10000000000), .lit (.int .u64 100000000000), .lit (.int .u64 1000000000000), .lit (.int .u64 10000000000000), .lit (.int .u64 100000000000000), .lit (.int .u64 1000000000000000), .lit (.int .u64 10000000000000000), .lit (.int .u64 100000000000000000), .lit (.int .u64 1000000000000000000), .lit (.int .u64 10000000000000000000)]
def laid_loop_example_wayboard_impl_errNoPath {H : Type} : DataW H := .iface "*errors.errorString" (.ptr (.agg [.lit (.string [97, 32, 112, 97, 116, 104, 32, 104, 97, 115, 32, 101, 97, 99, 104, 32, 104, 111, 117, 115, 101, 32, 97, 116, 32, 109, 111, 115, 116, 32, 111, 110, 99, 101, 44, 32, 97, 110, 100, 32, 110, 111, 116, 104, 105, 110, 103, 32, 101, 108, 115, 101])]))

/-- 'laws.FnSealMake': WHATEVER THE INPUT: true; the input reads as it did. -/
def fnSealMakeSpec : ChangeSpec := { name := "fnSealMake", vars := ["loop.example/wayboard/impl.errNoPath"], fn := fun _ => fun
  | [d, g1] => { results := [.lit (.bool true)], args := [d], vars := [g1] }
  | _ => none }
def fnSealMakeRow : OpenClaim := { program := "ytnnmgbgkgnejlaadoor", sum := "99dfc0641086bc76b71f0bf692402e7a6b9c7f812802ca61db11f0d6b5524abe", func := "loop.example/wayboard/laws.FnSealMake", spec := "fnSealMake", inPlace := ["internal/reflectlite.TypeOf"], unfollowed := true, recurses := true, named := ["loop.example/wayboard/impl.errNoPath", "internal/strconv.uint64pow10", "math/bits.deBruijn32tab", "math/bits.deBruijn64tab"], ifaces := true, plainKeys := false, apart := false, laid := [("math/bits.deBruijn32tab", laid_math_bits_deBruijn32tab), ("math/bits.deBruijn64tab", laid_math_bits_deBruijn64tab), ("internal/strconv.uint64pow10", laid_internal_strconv_uint64pow10), ("loop.example/wayboard/impl.errNoPath", laid_loop_example_wayboard_impl_errNoPath)] }
def FnSealMakeSaid : Prop := fnSealMakeRow.holds Tryd.pinned (OpenSpec.ofChange fnSealMakeSpec)

/-- ITS FALSE NEIGHBOUR: 'it returns false'. Refute it at one input. -/
def fnSealMakeWrong : ChangeSpec := { name := "fnSealMake", vars := ["loop.example/wayboard/impl.errNoPath"], fn := fun _ => fun
  | [d, g1] => { results := [.lit (.bool false)], args := [d], vars := [g1] }
  | _ => none }
def FnSealMakeWrongFalsely : Prop := fnSealMakeRow.holds Tryd.pinned (OpenSpec.ofChange fnSealMakeWrong)

/-- 'laws.FnSealHas': WHATEVER THE INPUT: true; the input reads as it did. -/
def fnSealHasSpec : ChangeSpec := { name := "fnSealHas", fn := fun _ => fun
  | [d] => { results := [.lit (.bool true)], args := [d] }
  | _ => none }
def fnSealHasRow : OpenClaim := { program := "ytnnmgbgkgnejlaadoor", sum := "99dfc0641086bc76b71f0bf692402e7a6b9c7f812802ca61db11f0d6b5524abe", func := "loop.example/wayboard/laws.FnSealHas", spec := "fnSealHas", named := ["internal/strconv.uint64pow10", "math/bits.deBruijn32tab", "math/bits.deBruijn64tab"], plainKeys := false, apart := false, laid := [("math/bits.deBruijn32tab", laid_math_bits_deBruijn32tab), ("math/bits.deBruijn64tab", laid_math_bits_deBruijn64tab), ("internal/strconv.uint64pow10", laid_internal_strconv_uint64pow10)] }
def FnSealHasSaid : Prop := fnSealHasRow.holds Tryd.pinned (OpenSpec.ofChange fnSealHasSpec)

/-- ITS FALSE NEIGHBOUR: 'it returns false'. Refute it at one input. -/
def fnSealHasWrong : ChangeSpec := { name := "fnSealHas", fn := fun _ => fun
  | [d] => { results := [.lit (.bool false)], args := [d] }
  | _ => none }
def FnSealHasWrongFalsely : Prop := fnSealHasRow.holds Tryd.pinned (OpenSpec.ofChange fnSealHasWrong)

/-- 'laws.FnSealLacks': WHATEVER THE INPUT: true; the input reads as it did. -/
def fnSealLacksSpec : ChangeSpec := { name := "fnSealLacks", vars := ["loop.example/wayboard/impl.errNoPath"], fn := fun _ => fun
  | [d, g1] => { results := [.lit (.bool true)], args := [d], vars := [g1] }
  | _ => none }
def fnSealLacksRow : OpenClaim := { program := "ytnnmgbgkgnejlaadoor", sum := "99dfc0641086bc76b71f0bf692402e7a6b9c7f812802ca61db11f0d6b5524abe", func := "loop.example/wayboard/laws.FnSealLacks", spec := "fnSealLacks", inPlace := ["internal/reflectlite.TypeOf"], unfollowed := true, recurses := true, named := ["loop.example/wayboard/impl.errNoPath", "internal/strconv.uint64pow10", "math/bits.deBruijn32tab", "math/bits.deBruijn64tab"], ifaces := true, plainKeys := false, apart := false, laid := [("math/bits.deBruijn32tab", laid_math_bits_deBruijn32tab), ("math/bits.deBruijn64tab", laid_math_bits_deBruijn64tab), ("internal/strconv.uint64pow10", laid_internal_strconv_uint64pow10), ("loop.example/wayboard/impl.errNoPath", laid_loop_example_wayboard_impl_errNoPath)] }
def FnSealLacksSaid : Prop := fnSealLacksRow.holds Tryd.pinned (OpenSpec.ofChange fnSealLacksSpec)

/-- ITS FALSE NEIGHBOUR: 'it returns false'. Refute it at one input. -/
def fnSealLacksWrong : ChangeSpec := { name := "fnSealLacks", vars := ["loop.example/wayboard/impl.errNoPath"], fn := fun _ => fun
  | [d, g1] => { results := [.lit (.bool false)], args := [d], vars := [g1] }
  | _ => none }
def FnSealLacksWrongFalsely : Prop := fnSealLacksRow.holds Tryd.pinned (OpenSpec.ofChange fnSealLacksWrong)

/-- 'laws.FnSealOk': WHATEVER THE INPUT: true; the input reads as it did. -/
def fnSealOkSpec : ChangeSpec := { name := "fnSealOk", vars := ["loop.example/wayboard/impl.errNoPath"], fn := fun _ => fun
  | [d1, d2, g1] => { results := [.lit (.bool true)], args := [d1, d2], vars := [g1] }
  | _ => none }
def fnSealOkRow : OpenClaim := { program := "ytnnmgbgkgnejlaadoor", sum := "99dfc0641086bc76b71f0bf692402e7a6b9c7f812802ca61db11f0d6b5524abe", func := "loop.example/wayboard/laws.FnSealOk", spec := "fnSealOk", inPlace := ["internal/reflectlite.TypeOf"], unfollowed := true, recurses := true, named := ["loop.example/wayboard/impl.errNoPath", "internal/strconv.uint64pow10", "math/bits.deBruijn32tab", "math/bits.deBruijn64tab"], ifaces := true, plainKeys := false, apart := false, laid := [("math/bits.deBruijn32tab", laid_math_bits_deBruijn32tab), ("math/bits.deBruijn64tab", laid_math_bits_deBruijn64tab), ("internal/strconv.uint64pow10", laid_internal_strconv_uint64pow10), ("loop.example/wayboard/impl.errNoPath", laid_loop_example_wayboard_impl_errNoPath)] }
def FnSealOkSaid : Prop := fnSealOkRow.holds Tryd.pinned (OpenSpec.ofChange fnSealOkSpec)

/-- ITS FALSE NEIGHBOUR: 'it returns false'. Refute it at one input. -/
def fnSealOkWrong : ChangeSpec := { name := "fnSealOk", vars := ["loop.example/wayboard/impl.errNoPath"], fn := fun _ => fun
  | [d1, d2, g1] => { results := [.lit (.bool false)], args := [d1, d2], vars := [g1] }
  | _ => none }
def FnSealOkWrongFalsely : Prop := fnSealOkRow.holds Tryd.pinned (OpenSpec.ofChange fnSealOkWrong)

/-- 'laws.FnHijack': WHATEVER THE INPUT: true; the input reads as it did. -/
def fnHijackSpec : ChangeSpec := { name := "fnHijack", vars := ["loop.example/wayboard/impl.errNoPath"], fn := fun _ => fun
  | [d1, d2, g1] => { results := [.lit (.bool true)], args := [d1, d2], vars := [g1] }
  | _ => none }
def fnHijackRow : OpenClaim := { program := "ytnnmgbgkgnejlaadoor", sum := "99dfc0641086bc76b71f0bf692402e7a6b9c7f812802ca61db11f0d6b5524abe", func := "loop.example/wayboard/laws.FnHijack", spec := "fnHijack", inPlace := ["internal/reflectlite.TypeOf"], unfollowed := true, recurses := true, named := ["loop.example/wayboard/impl.errNoPath", "internal/strconv.uint64pow10", "math/bits.deBruijn32tab", "math/bits.deBruijn64tab"], ifaces := true, plainKeys := false, apart := false, laid := [("math/bits.deBruijn32tab", laid_math_bits_deBruijn32tab), ("math/bits.deBruijn64tab", laid_math_bits_deBruijn64tab), ("internal/strconv.uint64pow10", laid_internal_strconv_uint64pow10), ("loop.example/wayboard/impl.errNoPath", laid_loop_example_wayboard_impl_errNoPath)] }
def FnHijackSaid : Prop := fnHijackRow.holds Tryd.pinned (OpenSpec.ofChange fnHijackSpec)

/-- ITS FALSE NEIGHBOUR: 'it returns false'. Refute it at one input. -/
def fnHijackWrong : ChangeSpec := { name := "fnHijack", vars := ["loop.example/wayboard/impl.errNoPath"], fn := fun _ => fun
  | [d1, d2, g1] => { results := [.lit (.bool false)], args := [d1, d2], vars := [g1] }
  | _ => none }
def FnHijackWrongFalsely : Prop := fnHijackRow.holds Tryd.pinned (OpenSpec.ofChange fnHijackWrong)

/-- 'laws.FnShorten': WHATEVER THE INPUT: true; the input reads as it did. -/
def fnShortenSpec : ChangeSpec := { name := "fnShorten", vars := ["loop.example/wayboard/impl.errNoPath"], fn := fun _ => fun
  | [d1, d2, g1] => { results := [.lit (.bool true)], args := [d1, d2], vars := [g1] }
  | _ => none }
def fnShortenRow : OpenClaim := { program := "ytnnmgbgkgnejlaadoor", sum := "99dfc0641086bc76b71f0bf692402e7a6b9c7f812802ca61db11f0d6b5524abe", func := "loop.example/wayboard/laws.FnShorten", spec := "fnShorten", inPlace := ["internal/reflectlite.TypeOf"], unfollowed := true, recurses := true, named := ["loop.example/wayboard/impl.errNoPath", "internal/strconv.uint64pow10", "math/bits.deBruijn32tab", "math/bits.deBruijn64tab"], ifaces := true, plainKeys := false, apart := false, laid := [("math/bits.deBruijn32tab", laid_math_bits_deBruijn32tab), ("math/bits.deBruijn64tab", laid_math_bits_deBruijn64tab), ("internal/strconv.uint64pow10", laid_internal_strconv_uint64pow10), ("loop.example/wayboard/impl.errNoPath", laid_loop_example_wayboard_impl_errNoPath)] }
def FnShortenSaid : Prop := fnShortenRow.holds Tryd.pinned (OpenSpec.ofChange fnShortenSpec)

/-- ITS FALSE NEIGHBOUR: 'it returns false'. Refute it at one input. -/
def fnShortenWrong : ChangeSpec := { name := "fnShorten", vars := ["loop.example/wayboard/impl.errNoPath"], fn := fun _ => fun
  | [d1, d2, g1] => { results := [.lit (.bool false)], args := [d1, d2], vars := [g1] }
  | _ => none }
def FnShortenWrongFalsely : Prop := fnShortenRow.holds Tryd.pinned (OpenSpec.ofChange fnShortenWrong)

/-- 'laws.FnSealRange': WHATEVER THE INPUT: true; the input reads as it did. -/
def fnSealRangeSpec : ChangeSpec := { name := "fnSealRange", vars := ["loop.example/wayboard/impl.errNoPath"], fn := fun _ => fun
  | [d, g1] => { results := [.lit (.bool true)], args := [d], vars := [g1] }
  | _ => none }
def fnSealRangeRow : OpenClaim := { program := "ytnnmgbgkgnejlaadoor", sum := "99dfc0641086bc76b71f0bf692402e7a6b9c7f812802ca61db11f0d6b5524abe", func := "loop.example/wayboard/laws.FnSealRange", spec := "fnSealRange", inPlace := ["internal/reflectlite.TypeOf"], unfollowed := true, recurses := true, named := ["loop.example/wayboard/impl.errNoPath", "internal/strconv.uint64pow10", "math/bits.deBruijn32tab", "math/bits.deBruijn64tab"], ifaces := true, plainKeys := false, apart := false, laid := [("math/bits.deBruijn32tab", laid_math_bits_deBruijn32tab), ("math/bits.deBruijn64tab", laid_math_bits_deBruijn64tab), ("internal/strconv.uint64pow10", laid_internal_strconv_uint64pow10), ("loop.example/wayboard/impl.errNoPath", laid_loop_example_wayboard_impl_errNoPath)] }
def FnSealRangeSaid : Prop := fnSealRangeRow.holds Tryd.pinned (OpenSpec.ofChange fnSealRangeSpec)

/-- ITS FALSE NEIGHBOUR: 'it returns false'. Refute it at one input. -/
def fnSealRangeWrong : ChangeSpec := { name := "fnSealRange", vars := ["loop.example/wayboard/impl.errNoPath"], fn := fun _ => fun
  | [d, g1] => { results := [.lit (.bool false)], args := [d], vars := [g1] }
  | _ => none }
def FnSealRangeWrongFalsely : Prop := fnSealRangeRow.holds Tryd.pinned (OpenSpec.ofChange fnSealRangeWrong)

/-- 'laws.FnSealMore': WHATEVER THE INPUT: true; the input reads as it did. -/
def fnSealMoreSpec : ChangeSpec := { name := "fnSealMore", vars := ["loop.example/wayboard/impl.errNoPath"], fn := fun _ => fun
  | [d1, d2, g1] => { results := [.lit (.bool true)], args := [d1, d2], vars := [g1] }
  | _ => none }
def fnSealMoreRow : OpenClaim := { program := "ytnnmgbgkgnejlaadoor", sum := "99dfc0641086bc76b71f0bf692402e7a6b9c7f812802ca61db11f0d6b5524abe", func := "loop.example/wayboard/laws.FnSealMore", spec := "fnSealMore", inPlace := ["internal/reflectlite.TypeOf"], unfollowed := true, recurses := true, named := ["loop.example/wayboard/impl.errNoPath", "internal/strconv.uint64pow10", "math/bits.deBruijn32tab", "math/bits.deBruijn64tab"], ifaces := true, plainKeys := false, apart := false, laid := [("math/bits.deBruijn32tab", laid_math_bits_deBruijn32tab), ("math/bits.deBruijn64tab", laid_math_bits_deBruijn64tab), ("internal/strconv.uint64pow10", laid_internal_strconv_uint64pow10), ("loop.example/wayboard/impl.errNoPath", laid_loop_example_wayboard_impl_errNoPath)] }
def FnSealMoreSaid : Prop := fnSealMoreRow.holds Tryd.pinned (OpenSpec.ofChange fnSealMoreSpec)

/-- ITS FALSE NEIGHBOUR: 'it returns false'. Refute it at one input. -/
def fnSealMoreWrong : ChangeSpec := { name := "fnSealMore", vars := ["loop.example/wayboard/impl.errNoPath"], fn := fun _ => fun
  | [d1, d2, g1] => { results := [.lit (.bool false)], args := [d1, d2], vars := [g1] }
  | _ => none }
def FnSealMoreWrongFalsely : Prop := fnSealMoreRow.holds Tryd.pinned (OpenSpec.ofChange fnSealMoreWrong)

/-- 'laws.FnSealTold': WHATEVER THE INPUT: true; the input reads as it did. -/
def fnSealToldSpec : ChangeSpec := { name := "fnSealTold", vars := ["loop.example/wayboard/impl.errNoPath"], fn := fun _ => fun
  | [d1, d2, g1] => { results := [.lit (.bool true)], args := [d1, d2], vars := [g1] }
  | _ => none }
def fnSealToldRow : OpenClaim := { program := "ytnnmgbgkgnejlaadoor", sum := "99dfc0641086bc76b71f0bf692402e7a6b9c7f812802ca61db11f0d6b5524abe", func := "loop.example/wayboard/laws.FnSealTold", spec := "fnSealTold", inPlace := ["internal/reflectlite.TypeOf"], unfollowed := true, recurses := true, named := ["loop.example/wayboard/impl.errNoPath", "internal/strconv.uint64pow10", "math/bits.deBruijn32tab", "math/bits.deBruijn64tab"], ifaces := true, plainKeys := false, apart := false, laid := [("math/bits.deBruijn32tab", laid_math_bits_deBruijn32tab), ("math/bits.deBruijn64tab", laid_math_bits_deBruijn64tab), ("internal/strconv.uint64pow10", laid_internal_strconv_uint64pow10), ("loop.example/wayboard/impl.errNoPath", laid_loop_example_wayboard_impl_errNoPath)] }
def FnSealToldSaid : Prop := fnSealToldRow.holds Tryd.pinned (OpenSpec.ofChange fnSealToldSpec)

/-- ITS FALSE NEIGHBOUR: 'it returns false'. Refute it at one input. -/
def fnSealToldWrong : ChangeSpec := { name := "fnSealTold", vars := ["loop.example/wayboard/impl.errNoPath"], fn := fun _ => fun
  | [d1, d2, g1] => { results := [.lit (.bool false)], args := [d1, d2], vars := [g1] }
  | _ => none }
def FnSealToldWrongFalsely : Prop := fnSealToldRow.holds Tryd.pinned (OpenSpec.ofChange fnSealToldWrong)

/-- 'laws.FnExactSealMake': WHATEVER THE INPUT: true; the input reads as it did. -/
def fnExactSealMakeSpec : ChangeSpec := { name := "fnExactSealMake", vars := ["loop.example/wayboard/impl.errNoPath"], fn := fun _ => fun
  | [d1, d2, g1] => { results := [.lit (.bool true)], args := [d1, d2], vars := [g1] }
  | _ => none }
def fnExactSealMakeRow : OpenClaim := { program := "ytnnmgbgkgnejlaadoor", sum := "99dfc0641086bc76b71f0bf692402e7a6b9c7f812802ca61db11f0d6b5524abe", func := "loop.example/wayboard/laws.FnExactSealMake", spec := "fnExactSealMake", inPlace := ["internal/reflectlite.TypeOf"], unfollowed := true, recurses := true, named := ["loop.example/wayboard/impl.errNoPath"], ifaces := true, plainKeys := false, apart := false, laid := [("loop.example/wayboard/impl.errNoPath", laid_loop_example_wayboard_impl_errNoPath)] }
def FnExactSealMakeSaid : Prop := fnExactSealMakeRow.holds Tryd.pinned (OpenSpec.ofChange fnExactSealMakeSpec)

/-- ITS FALSE NEIGHBOUR: 'it returns false'. Refute it at one input. -/
def fnExactSealMakeWrong : ChangeSpec := { name := "fnExactSealMake", vars := ["loop.example/wayboard/impl.errNoPath"], fn := fun _ => fun
  | [d1, d2, g1] => { results := [.lit (.bool false)], args := [d1, d2], vars := [g1] }
  | _ => none }
def FnExactSealMakeWrongFalsely : Prop := fnExactSealMakeRow.holds Tryd.pinned (OpenSpec.ofChange fnExactSealMakeWrong)

/-- 'laws.FnExactSealHas': WHATEVER THE INPUT: true; the input reads as it did. -/
def fnExactSealHasSpec : ChangeSpec := { name := "fnExactSealHas", fn := fun _ => fun
  | [d1, d2] => { results := [.lit (.bool true)], args := [d1, d2] }
  | _ => none }
def fnExactSealHasRow : OpenClaim := { program := "ytnnmgbgkgnejlaadoor", sum := "99dfc0641086bc76b71f0bf692402e7a6b9c7f812802ca61db11f0d6b5524abe", func := "loop.example/wayboard/laws.FnExactSealHas", spec := "fnExactSealHas", named := ["internal/strconv.uint64pow10", "math/bits.deBruijn32tab", "math/bits.deBruijn64tab"], plainKeys := false, apart := false, laid := [("math/bits.deBruijn32tab", laid_math_bits_deBruijn32tab), ("math/bits.deBruijn64tab", laid_math_bits_deBruijn64tab), ("internal/strconv.uint64pow10", laid_internal_strconv_uint64pow10)] }
def FnExactSealHasSaid : Prop := fnExactSealHasRow.holds Tryd.pinned (OpenSpec.ofChange fnExactSealHasSpec)

/-- ITS FALSE NEIGHBOUR: 'it returns false'. Refute it at one input. -/
def fnExactSealHasWrong : ChangeSpec := { name := "fnExactSealHas", fn := fun _ => fun
  | [d1, d2] => { results := [.lit (.bool false)], args := [d1, d2] }
  | _ => none }
def FnExactSealHasWrongFalsely : Prop := fnExactSealHasRow.holds Tryd.pinned (OpenSpec.ofChange fnExactSealHasWrong)

/-- 'laws.FnExactSealLacks': WHATEVER THE INPUT: true; the input reads as it did. -/
def fnExactSealLacksSpec : ChangeSpec := { name := "fnExactSealLacks", vars := ["loop.example/wayboard/impl.errNoPath"], fn := fun _ => fun
  | [d1, d2, d3, d4, g1] => { results := [.lit (.bool true)], args := [d1, d2, d3, d4], vars := [g1] }
  | _ => none }
def fnExactSealLacksRow : OpenClaim := { program := "ytnnmgbgkgnejlaadoor", sum := "99dfc0641086bc76b71f0bf692402e7a6b9c7f812802ca61db11f0d6b5524abe", func := "loop.example/wayboard/laws.FnExactSealLacks", spec := "fnExactSealLacks", inPlace := ["internal/reflectlite.TypeOf"], unfollowed := true, recurses := true, named := ["loop.example/wayboard/impl.errNoPath", "internal/strconv.uint64pow10", "math/bits.deBruijn32tab", "math/bits.deBruijn64tab"], ifaces := true, plainKeys := false, apart := false, laid := [("math/bits.deBruijn32tab", laid_math_bits_deBruijn32tab), ("math/bits.deBruijn64tab", laid_math_bits_deBruijn64tab), ("internal/strconv.uint64pow10", laid_internal_strconv_uint64pow10), ("loop.example/wayboard/impl.errNoPath", laid_loop_example_wayboard_impl_errNoPath)] }
def FnExactSealLacksSaid : Prop := fnExactSealLacksRow.holds Tryd.pinned (OpenSpec.ofChange fnExactSealLacksSpec)

/-- ITS FALSE NEIGHBOUR: 'it returns false'. Refute it at one input. -/
def fnExactSealLacksWrong : ChangeSpec := { name := "fnExactSealLacks", vars := ["loop.example/wayboard/impl.errNoPath"], fn := fun _ => fun
  | [d1, d2, d3, d4, g1] => { results := [.lit (.bool false)], args := [d1, d2, d3, d4], vars := [g1] }
  | _ => none }
def FnExactSealLacksWrongFalsely : Prop := fnExactSealLacksRow.holds Tryd.pinned (OpenSpec.ofChange fnExactSealLacksWrong)

/-- 'laws.FnExactSealOk': WHATEVER THE INPUT: true; the input reads as it did. -/
def fnExactSealOkSpec : ChangeSpec := { name := "fnExactSealOk", vars := ["loop.example/wayboard/impl.errNoPath"], fn := fun _ => fun
  | [d1, d2, d3, d4, g1] => { results := [.lit (.bool true)], args := [d1, d2, d3, d4], vars := [g1] }
  | _ => none }
def fnExactSealOkRow : OpenClaim := { program := "ytnnmgbgkgnejlaadoor", sum := "99dfc0641086bc76b71f0bf692402e7a6b9c7f812802ca61db11f0d6b5524abe", func := "loop.example/wayboard/laws.FnExactSealOk", spec := "fnExactSealOk", inPlace := ["internal/reflectlite.TypeOf"], unfollowed := true, recurses := true, named := ["loop.example/wayboard/impl.errNoPath", "internal/strconv.uint64pow10", "math/bits.deBruijn32tab", "math/bits.deBruijn64tab"], ifaces := true, plainKeys := false, apart := false, laid := [("math/bits.deBruijn32tab", laid_math_bits_deBruijn32tab), ("math/bits.deBruijn64tab", laid_math_bits_deBruijn64tab), ("internal/strconv.uint64pow10", laid_internal_strconv_uint64pow10), ("loop.example/wayboard/impl.errNoPath", laid_loop_example_wayboard_impl_errNoPath)] }
def FnExactSealOkSaid : Prop := fnExactSealOkRow.holds Tryd.pinned (OpenSpec.ofChange fnExactSealOkSpec)

/-- ITS FALSE NEIGHBOUR: 'it returns false'. Refute it at one input. -/
def fnExactSealOkWrong : ChangeSpec := { name := "fnExactSealOk", vars := ["loop.example/wayboard/impl.errNoPath"], fn := fun _ => fun
  | [d1, d2, d3, d4, g1] => { results := [.lit (.bool false)], args := [d1, d2, d3, d4], vars := [g1] }
  | _ => none }
def FnExactSealOkWrongFalsely : Prop := fnExactSealOkRow.holds Tryd.pinned (OpenSpec.ofChange fnExactSealOkWrong)

/- THE SECOND FORM. 'bulk': how many values and letters a reading holds, each counted each time it is reached (what is shared counts as often as it is met; a slice's spare places count too). A statement '..UptoSaid' is the law's where the arguments, and the package variables that the reading takes, are together of bulk at most 1048576: NARROWER than '..Said'. Prove '..Said' where nothing that the law and all that it calls make is longer than what came in: it says more and counts as full. Else prove '..UptoSaid'. A law counts once. -/
mutual
def uptoBulk {H : Type} : DataW H → Nat
  | .lit (.string bytes) => bytes.length + 1
  | .lit _ => 1
  | .nil => 1
  | .ptr d => uptoBulk d + 1
  | .slice elems spare => uptoBulkAll elems + uptoBulkAll spare + 1
  | .agg parts => uptoBulkAll parts + 1
  | .iface _ d => uptoBulk d + 1
  | .map entries => uptoBulkEntries entries + 1
  | .held _ => 1
def uptoBulkAll {H : Type} : List (DataW H) → Nat
  | [] => 0
  | d :: r => uptoBulk d + uptoBulkAll r
def uptoBulkEntries {H : Type} : List (Lit × DataW H) → Nat
  | [] => 0
  | x :: r => uptoBulkEntry x + uptoBulkEntries r
def uptoBulkEntry {H : Type} : Lit × DataW H → Nat
  | (.string bytes, d) => bytes.length + uptoBulk d + 1
  | (_, d) => uptoBulk d + 1
 end
def uptoSmall : (H : Type) → List (DataW H) → Bool := fun _ ds => decide (uptoBulkAll ds ≤ 1048576)
def OpenSpec.upto (s : _root_.Go.ChangeSpec) : _root_.Go.OpenSpec := { _root_.Go.OpenSpec.ofChange s with cond := some uptoSmall }

/-- 'laws.FnSealMake', WHERE WHAT IT READS IS OF BULK AT MOST 1048576: true; the input reads as it did. -/
def fnSealMakeUptoRow : OpenClaim := { program := "ytnnmgbgkgnejlaadoor", sum := "99dfc0641086bc76b71f0bf692402e7a6b9c7f812802ca61db11f0d6b5524abe", func := "loop.example/wayboard/laws.FnSealMake", spec := "fnSealMake", inPlace := ["internal/reflectlite.TypeOf"], unfollowed := true, recurses := true, named := ["loop.example/wayboard/impl.errNoPath", "internal/strconv.uint64pow10", "math/bits.deBruijn32tab", "math/bits.deBruijn64tab"], ifaces := true, plainKeys := false, apart := false, laid := [("math/bits.deBruijn32tab", laid_math_bits_deBruijn32tab), ("math/bits.deBruijn64tab", laid_math_bits_deBruijn64tab), ("internal/strconv.uint64pow10", laid_internal_strconv_uint64pow10), ("loop.example/wayboard/impl.errNoPath", laid_loop_example_wayboard_impl_errNoPath)], narrowed := true }
def FnSealMakeUptoSaid : Prop := fnSealMakeUptoRow.holds Tryd.pinned (OpenSpec.upto fnSealMakeSpec)

/-- 'laws.FnSealHas', WHERE WHAT IT READS IS OF BULK AT MOST 1048576: true; the input reads as it did. -/
def fnSealHasUptoRow : OpenClaim := { program := "ytnnmgbgkgnejlaadoor", sum := "99dfc0641086bc76b71f0bf692402e7a6b9c7f812802ca61db11f0d6b5524abe", func := "loop.example/wayboard/laws.FnSealHas", spec := "fnSealHas", named := ["internal/strconv.uint64pow10", "math/bits.deBruijn32tab", "math/bits.deBruijn64tab"], plainKeys := false, apart := false, laid := [("math/bits.deBruijn32tab", laid_math_bits_deBruijn32tab), ("math/bits.deBruijn64tab", laid_math_bits_deBruijn64tab), ("internal/strconv.uint64pow10", laid_internal_strconv_uint64pow10)], narrowed := true }
def FnSealHasUptoSaid : Prop := fnSealHasUptoRow.holds Tryd.pinned (OpenSpec.upto fnSealHasSpec)

/-- 'laws.FnSealLacks', WHERE WHAT IT READS IS OF BULK AT MOST 1048576: true; the input reads as it did. -/
def fnSealLacksUptoRow : OpenClaim := { program := "ytnnmgbgkgnejlaadoor", sum := "99dfc0641086bc76b71f0bf692402e7a6b9c7f812802ca61db11f0d6b5524abe", func := "loop.example/wayboard/laws.FnSealLacks", spec := "fnSealLacks", inPlace := ["internal/reflectlite.TypeOf"], unfollowed := true, recurses := true, named := ["loop.example/wayboard/impl.errNoPath", "internal/strconv.uint64pow10", "math/bits.deBruijn32tab", "math/bits.deBruijn64tab"], ifaces := true, plainKeys := false, apart := false, laid := [("math/bits.deBruijn32tab", laid_math_bits_deBruijn32tab), ("math/bits.deBruijn64tab", laid_math_bits_deBruijn64tab), ("internal/strconv.uint64pow10", laid_internal_strconv_uint64pow10), ("loop.example/wayboard/impl.errNoPath", laid_loop_example_wayboard_impl_errNoPath)], narrowed := true }
def FnSealLacksUptoSaid : Prop := fnSealLacksUptoRow.holds Tryd.pinned (OpenSpec.upto fnSealLacksSpec)

/-- 'laws.FnSealOk', WHERE WHAT IT READS IS OF BULK AT MOST 1048576: true; the input reads as it did. -/
def fnSealOkUptoRow : OpenClaim := { program := "ytnnmgbgkgnejlaadoor", sum := "99dfc0641086bc76b71f0bf692402e7a6b9c7f812802ca61db11f0d6b5524abe", func := "loop.example/wayboard/laws.FnSealOk", spec := "fnSealOk", inPlace := ["internal/reflectlite.TypeOf"], unfollowed := true, recurses := true, named := ["loop.example/wayboard/impl.errNoPath", "internal/strconv.uint64pow10", "math/bits.deBruijn32tab", "math/bits.deBruijn64tab"], ifaces := true, plainKeys := false, apart := false, laid := [("math/bits.deBruijn32tab", laid_math_bits_deBruijn32tab), ("math/bits.deBruijn64tab", laid_math_bits_deBruijn64tab), ("internal/strconv.uint64pow10", laid_internal_strconv_uint64pow10), ("loop.example/wayboard/impl.errNoPath", laid_loop_example_wayboard_impl_errNoPath)], narrowed := true }
def FnSealOkUptoSaid : Prop := fnSealOkUptoRow.holds Tryd.pinned (OpenSpec.upto fnSealOkSpec)

/-- 'laws.FnHijack', WHERE WHAT IT READS IS OF BULK AT MOST 1048576: true; the input reads as it did. -/
def fnHijackUptoRow : OpenClaim := { program := "ytnnmgbgkgnejlaadoor", sum := "99dfc0641086bc76b71f0bf692402e7a6b9c7f812802ca61db11f0d6b5524abe", func := "loop.example/wayboard/laws.FnHijack", spec := "fnHijack", inPlace := ["internal/reflectlite.TypeOf"], unfollowed := true, recurses := true, named := ["loop.example/wayboard/impl.errNoPath", "internal/strconv.uint64pow10", "math/bits.deBruijn32tab", "math/bits.deBruijn64tab"], ifaces := true, plainKeys := false, apart := false, laid := [("math/bits.deBruijn32tab", laid_math_bits_deBruijn32tab), ("math/bits.deBruijn64tab", laid_math_bits_deBruijn64tab), ("internal/strconv.uint64pow10", laid_internal_strconv_uint64pow10), ("loop.example/wayboard/impl.errNoPath", laid_loop_example_wayboard_impl_errNoPath)], narrowed := true }
def FnHijackUptoSaid : Prop := fnHijackUptoRow.holds Tryd.pinned (OpenSpec.upto fnHijackSpec)

/-- 'laws.FnShorten', WHERE WHAT IT READS IS OF BULK AT MOST 1048576: true; the input reads as it did. -/
def fnShortenUptoRow : OpenClaim := { program := "ytnnmgbgkgnejlaadoor", sum := "99dfc0641086bc76b71f0bf692402e7a6b9c7f812802ca61db11f0d6b5524abe", func := "loop.example/wayboard/laws.FnShorten", spec := "fnShorten", inPlace := ["internal/reflectlite.TypeOf"], unfollowed := true, recurses := true, named := ["loop.example/wayboard/impl.errNoPath", "internal/strconv.uint64pow10", "math/bits.deBruijn32tab", "math/bits.deBruijn64tab"], ifaces := true, plainKeys := false, apart := false, laid := [("math/bits.deBruijn32tab", laid_math_bits_deBruijn32tab), ("math/bits.deBruijn64tab", laid_math_bits_deBruijn64tab), ("internal/strconv.uint64pow10", laid_internal_strconv_uint64pow10), ("loop.example/wayboard/impl.errNoPath", laid_loop_example_wayboard_impl_errNoPath)], narrowed := true }
def FnShortenUptoSaid : Prop := fnShortenUptoRow.holds Tryd.pinned (OpenSpec.upto fnShortenSpec)

/-- 'laws.FnSealRange', WHERE WHAT IT READS IS OF BULK AT MOST 1048576: true; the input reads as it did. -/
def fnSealRangeUptoRow : OpenClaim := { program := "ytnnmgbgkgnejlaadoor", sum := "99dfc0641086bc76b71f0bf692402e7a6b9c7f812802ca61db11f0d6b5524abe", func := "loop.example/wayboard/laws.FnSealRange", spec := "fnSealRange", inPlace := ["internal/reflectlite.TypeOf"], unfollowed := true, recurses := true, named := ["loop.example/wayboard/impl.errNoPath", "internal/strconv.uint64pow10", "math/bits.deBruijn32tab", "math/bits.deBruijn64tab"], ifaces := true, plainKeys := false, apart := false, laid := [("math/bits.deBruijn32tab", laid_math_bits_deBruijn32tab), ("math/bits.deBruijn64tab", laid_math_bits_deBruijn64tab), ("internal/strconv.uint64pow10", laid_internal_strconv_uint64pow10), ("loop.example/wayboard/impl.errNoPath", laid_loop_example_wayboard_impl_errNoPath)], narrowed := true }
def FnSealRangeUptoSaid : Prop := fnSealRangeUptoRow.holds Tryd.pinned (OpenSpec.upto fnSealRangeSpec)

/-- 'laws.FnSealMore', WHERE WHAT IT READS IS OF BULK AT MOST 1048576: true; the input reads as it did. -/
def fnSealMoreUptoRow : OpenClaim := { program := "ytnnmgbgkgnejlaadoor", sum := "99dfc0641086bc76b71f0bf692402e7a6b9c7f812802ca61db11f0d6b5524abe", func := "loop.example/wayboard/laws.FnSealMore", spec := "fnSealMore", inPlace := ["internal/reflectlite.TypeOf"], unfollowed := true, recurses := true, named := ["loop.example/wayboard/impl.errNoPath", "internal/strconv.uint64pow10", "math/bits.deBruijn32tab", "math/bits.deBruijn64tab"], ifaces := true, plainKeys := false, apart := false, laid := [("math/bits.deBruijn32tab", laid_math_bits_deBruijn32tab), ("math/bits.deBruijn64tab", laid_math_bits_deBruijn64tab), ("internal/strconv.uint64pow10", laid_internal_strconv_uint64pow10), ("loop.example/wayboard/impl.errNoPath", laid_loop_example_wayboard_impl_errNoPath)], narrowed := true }
def FnSealMoreUptoSaid : Prop := fnSealMoreUptoRow.holds Tryd.pinned (OpenSpec.upto fnSealMoreSpec)

/-- 'laws.FnSealTold', WHERE WHAT IT READS IS OF BULK AT MOST 1048576: true; the input reads as it did. -/
def fnSealToldUptoRow : OpenClaim := { program := "ytnnmgbgkgnejlaadoor", sum := "99dfc0641086bc76b71f0bf692402e7a6b9c7f812802ca61db11f0d6b5524abe", func := "loop.example/wayboard/laws.FnSealTold", spec := "fnSealTold", inPlace := ["internal/reflectlite.TypeOf"], unfollowed := true, recurses := true, named := ["loop.example/wayboard/impl.errNoPath", "internal/strconv.uint64pow10", "math/bits.deBruijn32tab", "math/bits.deBruijn64tab"], ifaces := true, plainKeys := false, apart := false, laid := [("math/bits.deBruijn32tab", laid_math_bits_deBruijn32tab), ("math/bits.deBruijn64tab", laid_math_bits_deBruijn64tab), ("internal/strconv.uint64pow10", laid_internal_strconv_uint64pow10), ("loop.example/wayboard/impl.errNoPath", laid_loop_example_wayboard_impl_errNoPath)], narrowed := true }
def FnSealToldUptoSaid : Prop := fnSealToldUptoRow.holds Tryd.pinned (OpenSpec.upto fnSealToldSpec)

/-- 'laws.FnExactSealMake', WHERE WHAT IT READS IS OF BULK AT MOST 1048576: true; the input reads as it did. -/
def fnExactSealMakeUptoRow : OpenClaim := { program := "ytnnmgbgkgnejlaadoor", sum := "99dfc0641086bc76b71f0bf692402e7a6b9c7f812802ca61db11f0d6b5524abe", func := "loop.example/wayboard/laws.FnExactSealMake", spec := "fnExactSealMake", inPlace := ["internal/reflectlite.TypeOf"], unfollowed := true, recurses := true, named := ["loop.example/wayboard/impl.errNoPath"], ifaces := true, plainKeys := false, apart := false, laid := [("loop.example/wayboard/impl.errNoPath", laid_loop_example_wayboard_impl_errNoPath)], narrowed := true }
def FnExactSealMakeUptoSaid : Prop := fnExactSealMakeUptoRow.holds Tryd.pinned (OpenSpec.upto fnExactSealMakeSpec)

/-- 'laws.FnExactSealHas', WHERE WHAT IT READS IS OF BULK AT MOST 1048576: true; the input reads as it did. -/
def fnExactSealHasUptoRow : OpenClaim := { program := "ytnnmgbgkgnejlaadoor", sum := "99dfc0641086bc76b71f0bf692402e7a6b9c7f812802ca61db11f0d6b5524abe", func := "loop.example/wayboard/laws.FnExactSealHas", spec := "fnExactSealHas", named := ["internal/strconv.uint64pow10", "math/bits.deBruijn32tab", "math/bits.deBruijn64tab"], plainKeys := false, apart := false, laid := [("math/bits.deBruijn32tab", laid_math_bits_deBruijn32tab), ("math/bits.deBruijn64tab", laid_math_bits_deBruijn64tab), ("internal/strconv.uint64pow10", laid_internal_strconv_uint64pow10)], narrowed := true }
def FnExactSealHasUptoSaid : Prop := fnExactSealHasUptoRow.holds Tryd.pinned (OpenSpec.upto fnExactSealHasSpec)

/-- 'laws.FnExactSealLacks', WHERE WHAT IT READS IS OF BULK AT MOST 1048576: true; the input reads as it did. -/
def fnExactSealLacksUptoRow : OpenClaim := { program := "ytnnmgbgkgnejlaadoor", sum := "99dfc0641086bc76b71f0bf692402e7a6b9c7f812802ca61db11f0d6b5524abe", func := "loop.example/wayboard/laws.FnExactSealLacks", spec := "fnExactSealLacks", inPlace := ["internal/reflectlite.TypeOf"], unfollowed := true, recurses := true, named := ["loop.example/wayboard/impl.errNoPath", "internal/strconv.uint64pow10", "math/bits.deBruijn32tab", "math/bits.deBruijn64tab"], ifaces := true, plainKeys := false, apart := false, laid := [("math/bits.deBruijn32tab", laid_math_bits_deBruijn32tab), ("math/bits.deBruijn64tab", laid_math_bits_deBruijn64tab), ("internal/strconv.uint64pow10", laid_internal_strconv_uint64pow10), ("loop.example/wayboard/impl.errNoPath", laid_loop_example_wayboard_impl_errNoPath)], narrowed := true }
def FnExactSealLacksUptoSaid : Prop := fnExactSealLacksUptoRow.holds Tryd.pinned (OpenSpec.upto fnExactSealLacksSpec)

/-- 'laws.FnExactSealOk', WHERE WHAT IT READS IS OF BULK AT MOST 1048576: true; the input reads as it did. -/
def fnExactSealOkUptoRow : OpenClaim := { program := "ytnnmgbgkgnejlaadoor", sum := "99dfc0641086bc76b71f0bf692402e7a6b9c7f812802ca61db11f0d6b5524abe", func := "loop.example/wayboard/laws.FnExactSealOk", spec := "fnExactSealOk", inPlace := ["internal/reflectlite.TypeOf"], unfollowed := true, recurses := true, named := ["loop.example/wayboard/impl.errNoPath", "internal/strconv.uint64pow10", "math/bits.deBruijn32tab", "math/bits.deBruijn64tab"], ifaces := true, plainKeys := false, apart := false, laid := [("math/bits.deBruijn32tab", laid_math_bits_deBruijn32tab), ("math/bits.deBruijn64tab", laid_math_bits_deBruijn64tab), ("internal/strconv.uint64pow10", laid_internal_strconv_uint64pow10), ("loop.example/wayboard/impl.errNoPath", laid_loop_example_wayboard_impl_errNoPath)], narrowed := true }
def FnExactSealOkUptoSaid : Prop := fnExactSealOkUptoRow.holds Tryd.pinned (OpenSpec.upto fnExactSealOkSpec)

end Rows
end Go.Proofs.YtnnmgbgkgnejlaaDoor
