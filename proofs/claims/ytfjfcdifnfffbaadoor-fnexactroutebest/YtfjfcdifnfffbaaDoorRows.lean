/-
  NARROWER THAN 'FOR EVERY INPUT', by the rows' own cells (each row's printed sentence says how): FnMark: ifaces, laid · FnClear: ifaces, laid · FnMarkOrder: ifaces, laid · FnRouteCmp: ifaces, laid · FnBest: ifaces, laid · FnBestOrder: ifaces, laid · FnRouteText: ifaces, laid · FnRouteForm: ifaces, laid · FnRouteThree: ifaces, laid · FnBestMore: ifaces, laid · FnMarkCmp: ifaces, laid · FnExactRouteOk: ifaces, laid · FnExactRouteMark: ifaces, laid · FnExactRouteClear: ifaces, laid · FnExactRouteCmp: ifaces, laid · FnExactRouteBest: ifaces, laid · FnExactRouteText: ifaces, laid.
  DERIVED. THE GIVEN ROWS OF THIS SEAT. 17 by the template 'for every input the law returns true; each argument reads behind the call as it read before'; 0 by the template 'total and deterministic' (their statements: YtfjfcdifnfffbaaDoorTotals.lean).
  GIVEN WITH THE SEED: the statements are not yours to turn. If you find one false, say at which input.
  Laid BY PROGRAM, IN A SANDBOX (cutbox-rows.mjs): the forced cells as the released guide's own fill.sh prints them over the translation de13fd23ee5a8784… (all of the seat's roots in one cut). By AI agents, Wed Nov 11 2026. No macro, syntax, notation, axiom, sorry.
-/
import Derived.Test.YtfjfcdifnfffbaaDoorChecked
import GoSem.Claim
import GoSem.ClaimJoined
import GoSem.ClaimMapViews
import Derived.JoinedTies
import Derived.KernelRfl
namespace Go.Proofs.YtfjfcdifnfffbaaDoor
/- THE CELL 'sum', in the pinned program and in every row, IS THE sha256 OF THE DUMP (.gsa) THAT YtfjfcdifnfffbaaDoorProg.lean LOADS. Nothing in Lean hashes anything: it is a label: what it is worth is what the hold of that sum in a sandbox is worth. -/
noncomputable def Tryd.pinned : Pinned := { name := "ytfjfcdifnfffbaadoor", sum := "de13fd23ee5a8784b01a8c09534e439c370ad518bd9bcc6a0f8baaaa0706e34b", checked := Tryd.checked }
namespace Rows
def none {H : Type} : Left H := { results := [], args := [] }

/- WHAT THE LISTED PACKAGE-LEVEL VARIABLES READ AS WHEN THE CALL BEGINS. Each datum BY PROGRAM (the guide's laid-datum.mjs) off the statement by which the dump's own 'gosem.cut.vars' lays the variable. In a bare row this is a premise. The card (YtfjfcdifnfffbaaDoorCards.lean) ties it to the program's text. -/
def laid_loop_example_wayboard_impl_errNoPath {H : Type} : DataW H := .iface "*errors.errorString" (.ptr (.agg [.lit (.string [97, 32, 112, 97, 116, 104, 32, 104, 97, 115, 32, 101, 97, 99, 104, 32, 104, 111, 117, 115, 101, 32, 97, 116, 32, 109, 111, 115, 116, 32, 111, 110, 99, 101, 44, 32, 97, 110, 100, 32, 110, 111, 116, 104, 105, 110, 103, 32, 101, 108, 115, 101])]))
def laid_math_bits_deBruijn32tab {H : Type} : DataW H := .agg [.lit (.int .u8 0), .lit (.int .u8 1), .lit (.int .u8 28), .lit (.int .u8 2), .lit (.int .u8 29), .lit (.int .u8 14), .lit (.int .u8 24), .lit (.int .u8 3), .lit (.int .u8 30), .lit (.int .u8 22), .lit (.int .u8 20), .lit (.int .u8 15), .lit (.int .u8 25), .lit (.int .u8 17), .lit (.int .u8 4), .lit (.int .u8 8), .lit (.int .u8 31), .lit (.int .u8 27), .lit (.int .u8 13), .lit (.int .u8 23), .lit (.int .u8 21), .lit (.int .u8 19), .lit (.int .u8 16), .lit (.int .u8 7), .lit (.int .u8 26), .lit (.int .u8 12), .lit (.int .u8 18), .lit (.int .u8 6), .lit (.int .u8 11), .lit (.int .u8 5), .lit (.int .u8 10), .lit (.int .u8 9)]
def laid_math_bits_deBruijn64tab {H : Type} : DataW H := .agg [.lit (.int .u8 0), .lit (.int .u8 1), .lit (.int .u8 56), .lit (.int .u8 2), .lit (.int .u8 57), .lit (.int .u8 49), .lit (.int .u8 28), .lit (.int .u8 3), .lit (.int .u8 61), .lit (.int .u8 58), .lit (.int .u8 42), .lit (.int .u8 50), .lit (.int .u8 38), .lit (.int .u8 29), .lit (.int .u8 17), .lit (.int .u8 4), .lit (.int .u8 62), .lit (.int .u8 47), .lit (.int .u8 59), .lit (.int .u8 36), .lit (.int .u8 45), .lit (.int .u8 43), .lit (.int .u8 51), .lit (.int .u8 22), .lit (.int .u8 53), .lit (.int .u8 39), .lit (.int .u8 33), .lit (.int .u8 30), .lit (.int .u8 24), .lit (.int .u8 18), .lit (.int .u8 12), .lit (.int .u8 5), .lit (.int .u8 63), .lit (.int .u8 55), .lit (.int .u8 48), .lit (.int .u8 27), .lit (.int .u8 60), .lit (.int .u8 41), .lit (.int .u8 37), .lit (.int .u8 16), .lit (.int .u8 46), .lit (.int .u8 35), .lit (.int .u8 44), .lit (.int .u8 21), .lit (.int .u8 52), .lit (.int .u8 32), .lit (.int .u8 23), .lit (.int .u8 11), .lit (.int .u8 54), .lit (.int .u8 26), .lit (.int .u8 40), .lit (.int .u8 15), .lit (.int .u8 34), .lit (.int .u8 20), .lit (.int .u8 31), .lit (.int .u8 10), .lit (.int .u8 25), .lit (.int .u8 14), .lit (.int .u8 19), .lit (.int .u8 9), .lit (.int .u8 13), .lit (.int .u8 8), .lit (.int .u8 7), .lit (.int .u8 6)]
def laid_internal_strconv_uint64pow10 {H : Type} : DataW H := .agg [.lit (.int .u64 1), .lit (.int .u64 10), .lit (.int .u64 100), .lit (.int .u64 1000), .lit (.int .u64 10000), .lit (.int .u64 100000), .lit (.int .u64 1000000), .lit (.int .u64 10000000), .lit (.int .u64 100000000), .lit (.int .u64 1000000000), .lit (.int .u64 10000000000), .lit (.int .u64 100000000000), .lit (.int .u64 1000000000000), .lit (.int .u64 10000000000000), .lit (.int .u64 100000000000000), .lit (.int .u64 1000000000000000), .lit (.int .u64 10000000000000000), .lit (.int .u64 100000000000000000), .lit (.int .u64 1000000000000000000), .lit (.int .u64 10000000000000000000)]

/-- 'laws.FnMark': WHATEVER THE INPUT: true; the input reads as it did. -/
def fnMarkSpec : ChangeSpec := { name := "fnMark", vars := ["loop.example/wayboard/impl.errNoPath"], fn := fun _ => fun
  | [d, g1] => { results := [.lit (.bool true)], args := [d], vars := [g1] }
  | _ => none }
def fnMarkRow : OpenClaim := { program := "ytfjfcdifnfffbaadoor", sum := "de13fd23ee5a8784b01a8c09534e439c370ad518bd9bcc6a0f8baaaa0706e34b", func := "loop.example/wayboard/laws.FnMark", spec := "fnMark", inPlace := ["internal/reflectlite.TypeOf", "slices.overlaps[int]"], unfollowed := true, recurses := true, named := ["loop.example/wayboard/impl.errNoPath"], ifaces := true, apart := false, laid := [("loop.example/wayboard/impl.errNoPath", laid_loop_example_wayboard_impl_errNoPath)] }
def FnMarkSaid : Prop := fnMarkRow.holds Tryd.pinned (OpenSpec.ofChange fnMarkSpec)

/-- ITS FALSE NEIGHBOUR: 'it returns false'. Refute it at one input. -/
def fnMarkWrong : ChangeSpec := { name := "fnMark", vars := ["loop.example/wayboard/impl.errNoPath"], fn := fun _ => fun
  | [d, g1] => { results := [.lit (.bool false)], args := [d], vars := [g1] }
  | _ => none }
def FnMarkWrongFalsely : Prop := fnMarkRow.holds Tryd.pinned (OpenSpec.ofChange fnMarkWrong)

/-- 'laws.FnClear': WHATEVER THE INPUT: true; the input reads as it did. -/
def fnClearSpec : ChangeSpec := { name := "fnClear", vars := ["loop.example/wayboard/impl.errNoPath"], fn := fun _ => fun
  | [d, g1] => { results := [.lit (.bool true)], args := [d], vars := [g1] }
  | _ => none }
def fnClearRow : OpenClaim := { program := "ytfjfcdifnfffbaadoor", sum := "de13fd23ee5a8784b01a8c09534e439c370ad518bd9bcc6a0f8baaaa0706e34b", func := "loop.example/wayboard/laws.FnClear", spec := "fnClear", inPlace := ["internal/reflectlite.TypeOf", "slices.overlaps[int]"], unfollowed := true, recurses := true, named := ["loop.example/wayboard/impl.errNoPath"], ifaces := true, apart := false, laid := [("loop.example/wayboard/impl.errNoPath", laid_loop_example_wayboard_impl_errNoPath)] }
def FnClearSaid : Prop := fnClearRow.holds Tryd.pinned (OpenSpec.ofChange fnClearSpec)

/-- ITS FALSE NEIGHBOUR: 'it returns false'. Refute it at one input. -/
def fnClearWrong : ChangeSpec := { name := "fnClear", vars := ["loop.example/wayboard/impl.errNoPath"], fn := fun _ => fun
  | [d, g1] => { results := [.lit (.bool false)], args := [d], vars := [g1] }
  | _ => none }
def FnClearWrongFalsely : Prop := fnClearRow.holds Tryd.pinned (OpenSpec.ofChange fnClearWrong)

/-- 'laws.FnMarkOrder': WHATEVER THE INPUT: true; the input reads as it did. -/
def fnMarkOrderSpec : ChangeSpec := { name := "fnMarkOrder", vars := ["loop.example/wayboard/impl.errNoPath"], fn := fun _ => fun
  | [d1, d2, g1] => { results := [.lit (.bool true)], args := [d1, d2], vars := [g1] }
  | _ => none }
def fnMarkOrderRow : OpenClaim := { program := "ytfjfcdifnfffbaadoor", sum := "de13fd23ee5a8784b01a8c09534e439c370ad518bd9bcc6a0f8baaaa0706e34b", func := "loop.example/wayboard/laws.FnMarkOrder", spec := "fnMarkOrder", inPlace := ["internal/reflectlite.TypeOf", "slices.overlaps[int]"], unfollowed := true, recurses := true, named := ["loop.example/wayboard/impl.errNoPath"], ifaces := true, apart := false, laid := [("loop.example/wayboard/impl.errNoPath", laid_loop_example_wayboard_impl_errNoPath)] }
def FnMarkOrderSaid : Prop := fnMarkOrderRow.holds Tryd.pinned (OpenSpec.ofChange fnMarkOrderSpec)

/-- ITS FALSE NEIGHBOUR: 'it returns false'. Refute it at one input. -/
def fnMarkOrderWrong : ChangeSpec := { name := "fnMarkOrder", vars := ["loop.example/wayboard/impl.errNoPath"], fn := fun _ => fun
  | [d1, d2, g1] => { results := [.lit (.bool false)], args := [d1, d2], vars := [g1] }
  | _ => none }
def FnMarkOrderWrongFalsely : Prop := fnMarkOrderRow.holds Tryd.pinned (OpenSpec.ofChange fnMarkOrderWrong)

/-- 'laws.FnRouteCmp': WHATEVER THE INPUT: true; the input reads as it did. -/
def fnRouteCmpSpec : ChangeSpec := { name := "fnRouteCmp", vars := ["loop.example/wayboard/impl.errNoPath"], fn := fun _ => fun
  | [d, g1] => { results := [.lit (.bool true)], args := [d], vars := [g1] }
  | _ => none }
def fnRouteCmpRow : OpenClaim := { program := "ytfjfcdifnfffbaadoor", sum := "de13fd23ee5a8784b01a8c09534e439c370ad518bd9bcc6a0f8baaaa0706e34b", func := "loop.example/wayboard/laws.FnRouteCmp", spec := "fnRouteCmp", inPlace := ["internal/reflectlite.TypeOf"], unfollowed := true, recurses := true, named := ["loop.example/wayboard/impl.errNoPath"], ifaces := true, apart := false, laid := [("loop.example/wayboard/impl.errNoPath", laid_loop_example_wayboard_impl_errNoPath)] }
def FnRouteCmpSaid : Prop := fnRouteCmpRow.holds Tryd.pinned (OpenSpec.ofChange fnRouteCmpSpec)

/-- ITS FALSE NEIGHBOUR: 'it returns false'. Refute it at one input. -/
def fnRouteCmpWrong : ChangeSpec := { name := "fnRouteCmp", vars := ["loop.example/wayboard/impl.errNoPath"], fn := fun _ => fun
  | [d, g1] => { results := [.lit (.bool false)], args := [d], vars := [g1] }
  | _ => none }
def FnRouteCmpWrongFalsely : Prop := fnRouteCmpRow.holds Tryd.pinned (OpenSpec.ofChange fnRouteCmpWrong)

/-- 'laws.FnBest': WHATEVER THE INPUT: true; the input reads as it did. -/
def fnBestSpec : ChangeSpec := { name := "fnBest", vars := ["loop.example/wayboard/impl.errNoPath"], fn := fun _ => fun
  | [d, g1] => { results := [.lit (.bool true)], args := [d], vars := [g1] }
  | _ => none }
def fnBestRow : OpenClaim := { program := "ytfjfcdifnfffbaadoor", sum := "de13fd23ee5a8784b01a8c09534e439c370ad518bd9bcc6a0f8baaaa0706e34b", func := "loop.example/wayboard/laws.FnBest", spec := "fnBest", inPlace := ["internal/reflectlite.TypeOf"], unfollowed := true, recurses := true, named := ["loop.example/wayboard/impl.errNoPath"], ifaces := true, apart := false, laid := [("loop.example/wayboard/impl.errNoPath", laid_loop_example_wayboard_impl_errNoPath)] }
def FnBestSaid : Prop := fnBestRow.holds Tryd.pinned (OpenSpec.ofChange fnBestSpec)

/-- ITS FALSE NEIGHBOUR: 'it returns false'. Refute it at one input. -/
def fnBestWrong : ChangeSpec := { name := "fnBest", vars := ["loop.example/wayboard/impl.errNoPath"], fn := fun _ => fun
  | [d, g1] => { results := [.lit (.bool false)], args := [d], vars := [g1] }
  | _ => none }
def FnBestWrongFalsely : Prop := fnBestRow.holds Tryd.pinned (OpenSpec.ofChange fnBestWrong)

/-- 'laws.FnBestOrder': WHATEVER THE INPUT: true; the input reads as it did. -/
def fnBestOrderSpec : ChangeSpec := { name := "fnBestOrder", vars := ["loop.example/wayboard/impl.errNoPath"], fn := fun _ => fun
  | [d, g1] => { results := [.lit (.bool true)], args := [d], vars := [g1] }
  | _ => none }
def fnBestOrderRow : OpenClaim := { program := "ytfjfcdifnfffbaadoor", sum := "de13fd23ee5a8784b01a8c09534e439c370ad518bd9bcc6a0f8baaaa0706e34b", func := "loop.example/wayboard/laws.FnBestOrder", spec := "fnBestOrder", inPlace := ["internal/reflectlite.TypeOf"], unfollowed := true, recurses := true, named := ["loop.example/wayboard/impl.errNoPath"], ifaces := true, apart := false, laid := [("loop.example/wayboard/impl.errNoPath", laid_loop_example_wayboard_impl_errNoPath)] }
def FnBestOrderSaid : Prop := fnBestOrderRow.holds Tryd.pinned (OpenSpec.ofChange fnBestOrderSpec)

/-- ITS FALSE NEIGHBOUR: 'it returns false'. Refute it at one input. -/
def fnBestOrderWrong : ChangeSpec := { name := "fnBestOrder", vars := ["loop.example/wayboard/impl.errNoPath"], fn := fun _ => fun
  | [d, g1] => { results := [.lit (.bool false)], args := [d], vars := [g1] }
  | _ => none }
def FnBestOrderWrongFalsely : Prop := fnBestOrderRow.holds Tryd.pinned (OpenSpec.ofChange fnBestOrderWrong)

/-- 'laws.FnRouteText': WHATEVER THE INPUT: true; the input reads as it did. -/
def fnRouteTextSpec : ChangeSpec := { name := "fnRouteText", vars := ["loop.example/wayboard/impl.errNoPath"], fn := fun _ => fun
  | [d1, d2, g1] => { results := [.lit (.bool true)], args := [d1, d2], vars := [g1] }
  | _ => none }
def fnRouteTextRow : OpenClaim := { program := "ytfjfcdifnfffbaadoor", sum := "de13fd23ee5a8784b01a8c09534e439c370ad518bd9bcc6a0f8baaaa0706e34b", func := "loop.example/wayboard/laws.FnRouteText", spec := "fnRouteText", inPlace := ["internal/reflectlite.TypeOf", "internal/abi.NoEscape", "internal/bytealg.MakeNoZero", "slices.overlaps[int]"], unfollowed := true, recurses := true, named := ["loop.example/wayboard/impl.errNoPath", "internal/strconv.uint64pow10", "math/bits.deBruijn32tab", "math/bits.deBruijn64tab"], ifaces := true, apart := false, laid := [("math/bits.deBruijn32tab", laid_math_bits_deBruijn32tab), ("math/bits.deBruijn64tab", laid_math_bits_deBruijn64tab), ("internal/strconv.uint64pow10", laid_internal_strconv_uint64pow10), ("loop.example/wayboard/impl.errNoPath", laid_loop_example_wayboard_impl_errNoPath)] }
def FnRouteTextSaid : Prop := fnRouteTextRow.holds Tryd.pinned (OpenSpec.ofChange fnRouteTextSpec)

/-- ITS FALSE NEIGHBOUR: 'it returns false'. Refute it at one input. -/
def fnRouteTextWrong : ChangeSpec := { name := "fnRouteText", vars := ["loop.example/wayboard/impl.errNoPath"], fn := fun _ => fun
  | [d1, d2, g1] => { results := [.lit (.bool false)], args := [d1, d2], vars := [g1] }
  | _ => none }
def FnRouteTextWrongFalsely : Prop := fnRouteTextRow.holds Tryd.pinned (OpenSpec.ofChange fnRouteTextWrong)

/-- 'laws.FnRouteForm': WHATEVER THE INPUT: true; the input reads as it did. -/
def fnRouteFormSpec : ChangeSpec := { name := "fnRouteForm", vars := ["loop.example/wayboard/impl.errNoPath"], fn := fun _ => fun
  | [d, g1] => { results := [.lit (.bool true)], args := [d], vars := [g1] }
  | _ => none }
def fnRouteFormRow : OpenClaim := { program := "ytfjfcdifnfffbaadoor", sum := "de13fd23ee5a8784b01a8c09534e439c370ad518bd9bcc6a0f8baaaa0706e34b", func := "loop.example/wayboard/laws.FnRouteForm", spec := "fnRouteForm", inPlace := ["internal/reflectlite.TypeOf"], unfollowed := true, recurses := true, named := ["loop.example/wayboard/impl.errNoPath"], ifaces := true, apart := false, laid := [("loop.example/wayboard/impl.errNoPath", laid_loop_example_wayboard_impl_errNoPath)] }
def FnRouteFormSaid : Prop := fnRouteFormRow.holds Tryd.pinned (OpenSpec.ofChange fnRouteFormSpec)

/-- ITS FALSE NEIGHBOUR: 'it returns false'. Refute it at one input. -/
def fnRouteFormWrong : ChangeSpec := { name := "fnRouteForm", vars := ["loop.example/wayboard/impl.errNoPath"], fn := fun _ => fun
  | [d, g1] => { results := [.lit (.bool false)], args := [d], vars := [g1] }
  | _ => none }
def FnRouteFormWrongFalsely : Prop := fnRouteFormRow.holds Tryd.pinned (OpenSpec.ofChange fnRouteFormWrong)

/-- 'laws.FnRouteThree': WHATEVER THE INPUT: true; the input reads as it did. -/
def fnRouteThreeSpec : ChangeSpec := { name := "fnRouteThree", vars := ["loop.example/wayboard/impl.errNoPath"], fn := fun _ => fun
  | [d1, d2, g1] => { results := [.lit (.bool true)], args := [d1, d2], vars := [g1] }
  | _ => none }
def fnRouteThreeRow : OpenClaim := { program := "ytfjfcdifnfffbaadoor", sum := "de13fd23ee5a8784b01a8c09534e439c370ad518bd9bcc6a0f8baaaa0706e34b", func := "loop.example/wayboard/laws.FnRouteThree", spec := "fnRouteThree", inPlace := ["internal/reflectlite.TypeOf"], unfollowed := true, recurses := true, named := ["loop.example/wayboard/impl.errNoPath"], ifaces := true, apart := false, laid := [("loop.example/wayboard/impl.errNoPath", laid_loop_example_wayboard_impl_errNoPath)] }
def FnRouteThreeSaid : Prop := fnRouteThreeRow.holds Tryd.pinned (OpenSpec.ofChange fnRouteThreeSpec)

/-- ITS FALSE NEIGHBOUR: 'it returns false'. Refute it at one input. -/
def fnRouteThreeWrong : ChangeSpec := { name := "fnRouteThree", vars := ["loop.example/wayboard/impl.errNoPath"], fn := fun _ => fun
  | [d1, d2, g1] => { results := [.lit (.bool false)], args := [d1, d2], vars := [g1] }
  | _ => none }
def FnRouteThreeWrongFalsely : Prop := fnRouteThreeRow.holds Tryd.pinned (OpenSpec.ofChange fnRouteThreeWrong)

/-- 'laws.FnBestMore': WHATEVER THE INPUT: true; the input reads as it did. -/
def fnBestMoreSpec : ChangeSpec := { name := "fnBestMore", vars := ["loop.example/wayboard/impl.errNoPath"], fn := fun _ => fun
  | [d1, d2, g1] => { results := [.lit (.bool true)], args := [d1, d2], vars := [g1] }
  | _ => none }
def fnBestMoreRow : OpenClaim := { program := "ytfjfcdifnfffbaadoor", sum := "de13fd23ee5a8784b01a8c09534e439c370ad518bd9bcc6a0f8baaaa0706e34b", func := "loop.example/wayboard/laws.FnBestMore", spec := "fnBestMore", inPlace := ["internal/reflectlite.TypeOf"], unfollowed := true, recurses := true, named := ["loop.example/wayboard/impl.errNoPath"], ifaces := true, apart := false, laid := [("loop.example/wayboard/impl.errNoPath", laid_loop_example_wayboard_impl_errNoPath)] }
def FnBestMoreSaid : Prop := fnBestMoreRow.holds Tryd.pinned (OpenSpec.ofChange fnBestMoreSpec)

/-- ITS FALSE NEIGHBOUR: 'it returns false'. Refute it at one input. -/
def fnBestMoreWrong : ChangeSpec := { name := "fnBestMore", vars := ["loop.example/wayboard/impl.errNoPath"], fn := fun _ => fun
  | [d1, d2, g1] => { results := [.lit (.bool false)], args := [d1, d2], vars := [g1] }
  | _ => none }
def FnBestMoreWrongFalsely : Prop := fnBestMoreRow.holds Tryd.pinned (OpenSpec.ofChange fnBestMoreWrong)

/-- 'laws.FnMarkCmp': WHATEVER THE INPUT: true; the input reads as it did. -/
def fnMarkCmpSpec : ChangeSpec := { name := "fnMarkCmp", vars := ["loop.example/wayboard/impl.errNoPath"], fn := fun _ => fun
  | [d1, d2, g1] => { results := [.lit (.bool true)], args := [d1, d2], vars := [g1] }
  | _ => none }
def fnMarkCmpRow : OpenClaim := { program := "ytfjfcdifnfffbaadoor", sum := "de13fd23ee5a8784b01a8c09534e439c370ad518bd9bcc6a0f8baaaa0706e34b", func := "loop.example/wayboard/laws.FnMarkCmp", spec := "fnMarkCmp", inPlace := ["internal/reflectlite.TypeOf", "slices.overlaps[int]"], unfollowed := true, recurses := true, named := ["loop.example/wayboard/impl.errNoPath"], ifaces := true, apart := false, laid := [("loop.example/wayboard/impl.errNoPath", laid_loop_example_wayboard_impl_errNoPath)] }
def FnMarkCmpSaid : Prop := fnMarkCmpRow.holds Tryd.pinned (OpenSpec.ofChange fnMarkCmpSpec)

/-- ITS FALSE NEIGHBOUR: 'it returns false'. Refute it at one input. -/
def fnMarkCmpWrong : ChangeSpec := { name := "fnMarkCmp", vars := ["loop.example/wayboard/impl.errNoPath"], fn := fun _ => fun
  | [d1, d2, g1] => { results := [.lit (.bool false)], args := [d1, d2], vars := [g1] }
  | _ => none }
def FnMarkCmpWrongFalsely : Prop := fnMarkCmpRow.holds Tryd.pinned (OpenSpec.ofChange fnMarkCmpWrong)

/-- 'laws.FnExactRouteOk': WHATEVER THE INPUT: true; the input reads as it did. -/
def fnExactRouteOkSpec : ChangeSpec := { name := "fnExactRouteOk", vars := ["loop.example/wayboard/impl.errNoPath"], fn := fun _ => fun
  | [d, g1] => { results := [.lit (.bool true)], args := [d], vars := [g1] }
  | _ => none }
def fnExactRouteOkRow : OpenClaim := { program := "ytfjfcdifnfffbaadoor", sum := "de13fd23ee5a8784b01a8c09534e439c370ad518bd9bcc6a0f8baaaa0706e34b", func := "loop.example/wayboard/laws.FnExactRouteOk", spec := "fnExactRouteOk", inPlace := ["internal/reflectlite.TypeOf"], unfollowed := true, recurses := true, named := ["loop.example/wayboard/impl.errNoPath"], ifaces := true, apart := false, laid := [("loop.example/wayboard/impl.errNoPath", laid_loop_example_wayboard_impl_errNoPath)] }
def FnExactRouteOkSaid : Prop := fnExactRouteOkRow.holds Tryd.pinned (OpenSpec.ofChange fnExactRouteOkSpec)

/-- ITS FALSE NEIGHBOUR: 'it returns false'. Refute it at one input. -/
def fnExactRouteOkWrong : ChangeSpec := { name := "fnExactRouteOk", vars := ["loop.example/wayboard/impl.errNoPath"], fn := fun _ => fun
  | [d, g1] => { results := [.lit (.bool false)], args := [d], vars := [g1] }
  | _ => none }
def FnExactRouteOkWrongFalsely : Prop := fnExactRouteOkRow.holds Tryd.pinned (OpenSpec.ofChange fnExactRouteOkWrong)

/-- 'laws.FnExactRouteMark': WHATEVER THE INPUT: true; the input reads as it did. -/
def fnExactRouteMarkSpec : ChangeSpec := { name := "fnExactRouteMark", vars := ["loop.example/wayboard/impl.errNoPath"], fn := fun _ => fun
  | [d1, d2, g1] => { results := [.lit (.bool true)], args := [d1, d2], vars := [g1] }
  | _ => none }
def fnExactRouteMarkRow : OpenClaim := { program := "ytfjfcdifnfffbaadoor", sum := "de13fd23ee5a8784b01a8c09534e439c370ad518bd9bcc6a0f8baaaa0706e34b", func := "loop.example/wayboard/laws.FnExactRouteMark", spec := "fnExactRouteMark", inPlace := ["internal/reflectlite.TypeOf", "slices.overlaps[int]"], unfollowed := true, recurses := true, named := ["loop.example/wayboard/impl.errNoPath"], ifaces := true, apart := false, laid := [("loop.example/wayboard/impl.errNoPath", laid_loop_example_wayboard_impl_errNoPath)] }
def FnExactRouteMarkSaid : Prop := fnExactRouteMarkRow.holds Tryd.pinned (OpenSpec.ofChange fnExactRouteMarkSpec)

/-- ITS FALSE NEIGHBOUR: 'it returns false'. Refute it at one input. -/
def fnExactRouteMarkWrong : ChangeSpec := { name := "fnExactRouteMark", vars := ["loop.example/wayboard/impl.errNoPath"], fn := fun _ => fun
  | [d1, d2, g1] => { results := [.lit (.bool false)], args := [d1, d2], vars := [g1] }
  | _ => none }
def FnExactRouteMarkWrongFalsely : Prop := fnExactRouteMarkRow.holds Tryd.pinned (OpenSpec.ofChange fnExactRouteMarkWrong)

/-- 'laws.FnExactRouteClear': WHATEVER THE INPUT: true; the input reads as it did. -/
def fnExactRouteClearSpec : ChangeSpec := { name := "fnExactRouteClear", vars := ["loop.example/wayboard/impl.errNoPath"], fn := fun _ => fun
  | [d1, d2, g1] => { results := [.lit (.bool true)], args := [d1, d2], vars := [g1] }
  | _ => none }
def fnExactRouteClearRow : OpenClaim := { program := "ytfjfcdifnfffbaadoor", sum := "de13fd23ee5a8784b01a8c09534e439c370ad518bd9bcc6a0f8baaaa0706e34b", func := "loop.example/wayboard/laws.FnExactRouteClear", spec := "fnExactRouteClear", inPlace := ["internal/reflectlite.TypeOf"], unfollowed := true, recurses := true, named := ["loop.example/wayboard/impl.errNoPath"], ifaces := true, apart := false, laid := [("loop.example/wayboard/impl.errNoPath", laid_loop_example_wayboard_impl_errNoPath)] }
def FnExactRouteClearSaid : Prop := fnExactRouteClearRow.holds Tryd.pinned (OpenSpec.ofChange fnExactRouteClearSpec)

/-- ITS FALSE NEIGHBOUR: 'it returns false'. Refute it at one input. -/
def fnExactRouteClearWrong : ChangeSpec := { name := "fnExactRouteClear", vars := ["loop.example/wayboard/impl.errNoPath"], fn := fun _ => fun
  | [d1, d2, g1] => { results := [.lit (.bool false)], args := [d1, d2], vars := [g1] }
  | _ => none }
def FnExactRouteClearWrongFalsely : Prop := fnExactRouteClearRow.holds Tryd.pinned (OpenSpec.ofChange fnExactRouteClearWrong)

/-- 'laws.FnExactRouteCmp': WHATEVER THE INPUT: true; the input reads as it did. -/
def fnExactRouteCmpSpec : ChangeSpec := { name := "fnExactRouteCmp", vars := ["loop.example/wayboard/impl.errNoPath"], fn := fun _ => fun
  | [d1, d2, g1] => { results := [.lit (.bool true)], args := [d1, d2], vars := [g1] }
  | _ => none }
def fnExactRouteCmpRow : OpenClaim := { program := "ytfjfcdifnfffbaadoor", sum := "de13fd23ee5a8784b01a8c09534e439c370ad518bd9bcc6a0f8baaaa0706e34b", func := "loop.example/wayboard/laws.FnExactRouteCmp", spec := "fnExactRouteCmp", inPlace := ["internal/reflectlite.TypeOf"], unfollowed := true, recurses := true, named := ["loop.example/wayboard/impl.errNoPath"], ifaces := true, apart := false, laid := [("loop.example/wayboard/impl.errNoPath", laid_loop_example_wayboard_impl_errNoPath)] }
def FnExactRouteCmpSaid : Prop := fnExactRouteCmpRow.holds Tryd.pinned (OpenSpec.ofChange fnExactRouteCmpSpec)

/-- ITS FALSE NEIGHBOUR: 'it returns false'. Refute it at one input. -/
def fnExactRouteCmpWrong : ChangeSpec := { name := "fnExactRouteCmp", vars := ["loop.example/wayboard/impl.errNoPath"], fn := fun _ => fun
  | [d1, d2, g1] => { results := [.lit (.bool false)], args := [d1, d2], vars := [g1] }
  | _ => none }
def FnExactRouteCmpWrongFalsely : Prop := fnExactRouteCmpRow.holds Tryd.pinned (OpenSpec.ofChange fnExactRouteCmpWrong)

/-- 'laws.FnExactRouteBest': WHATEVER THE INPUT: true; the input reads as it did. -/
def fnExactRouteBestSpec : ChangeSpec := { name := "fnExactRouteBest", vars := ["loop.example/wayboard/impl.errNoPath"], fn := fun _ => fun
  | [d, g1] => { results := [.lit (.bool true)], args := [d], vars := [g1] }
  | _ => none }
def fnExactRouteBestRow : OpenClaim := { program := "ytfjfcdifnfffbaadoor", sum := "de13fd23ee5a8784b01a8c09534e439c370ad518bd9bcc6a0f8baaaa0706e34b", func := "loop.example/wayboard/laws.FnExactRouteBest", spec := "fnExactRouteBest", inPlace := ["internal/reflectlite.TypeOf"], unfollowed := true, recurses := true, named := ["loop.example/wayboard/impl.errNoPath"], ifaces := true, apart := false, laid := [("loop.example/wayboard/impl.errNoPath", laid_loop_example_wayboard_impl_errNoPath)] }
def FnExactRouteBestSaid : Prop := fnExactRouteBestRow.holds Tryd.pinned (OpenSpec.ofChange fnExactRouteBestSpec)

/-- ITS FALSE NEIGHBOUR: 'it returns false'. Refute it at one input. -/
def fnExactRouteBestWrong : ChangeSpec := { name := "fnExactRouteBest", vars := ["loop.example/wayboard/impl.errNoPath"], fn := fun _ => fun
  | [d, g1] => { results := [.lit (.bool false)], args := [d], vars := [g1] }
  | _ => none }
def FnExactRouteBestWrongFalsely : Prop := fnExactRouteBestRow.holds Tryd.pinned (OpenSpec.ofChange fnExactRouteBestWrong)

/-- 'laws.FnExactRouteText': WHATEVER THE INPUT: true; the input reads as it did. -/
def fnExactRouteTextSpec : ChangeSpec := { name := "fnExactRouteText", vars := ["loop.example/wayboard/impl.errNoPath"], fn := fun _ => fun
  | [d, g1] => { results := [.lit (.bool true)], args := [d], vars := [g1] }
  | _ => none }
def fnExactRouteTextRow : OpenClaim := { program := "ytfjfcdifnfffbaadoor", sum := "de13fd23ee5a8784b01a8c09534e439c370ad518bd9bcc6a0f8baaaa0706e34b", func := "loop.example/wayboard/laws.FnExactRouteText", spec := "fnExactRouteText", inPlace := ["internal/reflectlite.TypeOf", "internal/abi.NoEscape", "internal/bytealg.MakeNoZero"], unfollowed := true, recurses := true, named := ["loop.example/wayboard/impl.errNoPath", "internal/strconv.uint64pow10", "math/bits.deBruijn32tab", "math/bits.deBruijn64tab"], ifaces := true, apart := false, laid := [("math/bits.deBruijn32tab", laid_math_bits_deBruijn32tab), ("math/bits.deBruijn64tab", laid_math_bits_deBruijn64tab), ("internal/strconv.uint64pow10", laid_internal_strconv_uint64pow10), ("loop.example/wayboard/impl.errNoPath", laid_loop_example_wayboard_impl_errNoPath)] }
def FnExactRouteTextSaid : Prop := fnExactRouteTextRow.holds Tryd.pinned (OpenSpec.ofChange fnExactRouteTextSpec)

/-- ITS FALSE NEIGHBOUR: 'it returns false'. Refute it at one input. -/
def fnExactRouteTextWrong : ChangeSpec := { name := "fnExactRouteText", vars := ["loop.example/wayboard/impl.errNoPath"], fn := fun _ => fun
  | [d, g1] => { results := [.lit (.bool false)], args := [d], vars := [g1] }
  | _ => none }
def FnExactRouteTextWrongFalsely : Prop := fnExactRouteTextRow.holds Tryd.pinned (OpenSpec.ofChange fnExactRouteTextWrong)

/- THE SECOND FORM. 'bulk': how many values and letters a reading holds, each counted each time it is reached (what is shared counts as often as it is met; a slice's spare places count too). A statement '..UptoSaid' is the law's where the arguments, and the package variables that the reading takes, are together of bulk at most 1048576: NARROWER than '..Said'. Prove '..Said' where nothing that the law and all that it calls make is longer than what came in: it says more and counts as full. Else prove '..UptoSaid'. A law counts once. -/
mutual
def uptoBulk {H : Type} : DataW H → Nat
  | .lit (.string bytes) => bytes.length + 1
  | .lit _ => 1
  | .nil => 1
  | .ptr d => uptoBulk d + 1
  | .slice elems spare => uptoBulkAll elems + uptoBulkAll spare + 1
  | .agg parts => uptoBulkAll parts + 1
  | .iface _ d => uptoBulk d + 1
  | .map entries => uptoBulkEntries entries + 1
  | .held _ => 1
def uptoBulkAll {H : Type} : List (DataW H) → Nat
  | [] => 0
  | d :: r => uptoBulk d + uptoBulkAll r
def uptoBulkEntries {H : Type} : List (Lit × DataW H) → Nat
  | [] => 0
  | x :: r => uptoBulkEntry x + uptoBulkEntries r
def uptoBulkEntry {H : Type} : Lit × DataW H → Nat
  | (.string bytes, d) => bytes.length + uptoBulk d + 1
  | (_, d) => uptoBulk d + 1
 end
def uptoSmall : (H : Type) → List (DataW H) → Bool := fun _ ds => decide (uptoBulkAll ds ≤ 1048576)
def OpenSpec.upto (s : _root_.Go.ChangeSpec) : _root_.Go.OpenSpec := { _root_.Go.OpenSpec.ofChange s with cond := some uptoSmall }

/-- 'laws.FnMark', WHERE WHAT IT READS IS OF BULK AT MOST 1048576: true; the input reads as it did. -/
def fnMarkUptoRow : OpenClaim := { program := "ytfjfcdifnfffbaadoor", sum := "de13fd23ee5a8784b01a8c09534e439c370ad518bd9bcc6a0f8baaaa0706e34b", func := "loop.example/wayboard/laws.FnMark", spec := "fnMark", inPlace := ["internal/reflectlite.TypeOf", "slices.overlaps[int]"], unfollowed := true, recurses := true, named := ["loop.example/wayboard/impl.errNoPath"], ifaces := true, apart := false, laid := [("loop.example/wayboard/impl.errNoPath", laid_loop_example_wayboard_impl_errNoPath)], narrowed := true }
def FnMarkUptoSaid : Prop := fnMarkUptoRow.holds Tryd.pinned (OpenSpec.upto fnMarkSpec)

/-- 'laws.FnClear', WHERE WHAT IT READS IS OF BULK AT MOST 1048576: true; the input reads as it did. -/
def fnClearUptoRow : OpenClaim := { program := "ytfjfcdifnfffbaadoor", sum := "de13fd23ee5a8784b01a8c09534e439c370ad518bd9bcc6a0f8baaaa0706e34b", func := "loop.example/wayboard/laws.FnClear", spec := "fnClear", inPlace := ["internal/reflectlite.TypeOf", "slices.overlaps[int]"], unfollowed := true, recurses := true, named := ["loop.example/wayboard/impl.errNoPath"], ifaces := true, apart := false, laid := [("loop.example/wayboard/impl.errNoPath", laid_loop_example_wayboard_impl_errNoPath)], narrowed := true }
def FnClearUptoSaid : Prop := fnClearUptoRow.holds Tryd.pinned (OpenSpec.upto fnClearSpec)

/-- 'laws.FnMarkOrder', WHERE WHAT IT READS IS OF BULK AT MOST 1048576: true; the input reads as it did. -/
def fnMarkOrderUptoRow : OpenClaim := { program := "ytfjfcdifnfffbaadoor", sum := "de13fd23ee5a8784b01a8c09534e439c370ad518bd9bcc6a0f8baaaa0706e34b", func := "loop.example/wayboard/laws.FnMarkOrder", spec := "fnMarkOrder", inPlace := ["internal/reflectlite.TypeOf", "slices.overlaps[int]"], unfollowed := true, recurses := true, named := ["loop.example/wayboard/impl.errNoPath"], ifaces := true, apart := false, laid := [("loop.example/wayboard/impl.errNoPath", laid_loop_example_wayboard_impl_errNoPath)], narrowed := true }
def FnMarkOrderUptoSaid : Prop := fnMarkOrderUptoRow.holds Tryd.pinned (OpenSpec.upto fnMarkOrderSpec)

/-- 'laws.FnRouteCmp', WHERE WHAT IT READS IS OF BULK AT MOST 1048576: true; the input reads as it did. -/
def fnRouteCmpUptoRow : OpenClaim := { program := "ytfjfcdifnfffbaadoor", sum := "de13fd23ee5a8784b01a8c09534e439c370ad518bd9bcc6a0f8baaaa0706e34b", func := "loop.example/wayboard/laws.FnRouteCmp", spec := "fnRouteCmp", inPlace := ["internal/reflectlite.TypeOf"], unfollowed := true, recurses := true, named := ["loop.example/wayboard/impl.errNoPath"], ifaces := true, apart := false, laid := [("loop.example/wayboard/impl.errNoPath", laid_loop_example_wayboard_impl_errNoPath)], narrowed := true }
def FnRouteCmpUptoSaid : Prop := fnRouteCmpUptoRow.holds Tryd.pinned (OpenSpec.upto fnRouteCmpSpec)

/-- 'laws.FnBest', WHERE WHAT IT READS IS OF BULK AT MOST 1048576: true; the input reads as it did. -/
def fnBestUptoRow : OpenClaim := { program := "ytfjfcdifnfffbaadoor", sum := "de13fd23ee5a8784b01a8c09534e439c370ad518bd9bcc6a0f8baaaa0706e34b", func := "loop.example/wayboard/laws.FnBest", spec := "fnBest", inPlace := ["internal/reflectlite.TypeOf"], unfollowed := true, recurses := true, named := ["loop.example/wayboard/impl.errNoPath"], ifaces := true, apart := false, laid := [("loop.example/wayboard/impl.errNoPath", laid_loop_example_wayboard_impl_errNoPath)], narrowed := true }
def FnBestUptoSaid : Prop := fnBestUptoRow.holds Tryd.pinned (OpenSpec.upto fnBestSpec)

/-- 'laws.FnBestOrder', WHERE WHAT IT READS IS OF BULK AT MOST 1048576: true; the input reads as it did. -/
def fnBestOrderUptoRow : OpenClaim := { program := "ytfjfcdifnfffbaadoor", sum := "de13fd23ee5a8784b01a8c09534e439c370ad518bd9bcc6a0f8baaaa0706e34b", func := "loop.example/wayboard/laws.FnBestOrder", spec := "fnBestOrder", inPlace := ["internal/reflectlite.TypeOf"], unfollowed := true, recurses := true, named := ["loop.example/wayboard/impl.errNoPath"], ifaces := true, apart := false, laid := [("loop.example/wayboard/impl.errNoPath", laid_loop_example_wayboard_impl_errNoPath)], narrowed := true }
def FnBestOrderUptoSaid : Prop := fnBestOrderUptoRow.holds Tryd.pinned (OpenSpec.upto fnBestOrderSpec)

/-- 'laws.FnRouteText', WHERE WHAT IT READS IS OF BULK AT MOST 1048576: true; the input reads as it did. -/
def fnRouteTextUptoRow : OpenClaim := { program := "ytfjfcdifnfffbaadoor", sum := "de13fd23ee5a8784b01a8c09534e439c370ad518bd9bcc6a0f8baaaa0706e34b", func := "loop.example/wayboard/laws.FnRouteText", spec := "fnRouteText", inPlace := ["internal/reflectlite.TypeOf", "internal/abi.NoEscape", "internal/bytealg.MakeNoZero", "slices.overlaps[int]"], unfollowed := true, recurses := true, named := ["loop.example/wayboard/impl.errNoPath", "internal/strconv.uint64pow10", "math/bits.deBruijn32tab", "math/bits.deBruijn64tab"], ifaces := true, apart := false, laid := [("math/bits.deBruijn32tab", laid_math_bits_deBruijn32tab), ("math/bits.deBruijn64tab", laid_math_bits_deBruijn64tab), ("internal/strconv.uint64pow10", laid_internal_strconv_uint64pow10), ("loop.example/wayboard/impl.errNoPath", laid_loop_example_wayboard_impl_errNoPath)], narrowed := true }
def FnRouteTextUptoSaid : Prop := fnRouteTextUptoRow.holds Tryd.pinned (OpenSpec.upto fnRouteTextSpec)

/-- 'laws.FnRouteForm', WHERE WHAT IT READS IS OF BULK AT MOST 1048576: true; the input reads as it did. -/
def fnRouteFormUptoRow : OpenClaim := { program := "ytfjfcdifnfffbaadoor", sum := "de13fd23ee5a8784b01a8c09534e439c370ad518bd9bcc6a0f8baaaa0706e34b", func := "loop.example/wayboard/laws.FnRouteForm", spec := "fnRouteForm", inPlace := ["internal/reflectlite.TypeOf"], unfollowed := true, recurses := true, named := ["loop.example/wayboard/impl.errNoPath"], ifaces := true, apart := false, laid := [("loop.example/wayboard/impl.errNoPath", laid_loop_example_wayboard_impl_errNoPath)], narrowed := true }
def FnRouteFormUptoSaid : Prop := fnRouteFormUptoRow.holds Tryd.pinned (OpenSpec.upto fnRouteFormSpec)

/-- 'laws.FnRouteThree', WHERE WHAT IT READS IS OF BULK AT MOST 1048576: true; the input reads as it did. -/
def fnRouteThreeUptoRow : OpenClaim := { program := "ytfjfcdifnfffbaadoor", sum := "de13fd23ee5a8784b01a8c09534e439c370ad518bd9bcc6a0f8baaaa0706e34b", func := "loop.example/wayboard/laws.FnRouteThree", spec := "fnRouteThree", inPlace := ["internal/reflectlite.TypeOf"], unfollowed := true, recurses := true, named := ["loop.example/wayboard/impl.errNoPath"], ifaces := true, apart := false, laid := [("loop.example/wayboard/impl.errNoPath", laid_loop_example_wayboard_impl_errNoPath)], narrowed := true }
def FnRouteThreeUptoSaid : Prop := fnRouteThreeUptoRow.holds Tryd.pinned (OpenSpec.upto fnRouteThreeSpec)

/-- 'laws.FnBestMore', WHERE WHAT IT READS IS OF BULK AT MOST 1048576: true; the input reads as it did. -/
def fnBestMoreUptoRow : OpenClaim := { program := "ytfjfcdifnfffbaadoor", sum := "de13fd23ee5a8784b01a8c09534e439c370ad518bd9bcc6a0f8baaaa0706e34b", func := "loop.example/wayboard/laws.FnBestMore", spec := "fnBestMore", inPlace := ["internal/reflectlite.TypeOf"], unfollowed := true, recurses := true, named := ["loop.example/wayboard/impl.errNoPath"], ifaces := true, apart := false, laid := [("loop.example/wayboard/impl.errNoPath", laid_loop_example_wayboard_impl_errNoPath)], narrowed := true }
def FnBestMoreUptoSaid : Prop := fnBestMoreUptoRow.holds Tryd.pinned (OpenSpec.upto fnBestMoreSpec)

/-- 'laws.FnMarkCmp', WHERE WHAT IT READS IS OF BULK AT MOST 1048576: true; the input reads as it did. -/
def fnMarkCmpUptoRow : OpenClaim := { program := "ytfjfcdifnfffbaadoor", sum := "de13fd23ee5a8784b01a8c09534e439c370ad518bd9bcc6a0f8baaaa0706e34b", func := "loop.example/wayboard/laws.FnMarkCmp", spec := "fnMarkCmp", inPlace := ["internal/reflectlite.TypeOf", "slices.overlaps[int]"], unfollowed := true, recurses := true, named := ["loop.example/wayboard/impl.errNoPath"], ifaces := true, apart := false, laid := [("loop.example/wayboard/impl.errNoPath", laid_loop_example_wayboard_impl_errNoPath)], narrowed := true }
def FnMarkCmpUptoSaid : Prop := fnMarkCmpUptoRow.holds Tryd.pinned (OpenSpec.upto fnMarkCmpSpec)

/-- 'laws.FnExactRouteOk', WHERE WHAT IT READS IS OF BULK AT MOST 1048576: true; the input reads as it did. -/
def fnExactRouteOkUptoRow : OpenClaim := { program := "ytfjfcdifnfffbaadoor", sum := "de13fd23ee5a8784b01a8c09534e439c370ad518bd9bcc6a0f8baaaa0706e34b", func := "loop.example/wayboard/laws.FnExactRouteOk", spec := "fnExactRouteOk", inPlace := ["internal/reflectlite.TypeOf"], unfollowed := true, recurses := true, named := ["loop.example/wayboard/impl.errNoPath"], ifaces := true, apart := false, laid := [("loop.example/wayboard/impl.errNoPath", laid_loop_example_wayboard_impl_errNoPath)], narrowed := true }
def FnExactRouteOkUptoSaid : Prop := fnExactRouteOkUptoRow.holds Tryd.pinned (OpenSpec.upto fnExactRouteOkSpec)

/-- 'laws.FnExactRouteMark', WHERE WHAT IT READS IS OF BULK AT MOST 1048576: true; the input reads as it did. -/
def fnExactRouteMarkUptoRow : OpenClaim := { program := "ytfjfcdifnfffbaadoor", sum := "de13fd23ee5a8784b01a8c09534e439c370ad518bd9bcc6a0f8baaaa0706e34b", func := "loop.example/wayboard/laws.FnExactRouteMark", spec := "fnExactRouteMark", inPlace := ["internal/reflectlite.TypeOf", "slices.overlaps[int]"], unfollowed := true, recurses := true, named := ["loop.example/wayboard/impl.errNoPath"], ifaces := true, apart := false, laid := [("loop.example/wayboard/impl.errNoPath", laid_loop_example_wayboard_impl_errNoPath)], narrowed := true }
def FnExactRouteMarkUptoSaid : Prop := fnExactRouteMarkUptoRow.holds Tryd.pinned (OpenSpec.upto fnExactRouteMarkSpec)

/-- 'laws.FnExactRouteClear', WHERE WHAT IT READS IS OF BULK AT MOST 1048576: true; the input reads as it did. -/
def fnExactRouteClearUptoRow : OpenClaim := { program := "ytfjfcdifnfffbaadoor", sum := "de13fd23ee5a8784b01a8c09534e439c370ad518bd9bcc6a0f8baaaa0706e34b", func := "loop.example/wayboard/laws.FnExactRouteClear", spec := "fnExactRouteClear", inPlace := ["internal/reflectlite.TypeOf"], unfollowed := true, recurses := true, named := ["loop.example/wayboard/impl.errNoPath"], ifaces := true, apart := false, laid := [("loop.example/wayboard/impl.errNoPath", laid_loop_example_wayboard_impl_errNoPath)], narrowed := true }
def FnExactRouteClearUptoSaid : Prop := fnExactRouteClearUptoRow.holds Tryd.pinned (OpenSpec.upto fnExactRouteClearSpec)

/-- 'laws.FnExactRouteCmp', WHERE WHAT IT READS IS OF BULK AT MOST 1048576: true; the input reads as it did. -/
def fnExactRouteCmpUptoRow : OpenClaim := { program := "ytfjfcdifnfffbaadoor", sum := "de13fd23ee5a8784b01a8c09534e439c370ad518bd9bcc6a0f8baaaa0706e34b", func := "loop.example/wayboard/laws.FnExactRouteCmp", spec := "fnExactRouteCmp", inPlace := ["internal/reflectlite.TypeOf"], unfollowed := true, recurses := true, named := ["loop.example/wayboard/impl.errNoPath"], ifaces := true, apart := false, laid := [("loop.example/wayboard/impl.errNoPath", laid_loop_example_wayboard_impl_errNoPath)], narrowed := true }
def FnExactRouteCmpUptoSaid : Prop := fnExactRouteCmpUptoRow.holds Tryd.pinned (OpenSpec.upto fnExactRouteCmpSpec)

/-- 'laws.FnExactRouteBest', WHERE WHAT IT READS IS OF BULK AT MOST 1048576: true; the input reads as it did. -/
def fnExactRouteBestUptoRow : OpenClaim := { program := "ytfjfcdifnfffbaadoor", sum := "de13fd23ee5a8784b01a8c09534e439c370ad518bd9bcc6a0f8baaaa0706e34b", func := "loop.example/wayboard/laws.FnExactRouteBest", spec := "fnExactRouteBest", inPlace := ["internal/reflectlite.TypeOf"], unfollowed := true, recurses := true, named := ["loop.example/wayboard/impl.errNoPath"], ifaces := true, apart := false, laid := [("loop.example/wayboard/impl.errNoPath", laid_loop_example_wayboard_impl_errNoPath)], narrowed := true }
def FnExactRouteBestUptoSaid : Prop := fnExactRouteBestUptoRow.holds Tryd.pinned (OpenSpec.upto fnExactRouteBestSpec)

/-- 'laws.FnExactRouteText', WHERE WHAT IT READS IS OF BULK AT MOST 1048576: true; the input reads as it did. -/
def fnExactRouteTextUptoRow : OpenClaim := { program := "ytfjfcdifnfffbaadoor", sum := "de13fd23ee5a8784b01a8c09534e439c370ad518bd9bcc6a0f8baaaa0706e34b", func := "loop.example/wayboard/laws.FnExactRouteText", spec := "fnExactRouteText", inPlace := ["internal/reflectlite.TypeOf", "internal/abi.NoEscape", "internal/bytealg.MakeNoZero"], unfollowed := true, recurses := true, named := ["loop.example/wayboard/impl.errNoPath", "internal/strconv.uint64pow10", "math/bits.deBruijn32tab", "math/bits.deBruijn64tab"], ifaces := true, apart := false, laid := [("math/bits.deBruijn32tab", laid_math_bits_deBruijn32tab), ("math/bits.deBruijn64tab", laid_math_bits_deBruijn64tab), ("internal/strconv.uint64pow10", laid_internal_strconv_uint64pow10), ("loop.example/wayboard/impl.errNoPath", laid_loop_example_wayboard_impl_errNoPath)], narrowed := true }
def FnExactRouteTextUptoSaid : Prop := fnExactRouteTextUptoRow.holds Tryd.pinned (OpenSpec.upto fnExactRouteTextSpec)

end Rows
end Go.Proofs.YtfjfcdifnfffbaaDoor
