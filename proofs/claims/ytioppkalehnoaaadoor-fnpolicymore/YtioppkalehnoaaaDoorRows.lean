/-
  NARROWER THAN 'FOR EVERY INPUT', by the rows' own cells (each row's printed sentence says how): FnExactClauseFits: ifaces, laid · FnClauseFits: ifaces, laid · FnPolicyDo: ifaces, laid · FnPolicyWay: ifaces, laid · FnPolicyMore: ifaces, laid · FnPolicyNone: ifaces, laid · FnPolicyTwice: ifaces, laid · FnPolicyFirst: ifaces, laid · FnRefuseAll: ifaces, laid.
  DERIVED. THE GIVEN ROWS OF THIS SEAT. 9 by the template 'for every input the law returns true; each argument reads behind the call as it read before'; 0 by the template 'total and deterministic' (their statements: YtioppkalehnoaaaDoorTotals.lean).
  GIVEN WITH THE SEED: the statements are not yours to turn. If you find one false, say at which input.
  Laid BY PROGRAM, IN A SANDBOX (cutbox-rows.mjs): the forced cells as the released guide's own fill.sh prints them over the translation 44bcb0b78d742f6e… (all of the seat's roots in one cut). By AI agents, Wed Nov 11 2026. No macro, syntax, notation, axiom, sorry.
-/
import Derived.Test.YtioppkalehnoaaaDoorChecked
import GoSem.Claim
import GoSem.ClaimJoined
import GoSem.ClaimMapViews
import Derived.JoinedTies
import Derived.KernelRfl
namespace Go.Proofs.YtioppkalehnoaaaDoor
/- THE CELL 'sum', in the pinned program and in every row, IS THE sha256 OF THE DUMP (.gsa) THAT YtioppkalehnoaaaDoorProg.lean LOADS. Nothing in Lean hashes anything: it is a label: what it is worth is what the hold of that sum in a sandbox is worth. -/
noncomputable def Tryd.pinned : Pinned := { name := "ytioppkalehnoaaadoor", sum := "44bcb0b78d742f6e3a1e662c6cc8039ebfd401f6b835a4e02e55325a15be60e2", checked := Tryd.checked }
namespace Rows
def none {H : Type} : Left H := { results := [], args := [] }

/- WHAT THE LISTED PACKAGE-LEVEL VARIABLES READ AS WHEN THE CALL BEGINS. Each datum BY PROGRAM (the guide's laid-datum.mjs) off the statement by which the dump's own 'gosem.cut.vars' lays the variable. In a bare row this is a premise. The card (YtioppkalehnoaaaDoorCards.lean) ties it to the program's text. -/
def laid_loop_example_wayboard_impl_errNoPath {H : Type} : DataW H := .iface "*errors.errorString" (.ptr (.agg [.lit (.string [97, 32, 112, 97, 116, 104, 32, 104, 97, 115, 32, 101, 97, 99, 104, 32, 104, 111, 117, 115, 101, 32, 97, 116, 32, 109, 111, 115, 116, 32, 111, 110, 99, 101, 44, 32, 97, 110, 100, 32, 110, 111, 116, 104, 105, 110, 103, 32, 101, 108, 115, 101])]))

/-- 'laws.FnExactClauseFits': WHATEVER THE INPUT: true; the input reads as it did. -/
def fnExactClauseFitsSpec : ChangeSpec := { name := "fnExactClauseFits", vars := ["loop.example/wayboard/impl.errNoPath"], fn := fun _ => fun
  | [d1, d2, g1] => { results := [.lit (.bool true)], args := [d1, d2], vars := [g1] }
  | _ => none }
def fnExactClauseFitsRow : OpenClaim := { program := "ytioppkalehnoaaadoor", sum := "44bcb0b78d742f6e3a1e662c6cc8039ebfd401f6b835a4e02e55325a15be60e2", func := "loop.example/wayboard/laws.FnExactClauseFits", spec := "fnExactClauseFits", inPlace := ["internal/reflectlite.TypeOf"], unfollowed := true, recurses := true, named := ["loop.example/wayboard/impl.errNoPath"], ifaces := true, apart := false, laid := [("loop.example/wayboard/impl.errNoPath", laid_loop_example_wayboard_impl_errNoPath)] }
def FnExactClauseFitsSaid : Prop := fnExactClauseFitsRow.holds Tryd.pinned (OpenSpec.ofChange fnExactClauseFitsSpec)

/-- ITS FALSE NEIGHBOUR: 'it returns false'. Refute it at one input. -/
def fnExactClauseFitsWrong : ChangeSpec := { name := "fnExactClauseFits", vars := ["loop.example/wayboard/impl.errNoPath"], fn := fun _ => fun
  | [d1, d2, g1] => { results := [.lit (.bool false)], args := [d1, d2], vars := [g1] }
  | _ => none }
def FnExactClauseFitsWrongFalsely : Prop := fnExactClauseFitsRow.holds Tryd.pinned (OpenSpec.ofChange fnExactClauseFitsWrong)

/-- 'laws.FnClauseFits': WHATEVER THE INPUT: true; the input reads as it did. -/
def fnClauseFitsSpec : ChangeSpec := { name := "fnClauseFits", vars := ["loop.example/wayboard/impl.errNoPath"], fn := fun _ => fun
  | [d, g1] => { results := [.lit (.bool true)], args := [d], vars := [g1] }
  | _ => none }
def fnClauseFitsRow : OpenClaim := { program := "ytioppkalehnoaaadoor", sum := "44bcb0b78d742f6e3a1e662c6cc8039ebfd401f6b835a4e02e55325a15be60e2", func := "loop.example/wayboard/laws.FnClauseFits", spec := "fnClauseFits", inPlace := ["internal/reflectlite.TypeOf"], unfollowed := true, recurses := true, named := ["loop.example/wayboard/impl.errNoPath"], ifaces := true, apart := false, laid := [("loop.example/wayboard/impl.errNoPath", laid_loop_example_wayboard_impl_errNoPath)] }
def FnClauseFitsSaid : Prop := fnClauseFitsRow.holds Tryd.pinned (OpenSpec.ofChange fnClauseFitsSpec)

/-- ITS FALSE NEIGHBOUR: 'it returns false'. Refute it at one input. -/
def fnClauseFitsWrong : ChangeSpec := { name := "fnClauseFits", vars := ["loop.example/wayboard/impl.errNoPath"], fn := fun _ => fun
  | [d, g1] => { results := [.lit (.bool false)], args := [d], vars := [g1] }
  | _ => none }
def FnClauseFitsWrongFalsely : Prop := fnClauseFitsRow.holds Tryd.pinned (OpenSpec.ofChange fnClauseFitsWrong)

/-- 'laws.FnPolicyDo': WHATEVER THE INPUT: true; the input reads as it did. -/
def fnPolicyDoSpec : ChangeSpec := { name := "fnPolicyDo", vars := ["loop.example/wayboard/impl.errNoPath"], fn := fun _ => fun
  | [d, g1] => { results := [.lit (.bool true)], args := [d], vars := [g1] }
  | _ => none }
def fnPolicyDoRow : OpenClaim := { program := "ytioppkalehnoaaadoor", sum := "44bcb0b78d742f6e3a1e662c6cc8039ebfd401f6b835a4e02e55325a15be60e2", func := "loop.example/wayboard/laws.FnPolicyDo", spec := "fnPolicyDo", inPlace := ["internal/reflectlite.TypeOf", "slices.overlaps[int]"], unfollowed := true, recurses := true, named := ["loop.example/wayboard/impl.errNoPath"], ifaces := true, apart := false, laid := [("loop.example/wayboard/impl.errNoPath", laid_loop_example_wayboard_impl_errNoPath)] }
def FnPolicyDoSaid : Prop := fnPolicyDoRow.holds Tryd.pinned (OpenSpec.ofChange fnPolicyDoSpec)

/-- ITS FALSE NEIGHBOUR: 'it returns false'. Refute it at one input. -/
def fnPolicyDoWrong : ChangeSpec := { name := "fnPolicyDo", vars := ["loop.example/wayboard/impl.errNoPath"], fn := fun _ => fun
  | [d, g1] => { results := [.lit (.bool false)], args := [d], vars := [g1] }
  | _ => none }
def FnPolicyDoWrongFalsely : Prop := fnPolicyDoRow.holds Tryd.pinned (OpenSpec.ofChange fnPolicyDoWrong)

/-- 'laws.FnPolicyWay': WHATEVER THE INPUT: true; the input reads as it did. -/
def fnPolicyWaySpec : ChangeSpec := { name := "fnPolicyWay", vars := ["loop.example/wayboard/impl.errNoPath"], fn := fun _ => fun
  | [d, g1] => { results := [.lit (.bool true)], args := [d], vars := [g1] }
  | _ => none }
def fnPolicyWayRow : OpenClaim := { program := "ytioppkalehnoaaadoor", sum := "44bcb0b78d742f6e3a1e662c6cc8039ebfd401f6b835a4e02e55325a15be60e2", func := "loop.example/wayboard/laws.FnPolicyWay", spec := "fnPolicyWay", inPlace := ["internal/reflectlite.TypeOf", "slices.overlaps[int]"], unfollowed := true, recurses := true, named := ["loop.example/wayboard/impl.errNoPath"], ifaces := true, apart := false, laid := [("loop.example/wayboard/impl.errNoPath", laid_loop_example_wayboard_impl_errNoPath)] }
def FnPolicyWaySaid : Prop := fnPolicyWayRow.holds Tryd.pinned (OpenSpec.ofChange fnPolicyWaySpec)

/-- ITS FALSE NEIGHBOUR: 'it returns false'. Refute it at one input. -/
def fnPolicyWayWrong : ChangeSpec := { name := "fnPolicyWay", vars := ["loop.example/wayboard/impl.errNoPath"], fn := fun _ => fun
  | [d, g1] => { results := [.lit (.bool false)], args := [d], vars := [g1] }
  | _ => none }
def FnPolicyWayWrongFalsely : Prop := fnPolicyWayRow.holds Tryd.pinned (OpenSpec.ofChange fnPolicyWayWrong)

/-- 'laws.FnPolicyMore': WHATEVER THE INPUT: true; the input reads as it did. -/
def fnPolicyMoreSpec : ChangeSpec := { name := "fnPolicyMore", vars := ["loop.example/wayboard/impl.errNoPath"], fn := fun _ => fun
  | [d1, d2, g1] => { results := [.lit (.bool true)], args := [d1, d2], vars := [g1] }
  | _ => none }
def fnPolicyMoreRow : OpenClaim := { program := "ytioppkalehnoaaadoor", sum := "44bcb0b78d742f6e3a1e662c6cc8039ebfd401f6b835a4e02e55325a15be60e2", func := "loop.example/wayboard/laws.FnPolicyMore", spec := "fnPolicyMore", inPlace := ["internal/reflectlite.TypeOf", "slices.overlaps[int]"], unfollowed := true, recurses := true, named := ["loop.example/wayboard/impl.errNoPath"], ifaces := true, apart := false, laid := [("loop.example/wayboard/impl.errNoPath", laid_loop_example_wayboard_impl_errNoPath)] }
def FnPolicyMoreSaid : Prop := fnPolicyMoreRow.holds Tryd.pinned (OpenSpec.ofChange fnPolicyMoreSpec)

/-- ITS FALSE NEIGHBOUR: 'it returns false'. Refute it at one input. -/
def fnPolicyMoreWrong : ChangeSpec := { name := "fnPolicyMore", vars := ["loop.example/wayboard/impl.errNoPath"], fn := fun _ => fun
  | [d1, d2, g1] => { results := [.lit (.bool false)], args := [d1, d2], vars := [g1] }
  | _ => none }
def FnPolicyMoreWrongFalsely : Prop := fnPolicyMoreRow.holds Tryd.pinned (OpenSpec.ofChange fnPolicyMoreWrong)

/-- 'laws.FnPolicyNone': WHATEVER THE INPUT: true; the input reads as it did. -/
def fnPolicyNoneSpec : ChangeSpec := { name := "fnPolicyNone", vars := ["loop.example/wayboard/impl.errNoPath"], fn := fun _ => fun
  | [d, g1] => { results := [.lit (.bool true)], args := [d], vars := [g1] }
  | _ => none }
def fnPolicyNoneRow : OpenClaim := { program := "ytioppkalehnoaaadoor", sum := "44bcb0b78d742f6e3a1e662c6cc8039ebfd401f6b835a4e02e55325a15be60e2", func := "loop.example/wayboard/laws.FnPolicyNone", spec := "fnPolicyNone", inPlace := ["internal/reflectlite.TypeOf", "slices.overlaps[int]"], unfollowed := true, recurses := true, named := ["loop.example/wayboard/impl.errNoPath"], ifaces := true, apart := false, laid := [("loop.example/wayboard/impl.errNoPath", laid_loop_example_wayboard_impl_errNoPath)] }
def FnPolicyNoneSaid : Prop := fnPolicyNoneRow.holds Tryd.pinned (OpenSpec.ofChange fnPolicyNoneSpec)

/-- ITS FALSE NEIGHBOUR: 'it returns false'. Refute it at one input. -/
def fnPolicyNoneWrong : ChangeSpec := { name := "fnPolicyNone", vars := ["loop.example/wayboard/impl.errNoPath"], fn := fun _ => fun
  | [d, g1] => { results := [.lit (.bool false)], args := [d], vars := [g1] }
  | _ => none }
def FnPolicyNoneWrongFalsely : Prop := fnPolicyNoneRow.holds Tryd.pinned (OpenSpec.ofChange fnPolicyNoneWrong)

/-- 'laws.FnPolicyTwice': WHATEVER THE INPUT: true; the input reads as it did. -/
def fnPolicyTwiceSpec : ChangeSpec := { name := "fnPolicyTwice", vars := ["loop.example/wayboard/impl.errNoPath"], fn := fun _ => fun
  | [d, g1] => { results := [.lit (.bool true)], args := [d], vars := [g1] }
  | _ => none }
def fnPolicyTwiceRow : OpenClaim := { program := "ytioppkalehnoaaadoor", sum := "44bcb0b78d742f6e3a1e662c6cc8039ebfd401f6b835a4e02e55325a15be60e2", func := "loop.example/wayboard/laws.FnPolicyTwice", spec := "fnPolicyTwice", inPlace := ["internal/reflectlite.TypeOf", "slices.overlaps[int]"], unfollowed := true, recurses := true, named := ["loop.example/wayboard/impl.errNoPath"], ifaces := true, apart := false, laid := [("loop.example/wayboard/impl.errNoPath", laid_loop_example_wayboard_impl_errNoPath)] }
def FnPolicyTwiceSaid : Prop := fnPolicyTwiceRow.holds Tryd.pinned (OpenSpec.ofChange fnPolicyTwiceSpec)

/-- ITS FALSE NEIGHBOUR: 'it returns false'. Refute it at one input. -/
def fnPolicyTwiceWrong : ChangeSpec := { name := "fnPolicyTwice", vars := ["loop.example/wayboard/impl.errNoPath"], fn := fun _ => fun
  | [d, g1] => { results := [.lit (.bool false)], args := [d], vars := [g1] }
  | _ => none }
def FnPolicyTwiceWrongFalsely : Prop := fnPolicyTwiceRow.holds Tryd.pinned (OpenSpec.ofChange fnPolicyTwiceWrong)

/-- 'laws.FnPolicyFirst': WHATEVER THE INPUT: true; the input reads as it did. -/
def fnPolicyFirstSpec : ChangeSpec := { name := "fnPolicyFirst", vars := ["loop.example/wayboard/impl.errNoPath"], fn := fun _ => fun
  | [d1, d2, g1] => { results := [.lit (.bool true)], args := [d1, d2], vars := [g1] }
  | _ => none }
def fnPolicyFirstRow : OpenClaim := { program := "ytioppkalehnoaaadoor", sum := "44bcb0b78d742f6e3a1e662c6cc8039ebfd401f6b835a4e02e55325a15be60e2", func := "loop.example/wayboard/laws.FnPolicyFirst", spec := "fnPolicyFirst", inPlace := ["internal/reflectlite.TypeOf", "slices.overlaps[int]"], unfollowed := true, recurses := true, named := ["loop.example/wayboard/impl.errNoPath"], ifaces := true, apart := false, laid := [("loop.example/wayboard/impl.errNoPath", laid_loop_example_wayboard_impl_errNoPath)] }
def FnPolicyFirstSaid : Prop := fnPolicyFirstRow.holds Tryd.pinned (OpenSpec.ofChange fnPolicyFirstSpec)

/-- ITS FALSE NEIGHBOUR: 'it returns false'. Refute it at one input. -/
def fnPolicyFirstWrong : ChangeSpec := { name := "fnPolicyFirst", vars := ["loop.example/wayboard/impl.errNoPath"], fn := fun _ => fun
  | [d1, d2, g1] => { results := [.lit (.bool false)], args := [d1, d2], vars := [g1] }
  | _ => none }
def FnPolicyFirstWrongFalsely : Prop := fnPolicyFirstRow.holds Tryd.pinned (OpenSpec.ofChange fnPolicyFirstWrong)

/-- 'laws.FnRefuseAll': WHATEVER THE INPUT: true; the input reads as it did. -/
def fnRefuseAllSpec : ChangeSpec := { name := "fnRefuseAll", vars := ["loop.example/wayboard/impl.errNoPath"], fn := fun _ => fun
  | [d, g1] => { results := [.lit (.bool true)], args := [d], vars := [g1] }
  | _ => none }
def fnRefuseAllRow : OpenClaim := { program := "ytioppkalehnoaaadoor", sum := "44bcb0b78d742f6e3a1e662c6cc8039ebfd401f6b835a4e02e55325a15be60e2", func := "loop.example/wayboard/laws.FnRefuseAll", spec := "fnRefuseAll", inPlace := ["internal/reflectlite.TypeOf", "slices.overlaps[int]"], unfollowed := true, recurses := true, named := ["loop.example/wayboard/impl.errNoPath"], ifaces := true, apart := false, laid := [("loop.example/wayboard/impl.errNoPath", laid_loop_example_wayboard_impl_errNoPath)] }
def FnRefuseAllSaid : Prop := fnRefuseAllRow.holds Tryd.pinned (OpenSpec.ofChange fnRefuseAllSpec)

/-- ITS FALSE NEIGHBOUR: 'it returns false'. Refute it at one input. -/
def fnRefuseAllWrong : ChangeSpec := { name := "fnRefuseAll", vars := ["loop.example/wayboard/impl.errNoPath"], fn := fun _ => fun
  | [d, g1] => { results := [.lit (.bool false)], args := [d], vars := [g1] }
  | _ => none }
def FnRefuseAllWrongFalsely : Prop := fnRefuseAllRow.holds Tryd.pinned (OpenSpec.ofChange fnRefuseAllWrong)

/- THE SECOND FORM. 'bulk': how many values and letters a reading holds, each counted each time it is reached (what is shared counts as often as it is met; a slice's spare places count too). A statement '..UptoSaid' is the law's where the arguments, and the package variables that the reading takes, are together of bulk at most 1048576: NARROWER than '..Said'. Prove '..Said' where nothing that the law and all that it calls make is longer than what came in: it says more and counts as full. Else prove '..UptoSaid'. A law counts once. -/
mutual
def uptoBulk {H : Type} : DataW H → Nat
  | .lit (.string bytes) => bytes.length + 1
  | .lit _ => 1
  | .nil => 1
  | .ptr d => uptoBulk d + 1
  | .slice elems spare => uptoBulkAll elems + uptoBulkAll spare + 1
  | .agg parts => uptoBulkAll parts + 1
  | .iface _ d => uptoBulk d + 1
  | .map entries => uptoBulkEntries entries + 1
  | .held _ => 1
def uptoBulkAll {H : Type} : List (DataW H) → Nat
  | [] => 0
  | d :: r => uptoBulk d + uptoBulkAll r
def uptoBulkEntries {H : Type} : List (Lit × DataW H) → Nat
  | [] => 0
  | x :: r => uptoBulkEntry x + uptoBulkEntries r
def uptoBulkEntry {H : Type} : Lit × DataW H → Nat
  | (.string bytes, d) => bytes.length + uptoBulk d + 1
  | (_, d) => uptoBulk d + 1
 end
def uptoSmall : (H : Type) → List (DataW H) → Bool := fun _ ds => decide (uptoBulkAll ds ≤ 1048576)
def OpenSpec.upto (s : _root_.Go.ChangeSpec) : _root_.Go.OpenSpec := { _root_.Go.OpenSpec.ofChange s with cond := some uptoSmall }

/-- 'laws.FnExactClauseFits', WHERE WHAT IT READS IS OF BULK AT MOST 1048576: true; the input reads as it did. -/
def fnExactClauseFitsUptoRow : OpenClaim := { program := "ytioppkalehnoaaadoor", sum := "44bcb0b78d742f6e3a1e662c6cc8039ebfd401f6b835a4e02e55325a15be60e2", func := "loop.example/wayboard/laws.FnExactClauseFits", spec := "fnExactClauseFits", inPlace := ["internal/reflectlite.TypeOf"], unfollowed := true, recurses := true, named := ["loop.example/wayboard/impl.errNoPath"], ifaces := true, apart := false, laid := [("loop.example/wayboard/impl.errNoPath", laid_loop_example_wayboard_impl_errNoPath)], narrowed := true }
def FnExactClauseFitsUptoSaid : Prop := fnExactClauseFitsUptoRow.holds Tryd.pinned (OpenSpec.upto fnExactClauseFitsSpec)

/-- 'laws.FnClauseFits', WHERE WHAT IT READS IS OF BULK AT MOST 1048576: true; the input reads as it did. -/
def fnClauseFitsUptoRow : OpenClaim := { program := "ytioppkalehnoaaadoor", sum := "44bcb0b78d742f6e3a1e662c6cc8039ebfd401f6b835a4e02e55325a15be60e2", func := "loop.example/wayboard/laws.FnClauseFits", spec := "fnClauseFits", inPlace := ["internal/reflectlite.TypeOf"], unfollowed := true, recurses := true, named := ["loop.example/wayboard/impl.errNoPath"], ifaces := true, apart := false, laid := [("loop.example/wayboard/impl.errNoPath", laid_loop_example_wayboard_impl_errNoPath)], narrowed := true }
def FnClauseFitsUptoSaid : Prop := fnClauseFitsUptoRow.holds Tryd.pinned (OpenSpec.upto fnClauseFitsSpec)

/-- 'laws.FnPolicyDo', WHERE WHAT IT READS IS OF BULK AT MOST 1048576: true; the input reads as it did. -/
def fnPolicyDoUptoRow : OpenClaim := { program := "ytioppkalehnoaaadoor", sum := "44bcb0b78d742f6e3a1e662c6cc8039ebfd401f6b835a4e02e55325a15be60e2", func := "loop.example/wayboard/laws.FnPolicyDo", spec := "fnPolicyDo", inPlace := ["internal/reflectlite.TypeOf", "slices.overlaps[int]"], unfollowed := true, recurses := true, named := ["loop.example/wayboard/impl.errNoPath"], ifaces := true, apart := false, laid := [("loop.example/wayboard/impl.errNoPath", laid_loop_example_wayboard_impl_errNoPath)], narrowed := true }
def FnPolicyDoUptoSaid : Prop := fnPolicyDoUptoRow.holds Tryd.pinned (OpenSpec.upto fnPolicyDoSpec)

/-- 'laws.FnPolicyWay', WHERE WHAT IT READS IS OF BULK AT MOST 1048576: true; the input reads as it did. -/
def fnPolicyWayUptoRow : OpenClaim := { program := "ytioppkalehnoaaadoor", sum := "44bcb0b78d742f6e3a1e662c6cc8039ebfd401f6b835a4e02e55325a15be60e2", func := "loop.example/wayboard/laws.FnPolicyWay", spec := "fnPolicyWay", inPlace := ["internal/reflectlite.TypeOf", "slices.overlaps[int]"], unfollowed := true, recurses := true, named := ["loop.example/wayboard/impl.errNoPath"], ifaces := true, apart := false, laid := [("loop.example/wayboard/impl.errNoPath", laid_loop_example_wayboard_impl_errNoPath)], narrowed := true }
def FnPolicyWayUptoSaid : Prop := fnPolicyWayUptoRow.holds Tryd.pinned (OpenSpec.upto fnPolicyWaySpec)

/-- 'laws.FnPolicyMore', WHERE WHAT IT READS IS OF BULK AT MOST 1048576: true; the input reads as it did. -/
def fnPolicyMoreUptoRow : OpenClaim := { program := "ytioppkalehnoaaadoor", sum := "44bcb0b78d742f6e3a1e662c6cc8039ebfd401f6b835a4e02e55325a15be60e2", func := "loop.example/wayboard/laws.FnPolicyMore", spec := "fnPolicyMore", inPlace := ["internal/reflectlite.TypeOf", "slices.overlaps[int]"], unfollowed := true, recurses := true, named := ["loop.example/wayboard/impl.errNoPath"], ifaces := true, apart := false, laid := [("loop.example/wayboard/impl.errNoPath", laid_loop_example_wayboard_impl_errNoPath)], narrowed := true }
def FnPolicyMoreUptoSaid : Prop := fnPolicyMoreUptoRow.holds Tryd.pinned (OpenSpec.upto fnPolicyMoreSpec)

/-- 'laws.FnPolicyNone', WHERE WHAT IT READS IS OF BULK AT MOST 1048576: true; the input reads as it did. -/
def fnPolicyNoneUptoRow : OpenClaim := { program := "ytioppkalehnoaaadoor", sum := "44bcb0b78d742f6e3a1e662c6cc8039ebfd401f6b835a4e02e55325a15be60e2", func := "loop.example/wayboard/laws.FnPolicyNone", spec := "fnPolicyNone", inPlace := ["internal/reflectlite.TypeOf", "slices.overlaps[int]"], unfollowed := true, recurses := true, named := ["loop.example/wayboard/impl.errNoPath"], ifaces := true, apart := false, laid := [("loop.example/wayboard/impl.errNoPath", laid_loop_example_wayboard_impl_errNoPath)], narrowed := true }
def FnPolicyNoneUptoSaid : Prop := fnPolicyNoneUptoRow.holds Tryd.pinned (OpenSpec.upto fnPolicyNoneSpec)

/-- 'laws.FnPolicyTwice', WHERE WHAT IT READS IS OF BULK AT MOST 1048576: true; the input reads as it did. -/
def fnPolicyTwiceUptoRow : OpenClaim := { program := "ytioppkalehnoaaadoor", sum := "44bcb0b78d742f6e3a1e662c6cc8039ebfd401f6b835a4e02e55325a15be60e2", func := "loop.example/wayboard/laws.FnPolicyTwice", spec := "fnPolicyTwice", inPlace := ["internal/reflectlite.TypeOf", "slices.overlaps[int]"], unfollowed := true, recurses := true, named := ["loop.example/wayboard/impl.errNoPath"], ifaces := true, apart := false, laid := [("loop.example/wayboard/impl.errNoPath", laid_loop_example_wayboard_impl_errNoPath)], narrowed := true }
def FnPolicyTwiceUptoSaid : Prop := fnPolicyTwiceUptoRow.holds Tryd.pinned (OpenSpec.upto fnPolicyTwiceSpec)

/-- 'laws.FnPolicyFirst', WHERE WHAT IT READS IS OF BULK AT MOST 1048576: true; the input reads as it did. -/
def fnPolicyFirstUptoRow : OpenClaim := { program := "ytioppkalehnoaaadoor", sum := "44bcb0b78d742f6e3a1e662c6cc8039ebfd401f6b835a4e02e55325a15be60e2", func := "loop.example/wayboard/laws.FnPolicyFirst", spec := "fnPolicyFirst", inPlace := ["internal/reflectlite.TypeOf", "slices.overlaps[int]"], unfollowed := true, recurses := true, named := ["loop.example/wayboard/impl.errNoPath"], ifaces := true, apart := false, laid := [("loop.example/wayboard/impl.errNoPath", laid_loop_example_wayboard_impl_errNoPath)], narrowed := true }
def FnPolicyFirstUptoSaid : Prop := fnPolicyFirstUptoRow.holds Tryd.pinned (OpenSpec.upto fnPolicyFirstSpec)

/-- 'laws.FnRefuseAll', WHERE WHAT IT READS IS OF BULK AT MOST 1048576: true; the input reads as it did. -/
def fnRefuseAllUptoRow : OpenClaim := { program := "ytioppkalehnoaaadoor", sum := "44bcb0b78d742f6e3a1e662c6cc8039ebfd401f6b835a4e02e55325a15be60e2", func := "loop.example/wayboard/laws.FnRefuseAll", spec := "fnRefuseAll", inPlace := ["internal/reflectlite.TypeOf", "slices.overlaps[int]"], unfollowed := true, recurses := true, named := ["loop.example/wayboard/impl.errNoPath"], ifaces := true, apart := false, laid := [("loop.example/wayboard/impl.errNoPath", laid_loop_example_wayboard_impl_errNoPath)], narrowed := true }
def FnRefuseAllUptoSaid : Prop := fnRefuseAllUptoRow.holds Tryd.pinned (OpenSpec.upto fnRefuseAllSpec)

end Rows
end Go.Proofs.YtioppkalehnoaaaDoor
