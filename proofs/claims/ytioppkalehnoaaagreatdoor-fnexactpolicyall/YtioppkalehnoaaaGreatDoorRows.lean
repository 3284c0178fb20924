/-
  NARROWER THAN 'FOR EVERY INPUT', by the rows' own cells (each row's printed sentence says how): FnExactPolicyDo: ifaces, laid · FnExactPolicyAll: ifaces, laid · FnPolicyAll: ifaces, laid.
  DERIVED. THE GIVEN ROWS OF THIS SEAT. 3 by the template 'for every input the law returns true; each argument reads behind the call as it read before'; 0 by the template 'total and deterministic' (their statements: YtioppkalehnoaaaGreatDoorTotals.lean).
  GIVEN WITH THE SEED: the statements are not yours to turn. If you find one false, say at which input.
  Laid BY PROGRAM, IN A SANDBOX (cutbox-rows.mjs): the forced cells as the released guide's own fill.sh prints them over the translation d195748ab95c7317… (all of the seat's roots in one cut). By AI agents, Wed Nov 11 2026. No macro, syntax, notation, axiom, sorry.
-/
import Derived.Test.YtioppkalehnoaaaGreatDoorChecked
import GoSem.Claim
import GoSem.ClaimJoined
import GoSem.ClaimMapViews
import Derived.JoinedTies
import Derived.KernelRfl
namespace Go.Proofs.YtioppkalehnoaaaGreatDoor
/- THE CELL 'sum', in the pinned program and in every row, IS THE sha256 OF THE DUMP (.gsa) THAT YtioppkalehnoaaaGreatDoorProg.lean LOADS. Nothing in Lean hashes anything: it is a label: what it is worth is what the hold of that sum in a sandbox is worth. -/
noncomputable def Tryz.pinned : Pinned := { name := "ytioppkalehnoaaagreatdoor", sum := "d195748ab95c7317a0b616e77e2dd81065fc43c8c4b536f9d534e06bb3a8e9d7", checked := Tryz.checked }
namespace Rows
def none {H : Type} : Left H := { results := [], args := [] }

/- WHAT THE LISTED PACKAGE-LEVEL VARIABLES READ AS WHEN THE CALL BEGINS. Each datum BY PROGRAM (the guide's laid-datum.mjs) off the statement by which the dump's own 'gosem.cut.vars' lays the variable. In a bare row this is a premise. The card (YtioppkalehnoaaaGreatDoorCards.lean) ties it to the program's text. -/
def laid_loop_example_wayboard_impl_errNoPath {H : Type} : DataW H := .iface "*errors.errorString" (.ptr (.agg [.lit (.string [97, 32, 112, 97, 116, 104, 32, 104, 97, 115, 32, 101, 97, 99, 104, 32, 104, 111, 117, 115, 101, 32, 97, 116, 32, 109, 111, 115, 116, 32, 111, 110, 99, 101, 44, 32, 97, 110, 100, 32, 110, 111, 116, 104, 105, 110, 103, 32, 101, 108, 115, 101])]))

/-- 'laws.FnExactPolicyDo': WHATEVER THE INPUT: true; the input reads as it did. -/
def fnExactPolicyDoSpec : ChangeSpec := { name := "fnExactPolicyDo", vars := ["loop.example/wayboard/impl.errNoPath"], fn := fun _ => fun
  | [d1, d2, g1] => { results := [.lit (.bool true)], args := [d1, d2], vars := [g1] }
  | _ => none }
def fnExactPolicyDoRow : OpenClaim := { program := "ytioppkalehnoaaagreatdoor", sum := "d195748ab95c7317a0b616e77e2dd81065fc43c8c4b536f9d534e06bb3a8e9d7", func := "loop.example/wayboard/laws.FnExactPolicyDo", spec := "fnExactPolicyDo", inPlace := ["internal/reflectlite.TypeOf", "slices.overlaps[int]"], unfollowed := true, recurses := true, named := ["loop.example/wayboard/impl.errNoPath"], ifaces := true, apart := false, laid := [("loop.example/wayboard/impl.errNoPath", laid_loop_example_wayboard_impl_errNoPath)] }
def FnExactPolicyDoSaid : Prop := fnExactPolicyDoRow.holds Tryz.pinned (OpenSpec.ofChange fnExactPolicyDoSpec)

/-- ITS FALSE NEIGHBOUR: 'it returns false'. Refute it at one input. -/
def fnExactPolicyDoWrong : ChangeSpec := { name := "fnExactPolicyDo", vars := ["loop.example/wayboard/impl.errNoPath"], fn := fun _ => fun
  | [d1, d2, g1] => { results := [.lit (.bool false)], args := [d1, d2], vars := [g1] }
  | _ => none }
def FnExactPolicyDoWrongFalsely : Prop := fnExactPolicyDoRow.holds Tryz.pinned (OpenSpec.ofChange fnExactPolicyDoWrong)

/-- 'laws.FnExactPolicyAll': WHATEVER THE INPUT: true; the input reads as it did. -/
def fnExactPolicyAllSpec : ChangeSpec := { name := "fnExactPolicyAll", vars := ["loop.example/wayboard/impl.errNoPath"], fn := fun _ => fun
  | [d1, d2, g1] => { results := [.lit (.bool true)], args := [d1, d2], vars := [g1] }
  | _ => none }
def fnExactPolicyAllRow : OpenClaim := { program := "ytioppkalehnoaaagreatdoor", sum := "d195748ab95c7317a0b616e77e2dd81065fc43c8c4b536f9d534e06bb3a8e9d7", func := "loop.example/wayboard/laws.FnExactPolicyAll", spec := "fnExactPolicyAll", inPlace := ["internal/reflectlite.TypeOf", "slices.overlaps[int]"], unfollowed := true, recurses := true, named := ["loop.example/wayboard/impl.errNoPath"], ifaces := true, apart := false, laid := [("loop.example/wayboard/impl.errNoPath", laid_loop_example_wayboard_impl_errNoPath)] }
def FnExactPolicyAllSaid : Prop := fnExactPolicyAllRow.holds Tryz.pinned (OpenSpec.ofChange fnExactPolicyAllSpec)

/-- ITS FALSE NEIGHBOUR: 'it returns false'. Refute it at one input. -/
def fnExactPolicyAllWrong : ChangeSpec := { name := "fnExactPolicyAll", vars := ["loop.example/wayboard/impl.errNoPath"], fn := fun _ => fun
  | [d1, d2, g1] => { results := [.lit (.bool false)], args := [d1, d2], vars := [g1] }
  | _ => none }
def FnExactPolicyAllWrongFalsely : Prop := fnExactPolicyAllRow.holds Tryz.pinned (OpenSpec.ofChange fnExactPolicyAllWrong)

/-- 'laws.FnPolicyAll': WHATEVER THE INPUT: true; the input reads as it did. -/
def fnPolicyAllSpec : ChangeSpec := { name := "fnPolicyAll", vars := ["loop.example/wayboard/impl.errNoPath"], fn := fun _ => fun
  | [d, g1] => { results := [.lit (.bool true)], args := [d], vars := [g1] }
  | _ => none }
def fnPolicyAllRow : OpenClaim := { program := "ytioppkalehnoaaagreatdoor", sum := "d195748ab95c7317a0b616e77e2dd81065fc43c8c4b536f9d534e06bb3a8e9d7", func := "loop.example/wayboard/laws.FnPolicyAll", spec := "fnPolicyAll", inPlace := ["internal/reflectlite.TypeOf", "slices.overlaps[int]"], unfollowed := true, recurses := true, named := ["loop.example/wayboard/impl.errNoPath"], ifaces := true, apart := false, laid := [("loop.example/wayboard/impl.errNoPath", laid_loop_example_wayboard_impl_errNoPath)] }
def FnPolicyAllSaid : Prop := fnPolicyAllRow.holds Tryz.pinned (OpenSpec.ofChange fnPolicyAllSpec)

/-- ITS FALSE NEIGHBOUR: 'it returns false'. Refute it at one input. -/
def fnPolicyAllWrong : ChangeSpec := { name := "fnPolicyAll", vars := ["loop.example/wayboard/impl.errNoPath"], fn := fun _ => fun
  | [d, g1] => { results := [.lit (.bool false)], args := [d], vars := [g1] }
  | _ => none }
def FnPolicyAllWrongFalsely : Prop := fnPolicyAllRow.holds Tryz.pinned (OpenSpec.ofChange fnPolicyAllWrong)

/- THE SECOND FORM. 'bulk': how many values and letters a reading holds, each counted each time it is reached (what is shared counts as often as it is met; a slice's spare places count too). A statement '..UptoSaid' is the law's where the arguments, and the package variables that the reading takes, are together of bulk at most 1048576: NARROWER than '..Said'. Prove '..Said' where nothing that the law and all that it calls make is longer than what came in: it says more and counts as full. Else prove '..UptoSaid'. A law counts once. -/
mutual
def uptoBulk {H : Type} : DataW H → Nat
  | .lit (.string bytes) => bytes.length + 1
  | .lit _ => 1
  | .nil => 1
  | .ptr d => uptoBulk d + 1
  | .slice elems spare => uptoBulkAll elems + uptoBulkAll spare + 1
  | .agg parts => uptoBulkAll parts + 1
  | .iface _ d => uptoBulk d + 1
  | .map entries => uptoBulkEntries entries + 1
  | .held _ => 1
def uptoBulkAll {H : Type} : List (DataW H) → Nat
  | [] => 0
  | d :: r => uptoBulk d + uptoBulkAll r
def uptoBulkEntries {H : Type} : List (Lit × DataW H) → Nat
  | [] => 0
  | x :: r => uptoBulkEntry x + uptoBulkEntries r
def uptoBulkEntry {H : Type} : Lit × DataW H → Nat
  | (.string bytes, d) => bytes.length + uptoBulk d + 1
  | (_, d) => uptoBulk d + 1
 end
def uptoSmall : (H : Type) → List (DataW H) → Bool := fun _ ds => decide (uptoBulkAll ds ≤ 1048576)
def OpenSpec.upto (s : _root_.Go.ChangeSpec) : _root_.Go.OpenSpec := { _root_.Go.OpenSpec.ofChange s with cond := some uptoSmall }

/-- 'laws.FnExactPolicyDo', WHERE WHAT IT READS IS OF BULK AT MOST 1048576: true; the input reads as it did. -/
def fnExactPolicyDoUptoRow : OpenClaim := { program := "ytioppkalehnoaaagreatdoor", sum := "d195748ab95c7317a0b616e77e2dd81065fc43c8c4b536f9d534e06bb3a8e9d7", func := "loop.example/wayboard/laws.FnExactPolicyDo", spec := "fnExactPolicyDo", inPlace := ["internal/reflectlite.TypeOf", "slices.overlaps[int]"], unfollowed := true, recurses := true, named := ["loop.example/wayboard/impl.errNoPath"], ifaces := true, apart := false, laid := [("loop.example/wayboard/impl.errNoPath", laid_loop_example_wayboard_impl_errNoPath)], narrowed := true }
def FnExactPolicyDoUptoSaid : Prop := fnExactPolicyDoUptoRow.holds Tryz.pinned (OpenSpec.upto fnExactPolicyDoSpec)

/-- 'laws.FnExactPolicyAll', WHERE WHAT IT READS IS OF BULK AT MOST 1048576: true; the input reads as it did. -/
def fnExactPolicyAllUptoRow : OpenClaim := { program := "ytioppkalehnoaaagreatdoor", sum := "d195748ab95c7317a0b616e77e2dd81065fc43c8c4b536f9d534e06bb3a8e9d7", func := "loop.example/wayboard/laws.FnExactPolicyAll", spec := "fnExactPolicyAll", inPlace := ["internal/reflectlite.TypeOf", "slices.overlaps[int]"], unfollowed := true, recurses := true, named := ["loop.example/wayboard/impl.errNoPath"], ifaces := true, apart := false, laid := [("loop.example/wayboard/impl.errNoPath", laid_loop_example_wayboard_impl_errNoPath)], narrowed := true }
def FnExactPolicyAllUptoSaid : Prop := fnExactPolicyAllUptoRow.holds Tryz.pinned (OpenSpec.upto fnExactPolicyAllSpec)

/-- 'laws.FnPolicyAll', WHERE WHAT IT READS IS OF BULK AT MOST 1048576: true; the input reads as it did. -/
def fnPolicyAllUptoRow : OpenClaim := { program := "ytioppkalehnoaaagreatdoor", sum := "d195748ab95c7317a0b616e77e2dd81065fc43c8c4b536f9d534e06bb3a8e9d7", func := "loop.example/wayboard/laws.FnPolicyAll", spec := "fnPolicyAll", inPlace := ["internal/reflectlite.TypeOf", "slices.overlaps[int]"], unfollowed := true, recurses := true, named := ["loop.example/wayboard/impl.errNoPath"], ifaces := true, apart := false, laid := [("loop.example/wayboard/impl.errNoPath", laid_loop_example_wayboard_impl_errNoPath)], narrowed := true }
def FnPolicyAllUptoSaid : Prop := fnPolicyAllUptoRow.holds Tryz.pinned (OpenSpec.upto fnPolicyAllSpec)

end Rows
end Go.Proofs.YtioppkalehnoaaaGreatDoor
