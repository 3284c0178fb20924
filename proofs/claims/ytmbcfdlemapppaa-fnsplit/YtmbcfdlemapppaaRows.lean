/-
  No cell of these rows narrows 'for every input' (looked for: loops, veiled, ifaces, maps, wideKeys, modest, calm, conditions, laid).
  DERIVED. THE GIVEN ROWS OF THIS SEAT. 18 by the template 'for every input the law returns true; each argument reads behind the call as it read before'; 0 by the template 'total and deterministic' (their statements: YtmbcfdlemapppaaTotals.lean).
  GIVEN WITH THE SEED: the statements are not yours to turn. If you find one false, say at which input.
  Laid BY PROGRAM, IN A SANDBOX (cutbox-rows.mjs): the forced cells as the released guide's own fill.sh prints them over the translation 82bbb127638a072d… (all of the seat's roots in one cut). By AI agents, Wed Nov 11 2026. No macro, syntax, notation, axiom, sorry.
-/
import Derived.Test.YtmbcfdlemapppaaChecked
import GoSem.Claim
import GoSem.ClaimJoined
import GoSem.ClaimMapViews
import Derived.JoinedTies
import Derived.KernelRfl
namespace Go.Proofs.Ytmbcfdlemapppaa
/- THE CELL 'sum', in the pinned program and in every row, IS THE sha256 OF THE DUMP (.gsa) THAT YtmbcfdlemapppaaProg.lean LOADS. Nothing in Lean hashes anything: it is a label: what it is worth is what the hold of that sum in a sandbox is worth. -/
noncomputable def Try.pinned : Pinned := { name := "ytmbcfdlemapppaa", sum := "82bbb127638a072de84df44f6a08e76a0208ef836b89687a1f4b9e4d4363c980", checked := Try.checked }
namespace Rows
def none {H : Type} : Left H := { results := [], args := [] }

/-- 'laws.FnExactTableOk': WHATEVER THE INPUT: true; the input reads as it did. -/
def fnExactTableOkSpec : ChangeSpec := { name := "fnExactTableOk", fn := fun _ => fun
  | [d] => { results := [.lit (.bool true)], args := [d] }
  | _ => none }
def fnExactTableOkRow : OpenClaim := { program := "ytmbcfdlemapppaa", sum := "82bbb127638a072de84df44f6a08e76a0208ef836b89687a1f4b9e4d4363c980", func := "loop.example/wayboard/laws.FnExactTableOk", spec := "fnExactTableOk", apart := false }
def FnExactTableOkSaid : Prop := fnExactTableOkRow.holds Try.pinned (OpenSpec.ofChange fnExactTableOkSpec)

/-- ITS FALSE NEIGHBOUR: 'it returns false'. Refute it at one input. -/
def fnExactTableOkWrong : ChangeSpec := { name := "fnExactTableOk", fn := fun _ => fun
  | [d] => { results := [.lit (.bool false)], args := [d] }
  | _ => none }
def FnExactTableOkWrongFalsely : Prop := fnExactTableOkRow.holds Try.pinned (OpenSpec.ofChange fnExactTableOkWrong)

/-- 'laws.FnExactTablePut': WHATEVER THE INPUT: true; the input reads as it did. -/
def fnExactTablePutSpec : ChangeSpec := { name := "fnExactTablePut", fn := fun _ => fun
  | [d1, d2] => { results := [.lit (.bool true)], args := [d1, d2] }
  | _ => none }
def fnExactTablePutRow : OpenClaim := { program := "ytmbcfdlemapppaa", sum := "82bbb127638a072de84df44f6a08e76a0208ef836b89687a1f4b9e4d4363c980", func := "loop.example/wayboard/laws.FnExactTablePut", spec := "fnExactTablePut", unfollowed := true, recurses := true, apart := false }
def FnExactTablePutSaid : Prop := fnExactTablePutRow.holds Try.pinned (OpenSpec.ofChange fnExactTablePutSpec)

/-- ITS FALSE NEIGHBOUR: 'it returns false'. Refute it at one input. -/
def fnExactTablePutWrong : ChangeSpec := { name := "fnExactTablePut", fn := fun _ => fun
  | [d1, d2] => { results := [.lit (.bool false)], args := [d1, d2] }
  | _ => none }
def FnExactTablePutWrongFalsely : Prop := fnExactTablePutRow.holds Try.pinned (OpenSpec.ofChange fnExactTablePutWrong)

/-- 'laws.FnExactTableDrop': WHATEVER THE INPUT: true; the input reads as it did. -/
def fnExactTableDropSpec : ChangeSpec := { name := "fnExactTableDrop", fn := fun _ => fun
  | [d1, d2] => { results := [.lit (.bool true)], args := [d1, d2] }
  | _ => none }
def fnExactTableDropRow : OpenClaim := { program := "ytmbcfdlemapppaa", sum := "82bbb127638a072de84df44f6a08e76a0208ef836b89687a1f4b9e4d4363c980", func := "loop.example/wayboard/laws.FnExactTableDrop", spec := "fnExactTableDrop", unfollowed := true, recurses := true, apart := false }
def FnExactTableDropSaid : Prop := fnExactTableDropRow.holds Try.pinned (OpenSpec.ofChange fnExactTableDropSpec)

/-- ITS FALSE NEIGHBOUR: 'it returns false'. Refute it at one input. -/
def fnExactTableDropWrong : ChangeSpec := { name := "fnExactTableDrop", fn := fun _ => fun
  | [d1, d2] => { results := [.lit (.bool false)], args := [d1, d2] }
  | _ => none }
def FnExactTableDropWrongFalsely : Prop := fnExactTableDropRow.holds Try.pinned (OpenSpec.ofChange fnExactTableDropWrong)

/-- 'laws.FnExactTableFind': WHATEVER THE INPUT: true; the input reads as it did. -/
def fnExactTableFindSpec : ChangeSpec := { name := "fnExactTableFind", fn := fun _ => fun
  | [d1, d2] => { results := [.lit (.bool true)], args := [d1, d2] }
  | _ => none }
def fnExactTableFindRow : OpenClaim := { program := "ytmbcfdlemapppaa", sum := "82bbb127638a072de84df44f6a08e76a0208ef836b89687a1f4b9e4d4363c980", func := "loop.example/wayboard/laws.FnExactTableFind", spec := "fnExactTableFind", apart := false }
def FnExactTableFindSaid : Prop := fnExactTableFindRow.holds Try.pinned (OpenSpec.ofChange fnExactTableFindSpec)

/-- ITS FALSE NEIGHBOUR: 'it returns false'. Refute it at one input. -/
def fnExactTableFindWrong : ChangeSpec := { name := "fnExactTableFind", fn := fun _ => fun
  | [d1, d2] => { results := [.lit (.bool false)], args := [d1, d2] }
  | _ => none }
def FnExactTableFindWrongFalsely : Prop := fnExactTableFindRow.holds Try.pinned (OpenSpec.ofChange fnExactTableFindWrong)

/-- 'laws.FnExactTableSame': WHATEVER THE INPUT: true; the input reads as it did. -/
def fnExactTableSameSpec : ChangeSpec := { name := "fnExactTableSame", fn := fun _ => fun
  | [d1, d2] => { results := [.lit (.bool true)], args := [d1, d2] }
  | _ => none }
def fnExactTableSameRow : OpenClaim := { program := "ytmbcfdlemapppaa", sum := "82bbb127638a072de84df44f6a08e76a0208ef836b89687a1f4b9e4d4363c980", func := "loop.example/wayboard/laws.FnExactTableSame", spec := "fnExactTableSame", apart := false }
def FnExactTableSameSaid : Prop := fnExactTableSameRow.holds Try.pinned (OpenSpec.ofChange fnExactTableSameSpec)

/-- ITS FALSE NEIGHBOUR: 'it returns false'. Refute it at one input. -/
def fnExactTableSameWrong : ChangeSpec := { name := "fnExactTableSame", fn := fun _ => fun
  | [d1, d2] => { results := [.lit (.bool false)], args := [d1, d2] }
  | _ => none }
def FnExactTableSameWrongFalsely : Prop := fnExactTableSameRow.holds Try.pinned (OpenSpec.ofChange fnExactTableSameWrong)

/-- 'laws.FnExactTableLess': WHATEVER THE INPUT: true; the input reads as it did. -/
def fnExactTableLessSpec : ChangeSpec := { name := "fnExactTableLess", fn := fun _ => fun
  | [d] => { results := [.lit (.bool true)], args := [d] }
  | _ => none }
def fnExactTableLessRow : OpenClaim := { program := "ytmbcfdlemapppaa", sum := "82bbb127638a072de84df44f6a08e76a0208ef836b89687a1f4b9e4d4363c980", func := "loop.example/wayboard/laws.FnExactTableLess", spec := "fnExactTableLess", unfollowed := true, recurses := true, apart := false }
def FnExactTableLessSaid : Prop := fnExactTableLessRow.holds Try.pinned (OpenSpec.ofChange fnExactTableLessSpec)

/-- ITS FALSE NEIGHBOUR: 'it returns false'. Refute it at one input. -/
def fnExactTableLessWrong : ChangeSpec := { name := "fnExactTableLess", fn := fun _ => fun
  | [d] => { results := [.lit (.bool false)], args := [d] }
  | _ => none }
def FnExactTableLessWrongFalsely : Prop := fnExactTableLessRow.holds Try.pinned (OpenSpec.ofChange fnExactTableLessWrong)

/-- 'laws.FnFind': WHATEVER THE INPUT: true; the input reads as it did. -/
def fnFindSpec : ChangeSpec := { name := "fnFind", fn := fun _ => fun
  | [d] => { results := [.lit (.bool true)], args := [d] }
  | _ => none }
def fnFindRow : OpenClaim := { program := "ytmbcfdlemapppaa", sum := "82bbb127638a072de84df44f6a08e76a0208ef836b89687a1f4b9e4d4363c980", func := "loop.example/wayboard/laws.FnFind", spec := "fnFind", apart := false }
def FnFindSaid : Prop := fnFindRow.holds Try.pinned (OpenSpec.ofChange fnFindSpec)

/-- ITS FALSE NEIGHBOUR: 'it returns false'. Refute it at one input. -/
def fnFindWrong : ChangeSpec := { name := "fnFind", fn := fun _ => fun
  | [d] => { results := [.lit (.bool false)], args := [d] }
  | _ => none }
def FnFindWrongFalsely : Prop := fnFindRow.holds Try.pinned (OpenSpec.ofChange fnFindWrong)

/-- 'laws.FnTablePut': WHATEVER THE INPUT: true; the input reads as it did. -/
def fnTablePutSpec : ChangeSpec := { name := "fnTablePut", fn := fun _ => fun
  | [d] => { results := [.lit (.bool true)], args := [d] }
  | _ => none }
def fnTablePutRow : OpenClaim := { program := "ytmbcfdlemapppaa", sum := "82bbb127638a072de84df44f6a08e76a0208ef836b89687a1f4b9e4d4363c980", func := "loop.example/wayboard/laws.FnTablePut", spec := "fnTablePut", unfollowed := true, recurses := true, apart := false }
def FnTablePutSaid : Prop := fnTablePutRow.holds Try.pinned (OpenSpec.ofChange fnTablePutSpec)

/-- ITS FALSE NEIGHBOUR: 'it returns false'. Refute it at one input. -/
def fnTablePutWrong : ChangeSpec := { name := "fnTablePut", fn := fun _ => fun
  | [d] => { results := [.lit (.bool false)], args := [d] }
  | _ => none }
def FnTablePutWrongFalsely : Prop := fnTablePutRow.holds Try.pinned (OpenSpec.ofChange fnTablePutWrong)

/-- 'laws.FnPutOrder': WHATEVER THE INPUT: true; the input reads as it did. -/
def fnPutOrderSpec : ChangeSpec := { name := "fnPutOrder", fn := fun _ => fun
  | [d1, d2] => { results := [.lit (.bool true)], args := [d1, d2] }
  | _ => none }
def fnPutOrderRow : OpenClaim := { program := "ytmbcfdlemapppaa", sum := "82bbb127638a072de84df44f6a08e76a0208ef836b89687a1f4b9e4d4363c980", func := "loop.example/wayboard/laws.FnPutOrder", spec := "fnPutOrder", unfollowed := true, recurses := true, apart := false }
def FnPutOrderSaid : Prop := fnPutOrderRow.holds Try.pinned (OpenSpec.ofChange fnPutOrderSpec)

/-- ITS FALSE NEIGHBOUR: 'it returns false'. Refute it at one input. -/
def fnPutOrderWrong : ChangeSpec := { name := "fnPutOrder", fn := fun _ => fun
  | [d1, d2] => { results := [.lit (.bool false)], args := [d1, d2] }
  | _ => none }
def FnPutOrderWrongFalsely : Prop := fnPutOrderRow.holds Try.pinned (OpenSpec.ofChange fnPutOrderWrong)

/-- 'laws.FnTableDrop': WHATEVER THE INPUT: true; the input reads as it did. -/
def fnTableDropSpec : ChangeSpec := { name := "fnTableDrop", fn := fun _ => fun
  | [d] => { results := [.lit (.bool true)], args := [d] }
  | _ => none }
def fnTableDropRow : OpenClaim := { program := "ytmbcfdlemapppaa", sum := "82bbb127638a072de84df44f6a08e76a0208ef836b89687a1f4b9e4d4363c980", func := "loop.example/wayboard/laws.FnTableDrop", spec := "fnTableDrop", unfollowed := true, recurses := true, apart := false }
def FnTableDropSaid : Prop := fnTableDropRow.holds Try.pinned (OpenSpec.ofChange fnTableDropSpec)

/-- ITS FALSE NEIGHBOUR: 'it returns false'. Refute it at one input. -/
def fnTableDropWrong : ChangeSpec := { name := "fnTableDrop", fn := fun _ => fun
  | [d] => { results := [.lit (.bool false)], args := [d] }
  | _ => none }
def FnTableDropWrongFalsely : Prop := fnTableDropRow.holds Try.pinned (OpenSpec.ofChange fnTableDropWrong)

/-- 'laws.FnTableSame': WHATEVER THE INPUT: true; the input reads as it did. -/
def fnTableSameSpec : ChangeSpec := { name := "fnTableSame", fn := fun _ => fun
  | [d] => { results := [.lit (.bool true)], args := [d] }
  | _ => none }
def fnTableSameRow : OpenClaim := { program := "ytmbcfdlemapppaa", sum := "82bbb127638a072de84df44f6a08e76a0208ef836b89687a1f4b9e4d4363c980", func := "loop.example/wayboard/laws.FnTableSame", spec := "fnTableSame", apart := false }
def FnTableSameSaid : Prop := fnTableSameRow.holds Try.pinned (OpenSpec.ofChange fnTableSameSpec)

/-- ITS FALSE NEIGHBOUR: 'it returns false'. Refute it at one input. -/
def fnTableSameWrong : ChangeSpec := { name := "fnTableSame", fn := fun _ => fun
  | [d] => { results := [.lit (.bool false)], args := [d] }
  | _ => none }
def FnTableSameWrongFalsely : Prop := fnTableSameRow.holds Try.pinned (OpenSpec.ofChange fnTableSameWrong)

/-- 'laws.FnTableLess': WHATEVER THE INPUT: true; the input reads as it did. -/
def fnTableLessSpec : ChangeSpec := { name := "fnTableLess", fn := fun _ => fun
  | [d] => { results := [.lit (.bool true)], args := [d] }
  | _ => none }
def fnTableLessRow : OpenClaim := { program := "ytmbcfdlemapppaa", sum := "82bbb127638a072de84df44f6a08e76a0208ef836b89687a1f4b9e4d4363c980", func := "loop.example/wayboard/laws.FnTableLess", spec := "fnTableLess", unfollowed := true, recurses := true, apart := false }
def FnTableLessSaid : Prop := fnTableLessRow.holds Try.pinned (OpenSpec.ofChange fnTableLessSpec)

/-- ITS FALSE NEIGHBOUR: 'it returns false'. Refute it at one input. -/
def fnTableLessWrong : ChangeSpec := { name := "fnTableLess", fn := fun _ => fun
  | [d] => { results := [.lit (.bool false)], args := [d] }
  | _ => none }
def FnTableLessWrongFalsely : Prop := fnTableLessRow.holds Try.pinned (OpenSpec.ofChange fnTableLessWrong)

/-- 'laws.FnTableForm': WHATEVER THE INPUT: true; the input reads as it did. -/
def fnTableFormSpec : ChangeSpec := { name := "fnTableForm", fn := fun _ => fun
  | [d1, d2] => { results := [.lit (.bool true)], args := [d1, d2] }
  | _ => none }
def fnTableFormRow : OpenClaim := { program := "ytmbcfdlemapppaa", sum := "82bbb127638a072de84df44f6a08e76a0208ef836b89687a1f4b9e4d4363c980", func := "loop.example/wayboard/laws.FnTableForm", spec := "fnTableForm", apart := false }
def FnTableFormSaid : Prop := fnTableFormRow.holds Try.pinned (OpenSpec.ofChange fnTableFormSpec)

/-- ITS FALSE NEIGHBOUR: 'it returns false'. Refute it at one input. -/
def fnTableFormWrong : ChangeSpec := { name := "fnTableForm", fn := fun _ => fun
  | [d1, d2] => { results := [.lit (.bool false)], args := [d1, d2] }
  | _ => none }
def FnTableFormWrongFalsely : Prop := fnTableFormRow.holds Try.pinned (OpenSpec.ofChange fnTableFormWrong)

/-- 'laws.FnFindAll': WHATEVER THE INPUT: true; the input reads as it did. -/
def fnFindAllSpec : ChangeSpec := { name := "fnFindAll", fn := fun _ => fun
  | [d] => { results := [.lit (.bool true)], args := [d] }
  | _ => none }
def fnFindAllRow : OpenClaim := { program := "ytmbcfdlemapppaa", sum := "82bbb127638a072de84df44f6a08e76a0208ef836b89687a1f4b9e4d4363c980", func := "loop.example/wayboard/laws.FnFindAll", spec := "fnFindAll", unfollowed := true, recurses := true, apart := false }
def FnFindAllSaid : Prop := fnFindAllRow.holds Try.pinned (OpenSpec.ofChange fnFindAllSpec)

/-- ITS FALSE NEIGHBOUR: 'it returns false'. Refute it at one input. -/
def fnFindAllWrong : ChangeSpec := { name := "fnFindAll", fn := fun _ => fun
  | [d] => { results := [.lit (.bool false)], args := [d] }
  | _ => none }
def FnFindAllWrongFalsely : Prop := fnFindAllRow.holds Try.pinned (OpenSpec.ofChange fnFindAllWrong)

/-- 'laws.FnPutSame': WHATEVER THE INPUT: true; the input reads as it did. -/
def fnPutSameSpec : ChangeSpec := { name := "fnPutSame", fn := fun _ => fun
  | [d] => { results := [.lit (.bool true)], args := [d] }
  | _ => none }
def fnPutSameRow : OpenClaim := { program := "ytmbcfdlemapppaa", sum := "82bbb127638a072de84df44f6a08e76a0208ef836b89687a1f4b9e4d4363c980", func := "loop.example/wayboard/laws.FnPutSame", spec := "fnPutSame", unfollowed := true, recurses := true, apart := false }
def FnPutSameSaid : Prop := fnPutSameRow.holds Try.pinned (OpenSpec.ofChange fnPutSameSpec)

/-- ITS FALSE NEIGHBOUR: 'it returns false'. Refute it at one input. -/
def fnPutSameWrong : ChangeSpec := { name := "fnPutSame", fn := fun _ => fun
  | [d] => { results := [.lit (.bool false)], args := [d] }
  | _ => none }
def FnPutSameWrongFalsely : Prop := fnPutSameRow.holds Try.pinned (OpenSpec.ofChange fnPutSameWrong)

/-- 'laws.FnSplit': WHATEVER THE INPUT: true; the input reads as it did. -/
def fnSplitSpec : ChangeSpec := { name := "fnSplit", fn := fun _ => fun
  | [d1, d2] => { results := [.lit (.bool true)], args := [d1, d2] }
  | _ => none }
def fnSplitRow : OpenClaim := { program := "ytmbcfdlemapppaa", sum := "82bbb127638a072de84df44f6a08e76a0208ef836b89687a1f4b9e4d4363c980", func := "loop.example/wayboard/laws.FnSplit", spec := "fnSplit", unfollowed := true, recurses := true, apart := false }
def FnSplitSaid : Prop := fnSplitRow.holds Try.pinned (OpenSpec.ofChange fnSplitSpec)

/-- ITS FALSE NEIGHBOUR: 'it returns false'. Refute it at one input. -/
def fnSplitWrong : ChangeSpec := { name := "fnSplit", fn := fun _ => fun
  | [d1, d2] => { results := [.lit (.bool false)], args := [d1, d2] }
  | _ => none }
def FnSplitWrongFalsely : Prop := fnSplitRow.holds Try.pinned (OpenSpec.ofChange fnSplitWrong)

/-- 'laws.FnFindRange': WHATEVER THE INPUT: true; the input reads as it did. -/
def fnFindRangeSpec : ChangeSpec := { name := "fnFindRange", fn := fun _ => fun
  | [d1, d2] => { results := [.lit (.bool true)], args := [d1, d2] }
  | _ => none }
def fnFindRangeRow : OpenClaim := { program := "ytmbcfdlemapppaa", sum := "82bbb127638a072de84df44f6a08e76a0208ef836b89687a1f4b9e4d4363c980", func := "loop.example/wayboard/laws.FnFindRange", spec := "fnFindRange", apart := false }
def FnFindRangeSaid : Prop := fnFindRangeRow.holds Try.pinned (OpenSpec.ofChange fnFindRangeSpec)

/-- ITS FALSE NEIGHBOUR: 'it returns false'. Refute it at one input. -/
def fnFindRangeWrong : ChangeSpec := { name := "fnFindRange", fn := fun _ => fun
  | [d1, d2] => { results := [.lit (.bool false)], args := [d1, d2] }
  | _ => none }
def FnFindRangeWrongFalsely : Prop := fnFindRangeRow.holds Try.pinned (OpenSpec.ofChange fnFindRangeWrong)

/-- 'laws.FnTableHalves': WHATEVER THE INPUT: true; the input reads as it did. -/
def fnTableHalvesSpec : ChangeSpec := { name := "fnTableHalves", fn := fun _ => fun
  | [d1, d2] => { results := [.lit (.bool true)], args := [d1, d2] }
  | _ => none }
def fnTableHalvesRow : OpenClaim := { program := "ytmbcfdlemapppaa", sum := "82bbb127638a072de84df44f6a08e76a0208ef836b89687a1f4b9e4d4363c980", func := "loop.example/wayboard/laws.FnTableHalves", spec := "fnTableHalves", unfollowed := true, recurses := true, apart := false }
def FnTableHalvesSaid : Prop := fnTableHalvesRow.holds Try.pinned (OpenSpec.ofChange fnTableHalvesSpec)

/-- ITS FALSE NEIGHBOUR: 'it returns false'. Refute it at one input. -/
def fnTableHalvesWrong : ChangeSpec := { name := "fnTableHalves", fn := fun _ => fun
  | [d1, d2] => { results := [.lit (.bool false)], args := [d1, d2] }
  | _ => none }
def FnTableHalvesWrongFalsely : Prop := fnTableHalvesRow.holds Try.pinned (OpenSpec.ofChange fnTableHalvesWrong)

/- THE SECOND FORM. 'bulk': how many values and letters a reading holds, each counted each time it is reached (what is shared counts as often as it is met; a slice's spare places count too). A statement '..UptoSaid' is the law's where the arguments, and the package variables that the reading takes, are together of bulk at most 1048576: NARROWER than '..Said'. Prove '..Said' where nothing that the law and all that it calls make is longer than what came in: it says more and counts as full. Else prove '..UptoSaid'. A law counts once. -/
mutual
def uptoBulk {H : Type} : DataW H → Nat
  | .lit (.string bytes) => bytes.length + 1
  | .lit _ => 1
  | .nil => 1
  | .ptr d => uptoBulk d + 1
  | .slice elems spare => uptoBulkAll elems + uptoBulkAll spare + 1
  | .agg parts => uptoBulkAll parts + 1
  | .iface _ d => uptoBulk d + 1
  | .map entries => uptoBulkEntries entries + 1
  | .held _ => 1
def uptoBulkAll {H : Type} : List (DataW H) → Nat
  | [] => 0
  | d :: r => uptoBulk d + uptoBulkAll r
def uptoBulkEntries {H : Type} : List (Lit × DataW H) → Nat
  | [] => 0
  | x :: r => uptoBulkEntry x + uptoBulkEntries r
def uptoBulkEntry {H : Type} : Lit × DataW H → Nat
  | (.string bytes, d) => bytes.length + uptoBulk d + 1
  | (_, d) => uptoBulk d + 1
 end
def uptoSmall : (H : Type) → List (DataW H) → Bool := fun _ ds => decide (uptoBulkAll ds ≤ 1048576)
def OpenSpec.upto (s : _root_.Go.ChangeSpec) : _root_.Go.OpenSpec := { _root_.Go.OpenSpec.ofChange s with cond := some uptoSmall }

/-- 'laws.FnExactTableOk', WHERE WHAT IT READS IS OF BULK AT MOST 1048576: true; the input reads as it did. -/
def fnExactTableOkUptoRow : OpenClaim := { program := "ytmbcfdlemapppaa", sum := "82bbb127638a072de84df44f6a08e76a0208ef836b89687a1f4b9e4d4363c980", func := "loop.example/wayboard/laws.FnExactTableOk", spec := "fnExactTableOk", apart := false, narrowed := true }
def FnExactTableOkUptoSaid : Prop := fnExactTableOkUptoRow.holds Try.pinned (OpenSpec.upto fnExactTableOkSpec)

/-- 'laws.FnExactTablePut', WHERE WHAT IT READS IS OF BULK AT MOST 1048576: true; the input reads as it did. -/
def fnExactTablePutUptoRow : OpenClaim := { program := "ytmbcfdlemapppaa", sum := "82bbb127638a072de84df44f6a08e76a0208ef836b89687a1f4b9e4d4363c980", func := "loop.example/wayboard/laws.FnExactTablePut", spec := "fnExactTablePut", unfollowed := true, recurses := true, apart := false, narrowed := true }
def FnExactTablePutUptoSaid : Prop := fnExactTablePutUptoRow.holds Try.pinned (OpenSpec.upto fnExactTablePutSpec)

/-- 'laws.FnExactTableDrop', WHERE WHAT IT READS IS OF BULK AT MOST 1048576: true; the input reads as it did. -/
def fnExactTableDropUptoRow : OpenClaim := { program := "ytmbcfdlemapppaa", sum := "82bbb127638a072de84df44f6a08e76a0208ef836b89687a1f4b9e4d4363c980", func := "loop.example/wayboard/laws.FnExactTableDrop", spec := "fnExactTableDrop", unfollowed := true, recurses := true, apart := false, narrowed := true }
def FnExactTableDropUptoSaid : Prop := fnExactTableDropUptoRow.holds Try.pinned (OpenSpec.upto fnExactTableDropSpec)

/-- 'laws.FnExactTableFind', WHERE WHAT IT READS IS OF BULK AT MOST 1048576: true; the input reads as it did. -/
def fnExactTableFindUptoRow : OpenClaim := { program := "ytmbcfdlemapppaa", sum := "82bbb127638a072de84df44f6a08e76a0208ef836b89687a1f4b9e4d4363c980", func := "loop.example/wayboard/laws.FnExactTableFind", spec := "fnExactTableFind", apart := false, narrowed := true }
def FnExactTableFindUptoSaid : Prop := fnExactTableFindUptoRow.holds Try.pinned (OpenSpec.upto fnExactTableFindSpec)

/-- 'laws.FnExactTableSame', WHERE WHAT IT READS IS OF BULK AT MOST 1048576: true; the input reads as it did. -/
def fnExactTableSameUptoRow : OpenClaim := { program := "ytmbcfdlemapppaa", sum := "82bbb127638a072de84df44f6a08e76a0208ef836b89687a1f4b9e4d4363c980", func := "loop.example/wayboard/laws.FnExactTableSame", spec := "fnExactTableSame", apart := false, narrowed := true }
def FnExactTableSameUptoSaid : Prop := fnExactTableSameUptoRow.holds Try.pinned (OpenSpec.upto fnExactTableSameSpec)

/-- 'laws.FnExactTableLess', WHERE WHAT IT READS IS OF BULK AT MOST 1048576: true; the input reads as it did. -/
def fnExactTableLessUptoRow : OpenClaim := { program := "ytmbcfdlemapppaa", sum := "82bbb127638a072de84df44f6a08e76a0208ef836b89687a1f4b9e4d4363c980", func := "loop.example/wayboard/laws.FnExactTableLess", spec := "fnExactTableLess", unfollowed := true, recurses := true, apart := false, narrowed := true }
def FnExactTableLessUptoSaid : Prop := fnExactTableLessUptoRow.holds Try.pinned (OpenSpec.upto fnExactTableLessSpec)

/-- 'laws.FnFind', WHERE WHAT IT READS IS OF BULK AT MOST 1048576: true; the input reads as it did. -/
def fnFindUptoRow : OpenClaim := { program := "ytmbcfdlemapppaa", sum := "82bbb127638a072de84df44f6a08e76a0208ef836b89687a1f4b9e4d4363c980", func := "loop.example/wayboard/laws.FnFind", spec := "fnFind", apart := false, narrowed := true }
def FnFindUptoSaid : Prop := fnFindUptoRow.holds Try.pinned (OpenSpec.upto fnFindSpec)

/-- 'laws.FnTablePut', WHERE WHAT IT READS IS OF BULK AT MOST 1048576: true; the input reads as it did. -/
def fnTablePutUptoRow : OpenClaim := { program := "ytmbcfdlemapppaa", sum := "82bbb127638a072de84df44f6a08e76a0208ef836b89687a1f4b9e4d4363c980", func := "loop.example/wayboard/laws.FnTablePut", spec := "fnTablePut", unfollowed := true, recurses := true, apart := false, narrowed := true }
def FnTablePutUptoSaid : Prop := fnTablePutUptoRow.holds Try.pinned (OpenSpec.upto fnTablePutSpec)

/-- 'laws.FnPutOrder', WHERE WHAT IT READS IS OF BULK AT MOST 1048576: true; the input reads as it did. -/
def fnPutOrderUptoRow : OpenClaim := { program := "ytmbcfdlemapppaa", sum := "82bbb127638a072de84df44f6a08e76a0208ef836b89687a1f4b9e4d4363c980", func := "loop.example/wayboard/laws.FnPutOrder", spec := "fnPutOrder", unfollowed := true, recurses := true, apart := false, narrowed := true }
def FnPutOrderUptoSaid : Prop := fnPutOrderUptoRow.holds Try.pinned (OpenSpec.upto fnPutOrderSpec)

/-- 'laws.FnTableDrop', WHERE WHAT IT READS IS OF BULK AT MOST 1048576: true; the input reads as it did. -/
def fnTableDropUptoRow : OpenClaim := { program := "ytmbcfdlemapppaa", sum := "82bbb127638a072de84df44f6a08e76a0208ef836b89687a1f4b9e4d4363c980", func := "loop.example/wayboard/laws.FnTableDrop", spec := "fnTableDrop", unfollowed := true, recurses := true, apart := false, narrowed := true }
def FnTableDropUptoSaid : Prop := fnTableDropUptoRow.holds Try.pinned (OpenSpec.upto fnTableDropSpec)

/-- 'laws.FnTableSame', WHERE WHAT IT READS IS OF BULK AT MOST 1048576: true; the input reads as it did. -/
def fnTableSameUptoRow : OpenClaim := { program := "ytmbcfdlemapppaa", sum := "82bbb127638a072de84df44f6a08e76a0208ef836b89687a1f4b9e4d4363c980", func := "loop.example/wayboard/laws.FnTableSame", spec := "fnTableSame", apart := false, narrowed := true }
def FnTableSameUptoSaid : Prop := fnTableSameUptoRow.holds Try.pinned (OpenSpec.upto fnTableSameSpec)

/-- 'laws.FnTableLess', WHERE WHAT IT READS IS OF BULK AT MOST 1048576: true; the input reads as it did. -/
def fnTableLessUptoRow : OpenClaim := { program := "ytmbcfdlemapppaa", sum := "82bbb127638a072de84df44f6a08e76a0208ef836b89687a1f4b9e4d4363c980", func := "loop.example/wayboard/laws.FnTableLess", spec := "fnTableLess", unfollowed := true, recurses := true, apart := false, narrowed := true }
def FnTableLessUptoSaid : Prop := fnTableLessUptoRow.holds Try.pinned (OpenSpec.upto fnTableLessSpec)

/-- 'laws.FnTableForm', WHERE WHAT IT READS IS OF BULK AT MOST 1048576: true; the input reads as it did. -/
def fnTableFormUptoRow : OpenClaim := { program := "ytmbcfdlemapppaa", sum := "82bbb127638a072de84df44f6a08e76a0208ef836b89687a1f4b9e4d4363c980", func := "loop.example/wayboard/laws.FnTableForm", spec := "fnTableForm", apart := false, narrowed := true }
def FnTableFormUptoSaid : Prop := fnTableFormUptoRow.holds Try.pinned (OpenSpec.upto fnTableFormSpec)

/-- 'laws.FnFindAll', WHERE WHAT IT READS IS OF BULK AT MOST 1048576: true; the input reads as it did. -/
def fnFindAllUptoRow : OpenClaim := { program := "ytmbcfdlemapppaa", sum := "82bbb127638a072de84df44f6a08e76a0208ef836b89687a1f4b9e4d4363c980", func := "loop.example/wayboard/laws.FnFindAll", spec := "fnFindAll", unfollowed := true, recurses := true, apart := false, narrowed := true }
def FnFindAllUptoSaid : Prop := fnFindAllUptoRow.holds Try.pinned (OpenSpec.upto fnFindAllSpec)

/-- 'laws.FnPutSame', WHERE WHAT IT READS IS OF BULK AT MOST 1048576: true; the input reads as it did. -/
def fnPutSameUptoRow : OpenClaim := { program := "ytmbcfdlemapppaa", sum := "82bbb127638a072de84df44f6a08e76a0208ef836b89687a1f4b9e4d4363c980", func := "loop.example/wayboard/laws.FnPutSame", spec := "fnPutSame", unfollowed := true, recurses := true, apart := false, narrowed := true }
def FnPutSameUptoSaid : Prop := fnPutSameUptoRow.holds Try.pinned (OpenSpec.upto fnPutSameSpec)

/-- 'laws.FnSplit', WHERE WHAT IT READS IS OF BULK AT MOST 1048576: true; the input reads as it did. -/
def fnSplitUptoRow : OpenClaim := { program := "ytmbcfdlemapppaa", sum := "82bbb127638a072de84df44f6a08e76a0208ef836b89687a1f4b9e4d4363c980", func := "loop.example/wayboard/laws.FnSplit", spec := "fnSplit", unfollowed := true, recurses := true, apart := false, narrowed := true }
def FnSplitUptoSaid : Prop := fnSplitUptoRow.holds Try.pinned (OpenSpec.upto fnSplitSpec)

/-- 'laws.FnFindRange', WHERE WHAT IT READS IS OF BULK AT MOST 1048576: true; the input reads as it did. -/
def fnFindRangeUptoRow : OpenClaim := { program := "ytmbcfdlemapppaa", sum := "82bbb127638a072de84df44f6a08e76a0208ef836b89687a1f4b9e4d4363c980", func := "loop.example/wayboard/laws.FnFindRange", spec := "fnFindRange", apart := false, narrowed := true }
def FnFindRangeUptoSaid : Prop := fnFindRangeUptoRow.holds Try.pinned (OpenSpec.upto fnFindRangeSpec)

/-- 'laws.FnTableHalves', WHERE WHAT IT READS IS OF BULK AT MOST 1048576: true; the input reads as it did. -/
def fnTableHalvesUptoRow : OpenClaim := { program := "ytmbcfdlemapppaa", sum := "82bbb127638a072de84df44f6a08e76a0208ef836b89687a1f4b9e4d4363c980", func := "loop.example/wayboard/laws.FnTableHalves", spec := "fnTableHalves", unfollowed := true, recurses := true, apart := false, narrowed := true }
def FnTableHalvesUptoSaid : Prop := fnTableHalvesUptoRow.holds Try.pinned (OpenSpec.upto fnTableHalvesSpec)

end Rows
end Go.Proofs.Ytmbcfdlemapppaa
