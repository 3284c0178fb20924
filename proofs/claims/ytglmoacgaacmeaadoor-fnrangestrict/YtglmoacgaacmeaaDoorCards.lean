/-
  DERIVED. GIVEN WITH THE SEED: THE CARDS: each row of YtglmoacgaacmeaaDoorRows.lean that lists a variable, with what it lists TIED to the program's text (the seventh form; the later family's looks); each row that meets fmt, with fmt's text TOLD by the authors' own Lean function (tested against real Go, not proved from fmt's source: count such statements apart). THE CARD IS WHAT COUNTS. Prove the row's statement (the work); the ties are given (YtglmoacgaacmeaaDoorTie.lean); close each card by the builder's one call (the guide's Derived/Test/ToyasCard.lean, 'card_holds'). Laid BY PROGRAM, IN A SANDBOX (cutbox-door.mjs). By AI agents, Wed Nov 11 2026. No macro, syntax, notation, axiom, sorry.
-/
import Derived.Test.YtglmoacgaacmeaaDoorRows
import GoSem.ClaimSeven
namespace Go.Proofs.YtglmoacgaacmeaaDoor
namespace Rows

/-- THE TIED CARD OF 'laws.FnExactRangeText'. -/
def fnExactRangeTextCard : Claim7 := { stood := { row := fnExactRangeTextRow, standIns := [], harness := (true, "e0e3e951b7ff5818e37abb65a4c6dbdae2c2d961f91d75b7e18f47b58779b7e1"), looks := true }, kinds := [], alts := [], laidByText := true, laidKinds := [.data, .data, .data], laidTests := true, laidLooks := .later }
def FnExactRangeTextCardSaid : Prop := Claim7.holds Tryd.pinned (.plain (OpenSpec.ofChange fnExactRangeTextSpec)) fnExactRangeTextCard

/-- THE TIED CARD OF 'laws.FnExactRangeRead'. -/
def fnExactRangeReadCard : Claim7 := { stood := { row := fnExactRangeReadRow, standIns := [], harness := (true, "e0e3e951b7ff5818e37abb65a4c6dbdae2c2d961f91d75b7e18f47b58779b7e1"), looks := true }, kinds := [], alts := [], laidByText := true, laidKinds := [.data, .data, .data, .sentinel, .sentinel], laidTests := true, laidLooks := .later }
def FnExactRangeReadCardSaid : Prop := Claim7.holds Tryd.pinned (.plain (OpenSpec.ofChange fnExactRangeReadSpec)) fnExactRangeReadCard

/-- THE TIED CARD OF 'laws.FnRangeBack'. -/
def fnRangeBackCard : Claim7 := { stood := { row := fnRangeBackRow, standIns := [], harness := (true, "e0e3e951b7ff5818e37abb65a4c6dbdae2c2d961f91d75b7e18f47b58779b7e1"), looks := true }, kinds := [], alts := [], laidByText := true, laidKinds := [.data, .data, .data, .sentinel, .sentinel], laidTests := true, laidLooks := .later }
def FnRangeBackCardSaid : Prop := Claim7.holds Tryd.pinned (.plain (OpenSpec.ofChange fnRangeBackSpec)) fnRangeBackCard

/-- THE TIED CARD OF 'laws.FnRangeStrict'. -/
def fnRangeStrictCard : Claim7 := { stood := { row := fnRangeStrictRow, standIns := [], harness := (true, "e0e3e951b7ff5818e37abb65a4c6dbdae2c2d961f91d75b7e18f47b58779b7e1"), looks := true }, kinds := [], alts := [], laidByText := true, laidKinds := [.data, .data, .data, .sentinel, .sentinel], laidTests := true, laidLooks := .later }
def FnRangeStrictCardSaid : Prop := Claim7.holds Tryd.pinned (.plain (OpenSpec.ofChange fnRangeStrictSpec)) fnRangeStrictCard

/-- THE TIED CARD OF 'laws.FnRangeTexts'. -/
def fnRangeTextsCard : Claim7 := { stood := { row := fnRangeTextsRow, standIns := [], harness := (true, "e0e3e951b7ff5818e37abb65a4c6dbdae2c2d961f91d75b7e18f47b58779b7e1"), looks := true }, kinds := [], alts := [], laidByText := true, laidKinds := [.data, .data, .data], laidTests := true, laidLooks := .later }
def FnRangeTextsCardSaid : Prop := Claim7.holds Tryd.pinned (.plain (OpenSpec.ofChange fnRangeTextsSpec)) fnRangeTextsCard

/-- THE SECOND FORM's CARD OF 'laws.FnExactRangeText'. -/
def fnExactRangeTextUptoCard : Claim7 := { stood := { row := fnExactRangeTextUptoRow, standIns := [], harness := (true, "e0e3e951b7ff5818e37abb65a4c6dbdae2c2d961f91d75b7e18f47b58779b7e1"), looks := true }, kinds := [], alts := [], laidByText := true, laidKinds := [.data, .data, .data], laidTests := true, laidLooks := .later }
def FnExactRangeTextUptoCardSaid : Prop := Claim7.holds Tryd.pinned (.plain (OpenSpec.upto fnExactRangeTextSpec)) fnExactRangeTextUptoCard

/-- THE SECOND FORM's CARD OF 'laws.FnExactRangeRead'. -/
def fnExactRangeReadUptoCard : Claim7 := { stood := { row := fnExactRangeReadUptoRow, standIns := [], harness := (true, "e0e3e951b7ff5818e37abb65a4c6dbdae2c2d961f91d75b7e18f47b58779b7e1"), looks := true }, kinds := [], alts := [], laidByText := true, laidKinds := [.data, .data, .data, .sentinel, .sentinel], laidTests := true, laidLooks := .later }
def FnExactRangeReadUptoCardSaid : Prop := Claim7.holds Tryd.pinned (.plain (OpenSpec.upto fnExactRangeReadSpec)) fnExactRangeReadUptoCard

/-- THE SECOND FORM's CARD OF 'laws.FnRangeBack'. -/
def fnRangeBackUptoCard : Claim7 := { stood := { row := fnRangeBackUptoRow, standIns := [], harness := (true, "e0e3e951b7ff5818e37abb65a4c6dbdae2c2d961f91d75b7e18f47b58779b7e1"), looks := true }, kinds := [], alts := [], laidByText := true, laidKinds := [.data, .data, .data, .sentinel, .sentinel], laidTests := true, laidLooks := .later }
def FnRangeBackUptoCardSaid : Prop := Claim7.holds Tryd.pinned (.plain (OpenSpec.upto fnRangeBackSpec)) fnRangeBackUptoCard

/-- THE SECOND FORM's CARD OF 'laws.FnRangeStrict'. -/
def fnRangeStrictUptoCard : Claim7 := { stood := { row := fnRangeStrictUptoRow, standIns := [], harness := (true, "e0e3e951b7ff5818e37abb65a4c6dbdae2c2d961f91d75b7e18f47b58779b7e1"), looks := true }, kinds := [], alts := [], laidByText := true, laidKinds := [.data, .data, .data, .sentinel, .sentinel], laidTests := true, laidLooks := .later }
def FnRangeStrictUptoCardSaid : Prop := Claim7.holds Tryd.pinned (.plain (OpenSpec.upto fnRangeStrictSpec)) fnRangeStrictUptoCard

/-- THE SECOND FORM's CARD OF 'laws.FnRangeTexts'. -/
def fnRangeTextsUptoCard : Claim7 := { stood := { row := fnRangeTextsUptoRow, standIns := [], harness := (true, "e0e3e951b7ff5818e37abb65a4c6dbdae2c2d961f91d75b7e18f47b58779b7e1"), looks := true }, kinds := [], alts := [], laidByText := true, laidKinds := [.data, .data, .data], laidTests := true, laidLooks := .later }
def FnRangeTextsUptoCardSaid : Prop := Claim7.holds Tryd.pinned (.plain (OpenSpec.upto fnRangeTextsSpec)) fnRangeTextsUptoCard
end Rows
end Go.Proofs.YtglmoacgaacmeaaDoor
