/-
  DERIVED. GIVEN WITH THE SEED: THE CARDS: each row of YtnabcffpficgcaaDoorRows.lean that lists a variable, with what it lists TIED to the program's text (the seventh form; the later family's looks); each row that meets fmt, with fmt's text TOLD by the authors' own Lean function (tested against real Go, not proved from fmt's source: count such statements apart). THE CARD IS WHAT COUNTS. Prove the row's statement (the work); the ties are given (YtnabcffpficgcaaDoorTie.lean); close each card by the builder's one call (the guide's Derived/Test/ToyasCard.lean, 'card_holds'). Laid BY PROGRAM, IN A SANDBOX (cutbox-door.mjs). By AI agents, Wed Nov 11 2026. No macro, syntax, notation, axiom, sorry.
-/
import Derived.Test.YtnabcffpficgcaaDoorRows
import GoSem.ClaimSeven
namespace Go.Proofs.YtnabcffpficgcaaDoor
namespace Rows

/-- THE TIED CARD OF 'laws.FnExactPathOk'. -/
def fnExactPathOkCard : Claim7 := { stood := { row := fnExactPathOkRow, standIns := [], harness := (true, "60962a863b1158a1404e685cf50b84df60811aba7f3ed286cabd232091b22334"), looks := true }, kinds := [], alts := [], laidByText := true, laidKinds := [.sentinel], laidTests := true, laidLooks := .later }
def FnExactPathOkCardSaid : Prop := Claim7.holds Tryd.pinned (.plain (OpenSpec.ofChange fnExactPathOkSpec)) fnExactPathOkCard

/-- THE TIED CARD OF 'laws.FnExactPathHas'. -/
def fnExactPathHasCard : Claim7 := { stood := { row := fnExactPathHasRow, standIns := [], harness := (true, "60962a863b1158a1404e685cf50b84df60811aba7f3ed286cabd232091b22334"), looks := true }, kinds := [], alts := [], laidByText := true, laidKinds := [.sentinel], laidTests := true, laidLooks := .later }
def FnExactPathHasCardSaid : Prop := Claim7.holds Tryd.pinned (.plain (OpenSpec.ofChange fnExactPathHasSpec)) fnExactPathHasCard

/-- THE TIED CARD OF 'laws.FnExactPathAdd'. -/
def fnExactPathAddCard : Claim7 := { stood := { row := fnExactPathAddRow, standIns := [], harness := (true, "60962a863b1158a1404e685cf50b84df60811aba7f3ed286cabd232091b22334"), looks := true }, kinds := [], alts := [], laidByText := true, laidKinds := [.sentinel], laidTests := true, laidLooks := .later }
def FnExactPathAddCardSaid : Prop := Claim7.holds Tryd.pinned (.plain (OpenSpec.ofChange fnExactPathAddSpec)) fnExactPathAddCard

/-- THE TIED CARD OF 'laws.FnExactPathText'. -/
def fnExactPathTextCard : Claim7 := { stood := { row := fnExactPathTextRow, standIns := [], harness := (true, "60962a863b1158a1404e685cf50b84df60811aba7f3ed286cabd232091b22334"), looks := true }, kinds := [], alts := [], laidByText := true, laidKinds := [.data, .data, .data, .sentinel], laidTests := true, laidLooks := .later }
def FnExactPathTextCardSaid : Prop := Claim7.holds Tryd.pinned (.plain (OpenSpec.ofChange fnExactPathTextSpec)) fnExactPathTextCard

/-- THE TIED CARD OF 'laws.FnExactPathRead'. -/
def fnExactPathReadCard : Claim7 := { stood := { row := fnExactPathReadRow, standIns := [], harness := (true, "60962a863b1158a1404e685cf50b84df60811aba7f3ed286cabd232091b22334"), looks := true }, kinds := [], alts := [], laidByText := true, laidKinds := [.data, .data, .data, .data, .sentinel, .sentinel, .sentinel, .pinned], laidTests := true, laidLooks := .later }
def FnExactPathReadCardSaid : Prop := Claim7.holds Tryd.pinned (.plain (OpenSpec.ofChange fnExactPathReadSpec)) fnExactPathReadCard

/-- THE TIED CARD OF 'laws.FnExactPathCmp'. -/
def fnExactPathCmpCard : Claim7 := { stood := { row := fnExactPathCmpRow, standIns := [], harness := (true, "60962a863b1158a1404e685cf50b84df60811aba7f3ed286cabd232091b22334"), looks := true }, kinds := [], alts := [], laidByText := true, laidKinds := [.sentinel], laidTests := true, laidLooks := .later }
def FnExactPathCmpCardSaid : Prop := Claim7.holds Tryd.pinned (.plain (OpenSpec.ofChange fnExactPathCmpSpec)) fnExactPathCmpCard

/-- THE TIED CARD OF 'laws.FnPathBack'. -/
def fnPathBackCard : Claim7 := { stood := { row := fnPathBackRow, standIns := [], harness := (true, "60962a863b1158a1404e685cf50b84df60811aba7f3ed286cabd232091b22334"), looks := true }, kinds := [], alts := [], laidByText := true, laidKinds := [.data, .data, .data, .data, .sentinel, .sentinel, .sentinel, .pinned], laidTests := true, laidLooks := .later }
def FnPathBackCardSaid : Prop := Claim7.holds Tryd.pinned (.plain (OpenSpec.ofChange fnPathBackSpec)) fnPathBackCard

/-- THE TIED CARD OF 'laws.FnPathStrict'. -/
def fnPathStrictCard : Claim7 := { stood := { row := fnPathStrictRow, standIns := [], harness := (true, "60962a863b1158a1404e685cf50b84df60811aba7f3ed286cabd232091b22334"), looks := true }, kinds := [], alts := [], laidByText := true, laidKinds := [.data, .data, .data, .data, .sentinel, .sentinel, .sentinel, .pinned], laidTests := true, laidLooks := .later }
def FnPathStrictCardSaid : Prop := Claim7.holds Tryd.pinned (.plain (OpenSpec.ofChange fnPathStrictSpec)) fnPathStrictCard

/-- THE TIED CARD OF 'laws.FnPathAdd'. -/
def fnPathAddCard : Claim7 := { stood := { row := fnPathAddRow, standIns := [], harness := (true, "60962a863b1158a1404e685cf50b84df60811aba7f3ed286cabd232091b22334"), looks := true }, kinds := [], alts := [], laidByText := true, laidKinds := [.sentinel], laidTests := true, laidLooks := .later }
def FnPathAddCardSaid : Prop := Claim7.holds Tryd.pinned (.plain (OpenSpec.ofChange fnPathAddSpec)) fnPathAddCard

/-- THE TIED CARD OF 'laws.FnPathHas'. -/
def fnPathHasCard : Claim7 := { stood := { row := fnPathHasRow, standIns := [], harness := (true, "60962a863b1158a1404e685cf50b84df60811aba7f3ed286cabd232091b22334"), looks := true }, kinds := [], alts := [], laidByText := true, laidKinds := [.sentinel], laidTests := true, laidLooks := .later }
def FnPathHasCardSaid : Prop := Claim7.holds Tryd.pinned (.plain (OpenSpec.ofChange fnPathHasSpec)) fnPathHasCard

/-- THE TIED CARD OF 'laws.FnPathCmp'. -/
def fnPathCmpCard : Claim7 := { stood := { row := fnPathCmpRow, standIns := [], harness := (true, "60962a863b1158a1404e685cf50b84df60811aba7f3ed286cabd232091b22334"), looks := true }, kinds := [], alts := [], laidByText := true, laidKinds := [.sentinel], laidTests := true, laidLooks := .later }
def FnPathCmpCardSaid : Prop := Claim7.holds Tryd.pinned (.plain (OpenSpec.ofChange fnPathCmpSpec)) fnPathCmpCard

/-- THE TIED CARD OF 'laws.FnPathThree'. -/
def fnPathThreeCard : Claim7 := { stood := { row := fnPathThreeRow, standIns := [], harness := (true, "60962a863b1158a1404e685cf50b84df60811aba7f3ed286cabd232091b22334"), looks := true }, kinds := [], alts := [], laidByText := true, laidKinds := [.sentinel], laidTests := true, laidLooks := .later }
def FnPathThreeCardSaid : Prop := Claim7.holds Tryd.pinned (.plain (OpenSpec.ofChange fnPathThreeSpec)) fnPathThreeCard

/-- THE TIED CARD OF 'laws.FnPathForm'. -/
def fnPathFormCard : Claim7 := { stood := { row := fnPathFormRow, standIns := [], harness := (true, "60962a863b1158a1404e685cf50b84df60811aba7f3ed286cabd232091b22334"), looks := true }, kinds := [], alts := [], laidByText := true, laidKinds := [.sentinel], laidTests := true, laidLooks := .later }
def FnPathFormCardSaid : Prop := Claim7.holds Tryd.pinned (.plain (OpenSpec.ofChange fnPathFormSpec)) fnPathFormCard

/-- THE TIED CARD OF 'laws.FnPathRest'. -/
def fnPathRestCard : Claim7 := { stood := { row := fnPathRestRow, standIns := [], harness := (true, "60962a863b1158a1404e685cf50b84df60811aba7f3ed286cabd232091b22334"), looks := true }, kinds := [], alts := [], laidByText := true, laidKinds := [.data, .data, .data, .sentinel], laidTests := true, laidLooks := .later }
def FnPathRestCardSaid : Prop := Claim7.holds Tryd.pinned (.plain (OpenSpec.ofChange fnPathRestSpec)) fnPathRestCard

/-- THE TIED CARD OF 'laws.FnPathTexts'. -/
def fnPathTextsCard : Claim7 := { stood := { row := fnPathTextsRow, standIns := [], harness := (true, "60962a863b1158a1404e685cf50b84df60811aba7f3ed286cabd232091b22334"), looks := true }, kinds := [], alts := [], laidByText := true, laidKinds := [.data, .data, .data, .sentinel], laidTests := true, laidLooks := .later }
def FnPathTextsCardSaid : Prop := Claim7.holds Tryd.pinned (.plain (OpenSpec.ofChange fnPathTextsSpec)) fnPathTextsCard

/-- THE SECOND FORM's CARD OF 'laws.FnExactPathOk'. -/
def fnExactPathOkUptoCard : Claim7 := { stood := { row := fnExactPathOkUptoRow, standIns := [], harness := (true, "60962a863b1158a1404e685cf50b84df60811aba7f3ed286cabd232091b22334"), looks := true }, kinds := [], alts := [], laidByText := true, laidKinds := [.sentinel], laidTests := true, laidLooks := .later }
def FnExactPathOkUptoCardSaid : Prop := Claim7.holds Tryd.pinned (.plain (OpenSpec.upto fnExactPathOkSpec)) fnExactPathOkUptoCard

/-- THE SECOND FORM's CARD OF 'laws.FnExactPathHas'. -/
def fnExactPathHasUptoCard : Claim7 := { stood := { row := fnExactPathHasUptoRow, standIns := [], harness := (true, "60962a863b1158a1404e685cf50b84df60811aba7f3ed286cabd232091b22334"), looks := true }, kinds := [], alts := [], laidByText := true, laidKinds := [.sentinel], laidTests := true, laidLooks := .later }
def FnExactPathHasUptoCardSaid : Prop := Claim7.holds Tryd.pinned (.plain (OpenSpec.upto fnExactPathHasSpec)) fnExactPathHasUptoCard

/-- THE SECOND FORM's CARD OF 'laws.FnExactPathAdd'. -/
def fnExactPathAddUptoCard : Claim7 := { stood := { row := fnExactPathAddUptoRow, standIns := [], harness := (true, "60962a863b1158a1404e685cf50b84df60811aba7f3ed286cabd232091b22334"), looks := true }, kinds := [], alts := [], laidByText := true, laidKinds := [.sentinel], laidTests := true, laidLooks := .later }
def FnExactPathAddUptoCardSaid : Prop := Claim7.holds Tryd.pinned (.plain (OpenSpec.upto fnExactPathAddSpec)) fnExactPathAddUptoCard

/-- THE SECOND FORM's CARD OF 'laws.FnExactPathText'. -/
def fnExactPathTextUptoCard : Claim7 := { stood := { row := fnExactPathTextUptoRow, standIns := [], harness := (true, "60962a863b1158a1404e685cf50b84df60811aba7f3ed286cabd232091b22334"), looks := true }, kinds := [], alts := [], laidByText := true, laidKinds := [.data, .data, .data, .sentinel], laidTests := true, laidLooks := .later }
def FnExactPathTextUptoCardSaid : Prop := Claim7.holds Tryd.pinned (.plain (OpenSpec.upto fnExactPathTextSpec)) fnExactPathTextUptoCard

/-- THE SECOND FORM's CARD OF 'laws.FnExactPathRead'. -/
def fnExactPathReadUptoCard : Claim7 := { stood := { row := fnExactPathReadUptoRow, standIns := [], harness := (true, "60962a863b1158a1404e685cf50b84df60811aba7f3ed286cabd232091b22334"), looks := true }, kinds := [], alts := [], laidByText := true, laidKinds := [.data, .data, .data, .data, .sentinel, .sentinel, .sentinel, .pinned], laidTests := true, laidLooks := .later }
def FnExactPathReadUptoCardSaid : Prop := Claim7.holds Tryd.pinned (.plain (OpenSpec.upto fnExactPathReadSpec)) fnExactPathReadUptoCard

/-- THE SECOND FORM's CARD OF 'laws.FnExactPathCmp'. -/
def fnExactPathCmpUptoCard : Claim7 := { stood := { row := fnExactPathCmpUptoRow, standIns := [], harness := (true, "60962a863b1158a1404e685cf50b84df60811aba7f3ed286cabd232091b22334"), looks := true }, kinds := [], alts := [], laidByText := true, laidKinds := [.sentinel], laidTests := true, laidLooks := .later }
def FnExactPathCmpUptoCardSaid : Prop := Claim7.holds Tryd.pinned (.plain (OpenSpec.upto fnExactPathCmpSpec)) fnExactPathCmpUptoCard

/-- THE SECOND FORM's CARD OF 'laws.FnPathBack'. -/
def fnPathBackUptoCard : Claim7 := { stood := { row := fnPathBackUptoRow, standIns := [], harness := (true, "60962a863b1158a1404e685cf50b84df60811aba7f3ed286cabd232091b22334"), looks := true }, kinds := [], alts := [], laidByText := true, laidKinds := [.data, .data, .data, .data, .sentinel, .sentinel, .sentinel, .pinned], laidTests := true, laidLooks := .later }
def FnPathBackUptoCardSaid : Prop := Claim7.holds Tryd.pinned (.plain (OpenSpec.upto fnPathBackSpec)) fnPathBackUptoCard

/-- THE SECOND FORM's CARD OF 'laws.FnPathStrict'. -/
def fnPathStrictUptoCard : Claim7 := { stood := { row := fnPathStrictUptoRow, standIns := [], harness := (true, "60962a863b1158a1404e685cf50b84df60811aba7f3ed286cabd232091b22334"), looks := true }, kinds := [], alts := [], laidByText := true, laidKinds := [.data, .data, .data, .data, .sentinel, .sentinel, .sentinel, .pinned], laidTests := true, laidLooks := .later }
def FnPathStrictUptoCardSaid : Prop := Claim7.holds Tryd.pinned (.plain (OpenSpec.upto fnPathStrictSpec)) fnPathStrictUptoCard

/-- THE SECOND FORM's CARD OF 'laws.FnPathAdd'. -/
def fnPathAddUptoCard : Claim7 := { stood := { row := fnPathAddUptoRow, standIns := [], harness := (true, "60962a863b1158a1404e685cf50b84df60811aba7f3ed286cabd232091b22334"), looks := true }, kinds := [], alts := [], laidByText := true, laidKinds := [.sentinel], laidTests := true, laidLooks := .later }
def FnPathAddUptoCardSaid : Prop := Claim7.holds Tryd.pinned (.plain (OpenSpec.upto fnPathAddSpec)) fnPathAddUptoCard

/-- THE SECOND FORM's CARD OF 'laws.FnPathHas'. -/
def fnPathHasUptoCard : Claim7 := { stood := { row := fnPathHasUptoRow, standIns := [], harness := (true, "60962a863b1158a1404e685cf50b84df60811aba7f3ed286cabd232091b22334"), looks := true }, kinds := [], alts := [], laidByText := true, laidKinds := [.sentinel], laidTests := true, laidLooks := .later }
def FnPathHasUptoCardSaid : Prop := Claim7.holds Tryd.pinned (.plain (OpenSpec.upto fnPathHasSpec)) fnPathHasUptoCard

/-- THE SECOND FORM's CARD OF 'laws.FnPathCmp'. -/
def fnPathCmpUptoCard : Claim7 := { stood := { row := fnPathCmpUptoRow, standIns := [], harness := (true, "60962a863b1158a1404e685cf50b84df60811aba7f3ed286cabd232091b22334"), looks := true }, kinds := [], alts := [], laidByText := true, laidKinds := [.sentinel], laidTests := true, laidLooks := .later }
def FnPathCmpUptoCardSaid : Prop := Claim7.holds Tryd.pinned (.plain (OpenSpec.upto fnPathCmpSpec)) fnPathCmpUptoCard

/-- THE SECOND FORM's CARD OF 'laws.FnPathThree'. -/
def fnPathThreeUptoCard : Claim7 := { stood := { row := fnPathThreeUptoRow, standIns := [], harness := (true, "60962a863b1158a1404e685cf50b84df60811aba7f3ed286cabd232091b22334"), looks := true }, kinds := [], alts := [], laidByText := true, laidKinds := [.sentinel], laidTests := true, laidLooks := .later }
def FnPathThreeUptoCardSaid : Prop := Claim7.holds Tryd.pinned (.plain (OpenSpec.upto fnPathThreeSpec)) fnPathThreeUptoCard

/-- THE SECOND FORM's CARD OF 'laws.FnPathForm'. -/
def fnPathFormUptoCard : Claim7 := { stood := { row := fnPathFormUptoRow, standIns := [], harness := (true, "60962a863b1158a1404e685cf50b84df60811aba7f3ed286cabd232091b22334"), looks := true }, kinds := [], alts := [], laidByText := true, laidKinds := [.sentinel], laidTests := true, laidLooks := .later }
def FnPathFormUptoCardSaid : Prop := Claim7.holds Tryd.pinned (.plain (OpenSpec.upto fnPathFormSpec)) fnPathFormUptoCard

/-- THE SECOND FORM's CARD OF 'laws.FnPathRest'. -/
def fnPathRestUptoCard : Claim7 := { stood := { row := fnPathRestUptoRow, standIns := [], harness := (true, "60962a863b1158a1404e685cf50b84df60811aba7f3ed286cabd232091b22334"), looks := true }, kinds := [], alts := [], laidByText := true, laidKinds := [.data, .data, .data, .sentinel], laidTests := true, laidLooks := .later }
def FnPathRestUptoCardSaid : Prop := Claim7.holds Tryd.pinned (.plain (OpenSpec.upto fnPathRestSpec)) fnPathRestUptoCard

/-- THE SECOND FORM's CARD OF 'laws.FnPathTexts'. -/
def fnPathTextsUptoCard : Claim7 := { stood := { row := fnPathTextsUptoRow, standIns := [], harness := (true, "60962a863b1158a1404e685cf50b84df60811aba7f3ed286cabd232091b22334"), looks := true }, kinds := [], alts := [], laidByText := true, laidKinds := [.data, .data, .data, .sentinel], laidTests := true, laidLooks := .later }
def FnPathTextsUptoCardSaid : Prop := Claim7.holds Tryd.pinned (.plain (OpenSpec.upto fnPathTextsSpec)) fnPathTextsUptoCard
end Rows
end Go.Proofs.YtnabcffpficgcaaDoor
