/-
  DERIVED. GIVEN WITH THE SEED: THE CARDS: each row of YtfjfcdifnfffbaaDoorRows.lean that lists a variable, with what it lists TIED to the program's text (the seventh form; the later family's looks); each row that meets fmt, with fmt's text TOLD by the authors' own Lean function (tested against real Go, not proved from fmt's source: count such statements apart). THE CARD IS WHAT COUNTS. Prove the row's statement (the work); the ties are given (YtfjfcdifnfffbaaDoorTie.lean); close each card by the builder's one call (the guide's Derived/Test/ToyasCard.lean, 'card_holds'). Laid BY PROGRAM, IN A SANDBOX (cutbox-door.mjs). By AI agents, Wed Nov 11 2026. No macro, syntax, notation, axiom, sorry.
-/
import Derived.Test.YtfjfcdifnfffbaaDoorRows
import GoSem.ClaimSeven
namespace Go.Proofs.YtfjfcdifnfffbaaDoor
namespace Rows

/-- THE TIED CARD OF 'laws.FnMark'. -/
def fnMarkCard : Claim7 := { stood := { row := fnMarkRow, standIns := [], harness := (true, "0bb2aa6ee3c92c5ea67f56059e4ea39ef8fa11f24a551d32c226c4ae8c8b7f27"), looks := true }, kinds := [], alts := [], laidByText := true, laidKinds := [.sentinel], laidTests := true, laidLooks := .later }
def FnMarkCardSaid : Prop := Claim7.holds Tryd.pinned (.plain (OpenSpec.ofChange fnMarkSpec)) fnMarkCard

/-- THE TIED CARD OF 'laws.FnClear'. -/
def fnClearCard : Claim7 := { stood := { row := fnClearRow, standIns := [], harness := (true, "0bb2aa6ee3c92c5ea67f56059e4ea39ef8fa11f24a551d32c226c4ae8c8b7f27"), looks := true }, kinds := [], alts := [], laidByText := true, laidKinds := [.sentinel], laidTests := true, laidLooks := .later }
def FnClearCardSaid : Prop := Claim7.holds Tryd.pinned (.plain (OpenSpec.ofChange fnClearSpec)) fnClearCard

/-- THE TIED CARD OF 'laws.FnMarkOrder'. -/
def fnMarkOrderCard : Claim7 := { stood := { row := fnMarkOrderRow, standIns := [], harness := (true, "0bb2aa6ee3c92c5ea67f56059e4ea39ef8fa11f24a551d32c226c4ae8c8b7f27"), looks := true }, kinds := [], alts := [], laidByText := true, laidKinds := [.sentinel], laidTests := true, laidLooks := .later }
def FnMarkOrderCardSaid : Prop := Claim7.holds Tryd.pinned (.plain (OpenSpec.ofChange fnMarkOrderSpec)) fnMarkOrderCard

/-- THE TIED CARD OF 'laws.FnRouteCmp'. -/
def fnRouteCmpCard : Claim7 := { stood := { row := fnRouteCmpRow, standIns := [], harness := (true, "0bb2aa6ee3c92c5ea67f56059e4ea39ef8fa11f24a551d32c226c4ae8c8b7f27"), looks := true }, kinds := [], alts := [], laidByText := true, laidKinds := [.sentinel], laidTests := true, laidLooks := .later }
def FnRouteCmpCardSaid : Prop := Claim7.holds Tryd.pinned (.plain (OpenSpec.ofChange fnRouteCmpSpec)) fnRouteCmpCard

/-- THE TIED CARD OF 'laws.FnBest'. -/
def fnBestCard : Claim7 := { stood := { row := fnBestRow, standIns := [], harness := (true, "0bb2aa6ee3c92c5ea67f56059e4ea39ef8fa11f24a551d32c226c4ae8c8b7f27"), looks := true }, kinds := [], alts := [], laidByText := true, laidKinds := [.sentinel], laidTests := true, laidLooks := .later }
def FnBestCardSaid : Prop := Claim7.holds Tryd.pinned (.plain (OpenSpec.ofChange fnBestSpec)) fnBestCard

/-- THE TIED CARD OF 'laws.FnBestOrder'. -/
def fnBestOrderCard : Claim7 := { stood := { row := fnBestOrderRow, standIns := [], harness := (true, "0bb2aa6ee3c92c5ea67f56059e4ea39ef8fa11f24a551d32c226c4ae8c8b7f27"), looks := true }, kinds := [], alts := [], laidByText := true, laidKinds := [.sentinel], laidTests := true, laidLooks := .later }
def FnBestOrderCardSaid : Prop := Claim7.holds Tryd.pinned (.plain (OpenSpec.ofChange fnBestOrderSpec)) fnBestOrderCard

/-- THE TIED CARD OF 'laws.FnRouteText'. -/
def fnRouteTextCard : Claim7 := { stood := { row := fnRouteTextRow, standIns := [], harness := (true, "0bb2aa6ee3c92c5ea67f56059e4ea39ef8fa11f24a551d32c226c4ae8c8b7f27"), looks := true }, kinds := [], alts := [], laidByText := true, laidKinds := [.data, .data, .data, .sentinel], laidTests := true, laidLooks := .later }
def FnRouteTextCardSaid : Prop := Claim7.holds Tryd.pinned (.plain (OpenSpec.ofChange fnRouteTextSpec)) fnRouteTextCard

/-- THE TIED CARD OF 'laws.FnRouteForm'. -/
def fnRouteFormCard : Claim7 := { stood := { row := fnRouteFormRow, standIns := [], harness := (true, "0bb2aa6ee3c92c5ea67f56059e4ea39ef8fa11f24a551d32c226c4ae8c8b7f27"), looks := true }, kinds := [], alts := [], laidByText := true, laidKinds := [.sentinel], laidTests := true, laidLooks := .later }
def FnRouteFormCardSaid : Prop := Claim7.holds Tryd.pinned (.plain (OpenSpec.ofChange fnRouteFormSpec)) fnRouteFormCard

/-- THE TIED CARD OF 'laws.FnRouteThree'. -/
def fnRouteThreeCard : Claim7 := { stood := { row := fnRouteThreeRow, standIns := [], harness := (true, "0bb2aa6ee3c92c5ea67f56059e4ea39ef8fa11f24a551d32c226c4ae8c8b7f27"), looks := true }, kinds := [], alts := [], laidByText := true, laidKinds := [.sentinel], laidTests := true, laidLooks := .later }
def FnRouteThreeCardSaid : Prop := Claim7.holds Tryd.pinned (.plain (OpenSpec.ofChange fnRouteThreeSpec)) fnRouteThreeCard

/-- THE TIED CARD OF 'laws.FnBestMore'. -/
def fnBestMoreCard : Claim7 := { stood := { row := fnBestMoreRow, standIns := [], harness := (true, "0bb2aa6ee3c92c5ea67f56059e4ea39ef8fa11f24a551d32c226c4ae8c8b7f27"), looks := true }, kinds := [], alts := [], laidByText := true, laidKinds := [.sentinel], laidTests := true, laidLooks := .later }
def FnBestMoreCardSaid : Prop := Claim7.holds Tryd.pinned (.plain (OpenSpec.ofChange fnBestMoreSpec)) fnBestMoreCard

/-- THE TIED CARD OF 'laws.FnMarkCmp'. -/
def fnMarkCmpCard : Claim7 := { stood := { row := fnMarkCmpRow, standIns := [], harness := (true, "0bb2aa6ee3c92c5ea67f56059e4ea39ef8fa11f24a551d32c226c4ae8c8b7f27"), looks := true }, kinds := [], alts := [], laidByText := true, laidKinds := [.sentinel], laidTests := true, laidLooks := .later }
def FnMarkCmpCardSaid : Prop := Claim7.holds Tryd.pinned (.plain (OpenSpec.ofChange fnMarkCmpSpec)) fnMarkCmpCard

/-- THE TIED CARD OF 'laws.FnExactRouteOk'. -/
def fnExactRouteOkCard : Claim7 := { stood := { row := fnExactRouteOkRow, standIns := [], harness := (true, "0bb2aa6ee3c92c5ea67f56059e4ea39ef8fa11f24a551d32c226c4ae8c8b7f27"), looks := true }, kinds := [], alts := [], laidByText := true, laidKinds := [.sentinel], laidTests := true, laidLooks := .later }
def FnExactRouteOkCardSaid : Prop := Claim7.holds Tryd.pinned (.plain (OpenSpec.ofChange fnExactRouteOkSpec)) fnExactRouteOkCard

/-- THE TIED CARD OF 'laws.FnExactRouteMark'. -/
def fnExactRouteMarkCard : Claim7 := { stood := { row := fnExactRouteMarkRow, standIns := [], harness := (true, "0bb2aa6ee3c92c5ea67f56059e4ea39ef8fa11f24a551d32c226c4ae8c8b7f27"), looks := true }, kinds := [], alts := [], laidByText := true, laidKinds := [.sentinel], laidTests := true, laidLooks := .later }
def FnExactRouteMarkCardSaid : Prop := Claim7.holds Tryd.pinned (.plain (OpenSpec.ofChange fnExactRouteMarkSpec)) fnExactRouteMarkCard

/-- THE TIED CARD OF 'laws.FnExactRouteClear'. -/
def fnExactRouteClearCard : Claim7 := { stood := { row := fnExactRouteClearRow, standIns := [], harness := (true, "0bb2aa6ee3c92c5ea67f56059e4ea39ef8fa11f24a551d32c226c4ae8c8b7f27"), looks := true }, kinds := [], alts := [], laidByText := true, laidKinds := [.sentinel], laidTests := true, laidLooks := .later }
def FnExactRouteClearCardSaid : Prop := Claim7.holds Tryd.pinned (.plain (OpenSpec.ofChange fnExactRouteClearSpec)) fnExactRouteClearCard

/-- THE TIED CARD OF 'laws.FnExactRouteCmp'. -/
def fnExactRouteCmpCard : Claim7 := { stood := { row := fnExactRouteCmpRow, standIns := [], harness := (true, "0bb2aa6ee3c92c5ea67f56059e4ea39ef8fa11f24a551d32c226c4ae8c8b7f27"), looks := true }, kinds := [], alts := [], laidByText := true, laidKinds := [.sentinel], laidTests := true, laidLooks := .later }
def FnExactRouteCmpCardSaid : Prop := Claim7.holds Tryd.pinned (.plain (OpenSpec.ofChange fnExactRouteCmpSpec)) fnExactRouteCmpCard

/-- THE TIED CARD OF 'laws.FnExactRouteBest'. -/
def fnExactRouteBestCard : Claim7 := { stood := { row := fnExactRouteBestRow, standIns := [], harness := (true, "0bb2aa6ee3c92c5ea67f56059e4ea39ef8fa11f24a551d32c226c4ae8c8b7f27"), looks := true }, kinds := [], alts := [], laidByText := true, laidKinds := [.sentinel], laidTests := true, laidLooks := .later }
def FnExactRouteBestCardSaid : Prop := Claim7.holds Tryd.pinned (.plain (OpenSpec.ofChange fnExactRouteBestSpec)) fnExactRouteBestCard

/-- THE TIED CARD OF 'laws.FnExactRouteText'. -/
def fnExactRouteTextCard : Claim7 := { stood := { row := fnExactRouteTextRow, standIns := [], harness := (true, "0bb2aa6ee3c92c5ea67f56059e4ea39ef8fa11f24a551d32c226c4ae8c8b7f27"), looks := true }, kinds := [], alts := [], laidByText := true, laidKinds := [.data, .data, .data, .sentinel], laidTests := true, laidLooks := .later }
def FnExactRouteTextCardSaid : Prop := Claim7.holds Tryd.pinned (.plain (OpenSpec.ofChange fnExactRouteTextSpec)) fnExactRouteTextCard

/-- THE SECOND FORM's CARD OF 'laws.FnMark'. -/
def fnMarkUptoCard : Claim7 := { stood := { row := fnMarkUptoRow, standIns := [], harness := (true, "0bb2aa6ee3c92c5ea67f56059e4ea39ef8fa11f24a551d32c226c4ae8c8b7f27"), looks := true }, kinds := [], alts := [], laidByText := true, laidKinds := [.sentinel], laidTests := true, laidLooks := .later }
def FnMarkUptoCardSaid : Prop := Claim7.holds Tryd.pinned (.plain (OpenSpec.upto fnMarkSpec)) fnMarkUptoCard

/-- THE SECOND FORM's CARD OF 'laws.FnClear'. -/
def fnClearUptoCard : Claim7 := { stood := { row := fnClearUptoRow, standIns := [], harness := (true, "0bb2aa6ee3c92c5ea67f56059e4ea39ef8fa11f24a551d32c226c4ae8c8b7f27"), looks := true }, kinds := [], alts := [], laidByText := true, laidKinds := [.sentinel], laidTests := true, laidLooks := .later }
def FnClearUptoCardSaid : Prop := Claim7.holds Tryd.pinned (.plain (OpenSpec.upto fnClearSpec)) fnClearUptoCard

/-- THE SECOND FORM's CARD OF 'laws.FnMarkOrder'. -/
def fnMarkOrderUptoCard : Claim7 := { stood := { row := fnMarkOrderUptoRow, standIns := [], harness := (true, "0bb2aa6ee3c92c5ea67f56059e4ea39ef8fa11f24a551d32c226c4ae8c8b7f27"), looks := true }, kinds := [], alts := [], laidByText := true, laidKinds := [.sentinel], laidTests := true, laidLooks := .later }
def FnMarkOrderUptoCardSaid : Prop := Claim7.holds Tryd.pinned (.plain (OpenSpec.upto fnMarkOrderSpec)) fnMarkOrderUptoCard

/-- THE SECOND FORM's CARD OF 'laws.FnRouteCmp'. -/
def fnRouteCmpUptoCard : Claim7 := { stood := { row := fnRouteCmpUptoRow, standIns := [], harness := (true, "0bb2aa6ee3c92c5ea67f56059e4ea39ef8fa11f24a551d32c226c4ae8c8b7f27"), looks := true }, kinds := [], alts := [], laidByText := true, laidKinds := [.sentinel], laidTests := true, laidLooks := .later }
def FnRouteCmpUptoCardSaid : Prop := Claim7.holds Tryd.pinned (.plain (OpenSpec.upto fnRouteCmpSpec)) fnRouteCmpUptoCard

/-- THE SECOND FORM's CARD OF 'laws.FnBest'. -/
def fnBestUptoCard : Claim7 := { stood := { row := fnBestUptoRow, standIns := [], harness := (true, "0bb2aa6ee3c92c5ea67f56059e4ea39ef8fa11f24a551d32c226c4ae8c8b7f27"), looks := true }, kinds := [], alts := [], laidByText := true, laidKinds := [.sentinel], laidTests := true, laidLooks := .later }
def FnBestUptoCardSaid : Prop := Claim7.holds Tryd.pinned (.plain (OpenSpec.upto fnBestSpec)) fnBestUptoCard

/-- THE SECOND FORM's CARD OF 'laws.FnBestOrder'. -/
def fnBestOrderUptoCard : Claim7 := { stood := { row := fnBestOrderUptoRow, standIns := [], harness := (true, "0bb2aa6ee3c92c5ea67f56059e4ea39ef8fa11f24a551d32c226c4ae8c8b7f27"), looks := true }, kinds := [], alts := [], laidByText := true, laidKinds := [.sentinel], laidTests := true, laidLooks := .later }
def FnBestOrderUptoCardSaid : Prop := Claim7.holds Tryd.pinned (.plain (OpenSpec.upto fnBestOrderSpec)) fnBestOrderUptoCard

/-- THE SECOND FORM's CARD OF 'laws.FnRouteText'. -/
def fnRouteTextUptoCard : Claim7 := { stood := { row := fnRouteTextUptoRow, standIns := [], harness := (true, "0bb2aa6ee3c92c5ea67f56059e4ea39ef8fa11f24a551d32c226c4ae8c8b7f27"), looks := true }, kinds := [], alts := [], laidByText := true, laidKinds := [.data, .data, .data, .sentinel], laidTests := true, laidLooks := .later }
def FnRouteTextUptoCardSaid : Prop := Claim7.holds Tryd.pinned (.plain (OpenSpec.upto fnRouteTextSpec)) fnRouteTextUptoCard

/-- THE SECOND FORM's CARD OF 'laws.FnRouteForm'. -/
def fnRouteFormUptoCard : Claim7 := { stood := { row := fnRouteFormUptoRow, standIns := [], harness := (true, "0bb2aa6ee3c92c5ea67f56059e4ea39ef8fa11f24a551d32c226c4ae8c8b7f27"), looks := true }, kinds := [], alts := [], laidByText := true, laidKinds := [.sentinel], laidTests := true, laidLooks := .later }
def FnRouteFormUptoCardSaid : Prop := Claim7.holds Tryd.pinned (.plain (OpenSpec.upto fnRouteFormSpec)) fnRouteFormUptoCard

/-- THE SECOND FORM's CARD OF 'laws.FnRouteThree'. -/
def fnRouteThreeUptoCard : Claim7 := { stood := { row := fnRouteThreeUptoRow, standIns := [], harness := (true, "0bb2aa6ee3c92c5ea67f56059e4ea39ef8fa11f24a551d32c226c4ae8c8b7f27"), looks := true }, kinds := [], alts := [], laidByText := true, laidKinds := [.sentinel], laidTests := true, laidLooks := .later }
def FnRouteThreeUptoCardSaid : Prop := Claim7.holds Tryd.pinned (.plain (OpenSpec.upto fnRouteThreeSpec)) fnRouteThreeUptoCard

/-- THE SECOND FORM's CARD OF 'laws.FnBestMore'. -/
def fnBestMoreUptoCard : Claim7 := { stood := { row := fnBestMoreUptoRow, standIns := [], harness := (true, "0bb2aa6ee3c92c5ea67f56059e4ea39ef8fa11f24a551d32c226c4ae8c8b7f27"), looks := true }, kinds := [], alts := [], laidByText := true, laidKinds := [.sentinel], laidTests := true, laidLooks := .later }
def FnBestMoreUptoCardSaid : Prop := Claim7.holds Tryd.pinned (.plain (OpenSpec.upto fnBestMoreSpec)) fnBestMoreUptoCard

/-- THE SECOND FORM's CARD OF 'laws.FnMarkCmp'. -/
def fnMarkCmpUptoCard : Claim7 := { stood := { row := fnMarkCmpUptoRow, standIns := [], harness := (true, "0bb2aa6ee3c92c5ea67f56059e4ea39ef8fa11f24a551d32c226c4ae8c8b7f27"), looks := true }, kinds := [], alts := [], laidByText := true, laidKinds := [.sentinel], laidTests := true, laidLooks := .later }
def FnMarkCmpUptoCardSaid : Prop := Claim7.holds Tryd.pinned (.plain (OpenSpec.upto fnMarkCmpSpec)) fnMarkCmpUptoCard

/-- THE SECOND FORM's CARD OF 'laws.FnExactRouteOk'. -/
def fnExactRouteOkUptoCard : Claim7 := { stood := { row := fnExactRouteOkUptoRow, standIns := [], harness := (true, "0bb2aa6ee3c92c5ea67f56059e4ea39ef8fa11f24a551d32c226c4ae8c8b7f27"), looks := true }, kinds := [], alts := [], laidByText := true, laidKinds := [.sentinel], laidTests := true, laidLooks := .later }
def FnExactRouteOkUptoCardSaid : Prop := Claim7.holds Tryd.pinned (.plain (OpenSpec.upto fnExactRouteOkSpec)) fnExactRouteOkUptoCard

/-- THE SECOND FORM's CARD OF 'laws.FnExactRouteMark'. -/
def fnExactRouteMarkUptoCard : Claim7 := { stood := { row := fnExactRouteMarkUptoRow, standIns := [], harness := (true, "0bb2aa6ee3c92c5ea67f56059e4ea39ef8fa11f24a551d32c226c4ae8c8b7f27"), looks := true }, kinds := [], alts := [], laidByText := true, laidKinds := [.sentinel], laidTests := true, laidLooks := .later }
def FnExactRouteMarkUptoCardSaid : Prop := Claim7.holds Tryd.pinned (.plain (OpenSpec.upto fnExactRouteMarkSpec)) fnExactRouteMarkUptoCard

/-- THE SECOND FORM's CARD OF 'laws.FnExactRouteClear'. -/
def fnExactRouteClearUptoCard : Claim7 := { stood := { row := fnExactRouteClearUptoRow, standIns := [], harness := (true, "0bb2aa6ee3c92c5ea67f56059e4ea39ef8fa11f24a551d32c226c4ae8c8b7f27"), looks := true }, kinds := [], alts := [], laidByText := true, laidKinds := [.sentinel], laidTests := true, laidLooks := .later }
def FnExactRouteClearUptoCardSaid : Prop := Claim7.holds Tryd.pinned (.plain (OpenSpec.upto fnExactRouteClearSpec)) fnExactRouteClearUptoCard

/-- THE SECOND FORM's CARD OF 'laws.FnExactRouteCmp'. -/
def fnExactRouteCmpUptoCard : Claim7 := { stood := { row := fnExactRouteCmpUptoRow, standIns := [], harness := (true, "0bb2aa6ee3c92c5ea67f56059e4ea39ef8fa11f24a551d32c226c4ae8c8b7f27"), looks := true }, kinds := [], alts := [], laidByText := true, laidKinds := [.sentinel], laidTests := true, laidLooks := .later }
def FnExactRouteCmpUptoCardSaid : Prop := Claim7.holds Tryd.pinned (.plain (OpenSpec.upto fnExactRouteCmpSpec)) fnExactRouteCmpUptoCard

/-- THE SECOND FORM's CARD OF 'laws.FnExactRouteBest'. -/
def fnExactRouteBestUptoCard : Claim7 := { stood := { row := fnExactRouteBestUptoRow, standIns := [], harness := (true, "0bb2aa6ee3c92c5ea67f56059e4ea39ef8fa11f24a551d32c226c4ae8c8b7f27"), looks := true }, kinds := [], alts := [], laidByText := true, laidKinds := [.sentinel], laidTests := true, laidLooks := .later }
def FnExactRouteBestUptoCardSaid : Prop := Claim7.holds Tryd.pinned (.plain (OpenSpec.upto fnExactRouteBestSpec)) fnExactRouteBestUptoCard

/-- THE SECOND FORM's CARD OF 'laws.FnExactRouteText'. -/
def fnExactRouteTextUptoCard : Claim7 := { stood := { row := fnExactRouteTextUptoRow, standIns := [], harness := (true, "0bb2aa6ee3c92c5ea67f56059e4ea39ef8fa11f24a551d32c226c4ae8c8b7f27"), looks := true }, kinds := [], alts := [], laidByText := true, laidKinds := [.data, .data, .data, .sentinel], laidTests := true, laidLooks := .later }
def FnExactRouteTextUptoCardSaid : Prop := Claim7.holds Tryd.pinned (.plain (OpenSpec.upto fnExactRouteTextSpec)) fnExactRouteTextUptoCard
end Rows
end Go.Proofs.YtfjfcdifnfffbaaDoor
