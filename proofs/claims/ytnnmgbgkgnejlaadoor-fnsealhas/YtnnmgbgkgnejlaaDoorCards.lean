/-
  DERIVED. GIVEN WITH THE SEED: THE CARDS: each row of YtnnmgbgkgnejlaaDoorRows.lean that lists a variable, with what it lists TIED to the program's text (the seventh form; the later family's looks); each row that meets fmt, with fmt's text TOLD by the authors' own Lean function (tested against real Go, not proved from fmt's source: count such statements apart). THE CARD IS WHAT COUNTS. Prove the row's statement (the work); the ties are given (YtnnmgbgkgnejlaaDoorTie.lean); close each card by the builder's one call (the guide's Derived/Test/ToyasCard.lean, 'card_holds'). Laid BY PROGRAM, IN A SANDBOX (cutbox-door.mjs). By AI agents, Wed Nov 11 2026. No macro, syntax, notation, axiom, sorry.
-/
import Derived.Test.YtnnmgbgkgnejlaaDoorRows
import GoSem.ClaimSeven
namespace Go.Proofs.YtnnmgbgkgnejlaaDoor
namespace Rows

/-- THE TIED CARD OF 'laws.FnSealMake'. -/
def fnSealMakeCard : Claim7 := { stood := { row := fnSealMakeRow, standIns := [], harness := (true, "1f25611235e4c7e5221f66c5cfe48938d5edce7e72471f1103661c723800e101"), looks := true }, kinds := [], alts := [], laidByText := true, laidKinds := [.data, .data, .data, .sentinel], laidTests := true, laidLooks := .later }
def FnSealMakeCardSaid : Prop := Claim7.holds Tryd.pinned (.plain (OpenSpec.ofChange fnSealMakeSpec)) fnSealMakeCard

/-- THE TIED CARD OF 'laws.FnSealHas'. -/
def fnSealHasCard : Claim7 := { stood := { row := fnSealHasRow, standIns := [], harness := (true, "1f25611235e4c7e5221f66c5cfe48938d5edce7e72471f1103661c723800e101"), looks := true }, kinds := [], alts := [], laidByText := true, laidKinds := [.data, .data, .data], laidTests := true, laidLooks := .later }
def FnSealHasCardSaid : Prop := Claim7.holds Tryd.pinned (.plain (OpenSpec.ofChange fnSealHasSpec)) fnSealHasCard

/-- THE TIED CARD OF 'laws.FnSealLacks'. -/
def fnSealLacksCard : Claim7 := { stood := { row := fnSealLacksRow, standIns := [], harness := (true, "1f25611235e4c7e5221f66c5cfe48938d5edce7e72471f1103661c723800e101"), looks := true }, kinds := [], alts := [], laidByText := true, laidKinds := [.data, .data, .data, .sentinel], laidTests := true, laidLooks := .later }
def FnSealLacksCardSaid : Prop := Claim7.holds Tryd.pinned (.plain (OpenSpec.ofChange fnSealLacksSpec)) fnSealLacksCard

/-- THE TIED CARD OF 'laws.FnSealOk'. -/
def fnSealOkCard : Claim7 := { stood := { row := fnSealOkRow, standIns := [], harness := (true, "1f25611235e4c7e5221f66c5cfe48938d5edce7e72471f1103661c723800e101"), looks := true }, kinds := [], alts := [], laidByText := true, laidKinds := [.data, .data, .data, .sentinel], laidTests := true, laidLooks := .later }
def FnSealOkCardSaid : Prop := Claim7.holds Tryd.pinned (.plain (OpenSpec.ofChange fnSealOkSpec)) fnSealOkCard

/-- THE TIED CARD OF 'laws.FnHijack'. -/
def fnHijackCard : Claim7 := { stood := { row := fnHijackRow, standIns := [], harness := (true, "1f25611235e4c7e5221f66c5cfe48938d5edce7e72471f1103661c723800e101"), looks := true }, kinds := [], alts := [], laidByText := true, laidKinds := [.data, .data, .data, .sentinel], laidTests := true, laidLooks := .later }
def FnHijackCardSaid : Prop := Claim7.holds Tryd.pinned (.plain (OpenSpec.ofChange fnHijackSpec)) fnHijackCard

/-- THE TIED CARD OF 'laws.FnShorten'. -/
def fnShortenCard : Claim7 := { stood := { row := fnShortenRow, standIns := [], harness := (true, "1f25611235e4c7e5221f66c5cfe48938d5edce7e72471f1103661c723800e101"), looks := true }, kinds := [], alts := [], laidByText := true, laidKinds := [.data, .data, .data, .sentinel], laidTests := true, laidLooks := .later }
def FnShortenCardSaid : Prop := Claim7.holds Tryd.pinned (.plain (OpenSpec.ofChange fnShortenSpec)) fnShortenCard

/-- THE TIED CARD OF 'laws.FnSealRange'. -/
def fnSealRangeCard : Claim7 := { stood := { row := fnSealRangeRow, standIns := [], harness := (true, "1f25611235e4c7e5221f66c5cfe48938d5edce7e72471f1103661c723800e101"), looks := true }, kinds := [], alts := [], laidByText := true, laidKinds := [.data, .data, .data, .sentinel], laidTests := true, laidLooks := .later }
def FnSealRangeCardSaid : Prop := Claim7.holds Tryd.pinned (.plain (OpenSpec.ofChange fnSealRangeSpec)) fnSealRangeCard

/-- THE TIED CARD OF 'laws.FnSealMore'. -/
def fnSealMoreCard : Claim7 := { stood := { row := fnSealMoreRow, standIns := [], harness := (true, "1f25611235e4c7e5221f66c5cfe48938d5edce7e72471f1103661c723800e101"), looks := true }, kinds := [], alts := [], laidByText := true, laidKinds := [.data, .data, .data, .sentinel], laidTests := true, laidLooks := .later }
def FnSealMoreCardSaid : Prop := Claim7.holds Tryd.pinned (.plain (OpenSpec.ofChange fnSealMoreSpec)) fnSealMoreCard

/-- THE TIED CARD OF 'laws.FnSealTold'. -/
def fnSealToldCard : Claim7 := { stood := { row := fnSealToldRow, standIns := [], harness := (true, "1f25611235e4c7e5221f66c5cfe48938d5edce7e72471f1103661c723800e101"), looks := true }, kinds := [], alts := [], laidByText := true, laidKinds := [.data, .data, .data, .sentinel], laidTests := true, laidLooks := .later }
def FnSealToldCardSaid : Prop := Claim7.holds Tryd.pinned (.plain (OpenSpec.ofChange fnSealToldSpec)) fnSealToldCard

/-- THE TIED CARD OF 'laws.FnExactSealMake'. -/
def fnExactSealMakeCard : Claim7 := { stood := { row := fnExactSealMakeRow, standIns := [], harness := (true, "1f25611235e4c7e5221f66c5cfe48938d5edce7e72471f1103661c723800e101"), looks := true }, kinds := [], alts := [], laidByText := true, laidKinds := [.sentinel], laidTests := true, laidLooks := .later }
def FnExactSealMakeCardSaid : Prop := Claim7.holds Tryd.pinned (.plain (OpenSpec.ofChange fnExactSealMakeSpec)) fnExactSealMakeCard

/-- THE TIED CARD OF 'laws.FnExactSealHas'. -/
def fnExactSealHasCard : Claim7 := { stood := { row := fnExactSealHasRow, standIns := [], harness := (true, "1f25611235e4c7e5221f66c5cfe48938d5edce7e72471f1103661c723800e101"), looks := true }, kinds := [], alts := [], laidByText := true, laidKinds := [.data, .data, .data], laidTests := true, laidLooks := .later }
def FnExactSealHasCardSaid : Prop := Claim7.holds Tryd.pinned (.plain (OpenSpec.ofChange fnExactSealHasSpec)) fnExactSealHasCard

/-- THE TIED CARD OF 'laws.FnExactSealLacks'. -/
def fnExactSealLacksCard : Claim7 := { stood := { row := fnExactSealLacksRow, standIns := [], harness := (true, "1f25611235e4c7e5221f66c5cfe48938d5edce7e72471f1103661c723800e101"), looks := true }, kinds := [], alts := [], laidByText := true, laidKinds := [.data, .data, .data, .sentinel], laidTests := true, laidLooks := .later }
def FnExactSealLacksCardSaid : Prop := Claim7.holds Tryd.pinned (.plain (OpenSpec.ofChange fnExactSealLacksSpec)) fnExactSealLacksCard

/-- THE TIED CARD OF 'laws.FnExactSealOk'. -/
def fnExactSealOkCard : Claim7 := { stood := { row := fnExactSealOkRow, standIns := [], harness := (true, "1f25611235e4c7e5221f66c5cfe48938d5edce7e72471f1103661c723800e101"), looks := true }, kinds := [], alts := [], laidByText := true, laidKinds := [.data, .data, .data, .sentinel], laidTests := true, laidLooks := .later }
def FnExactSealOkCardSaid : Prop := Claim7.holds Tryd.pinned (.plain (OpenSpec.ofChange fnExactSealOkSpec)) fnExactSealOkCard

/-- THE SECOND FORM's CARD OF 'laws.FnSealMake'. -/
def fnSealMakeUptoCard : Claim7 := { stood := { row := fnSealMakeUptoRow, standIns := [], harness := (true, "1f25611235e4c7e5221f66c5cfe48938d5edce7e72471f1103661c723800e101"), looks := true }, kinds := [], alts := [], laidByText := true, laidKinds := [.data, .data, .data, .sentinel], laidTests := true, laidLooks := .later }
def FnSealMakeUptoCardSaid : Prop := Claim7.holds Tryd.pinned (.plain (OpenSpec.upto fnSealMakeSpec)) fnSealMakeUptoCard

/-- THE SECOND FORM's CARD OF 'laws.FnSealHas'. -/
def fnSealHasUptoCard : Claim7 := { stood := { row := fnSealHasUptoRow, standIns := [], harness := (true, "1f25611235e4c7e5221f66c5cfe48938d5edce7e72471f1103661c723800e101"), looks := true }, kinds := [], alts := [], laidByText := true, laidKinds := [.data, .data, .data], laidTests := true, laidLooks := .later }
def FnSealHasUptoCardSaid : Prop := Claim7.holds Tryd.pinned (.plain (OpenSpec.upto fnSealHasSpec)) fnSealHasUptoCard

/-- THE SECOND FORM's CARD OF 'laws.FnSealLacks'. -/
def fnSealLacksUptoCard : Claim7 := { stood := { row := fnSealLacksUptoRow, standIns := [], harness := (true, "1f25611235e4c7e5221f66c5cfe48938d5edce7e72471f1103661c723800e101"), looks := true }, kinds := [], alts := [], laidByText := true, laidKinds := [.data, .data, .data, .sentinel], laidTests := true, laidLooks := .later }
def FnSealLacksUptoCardSaid : Prop := Claim7.holds Tryd.pinned (.plain (OpenSpec.upto fnSealLacksSpec)) fnSealLacksUptoCard

/-- THE SECOND FORM's CARD OF 'laws.FnSealOk'. -/
def fnSealOkUptoCard : Claim7 := { stood := { row := fnSealOkUptoRow, standIns := [], harness := (true, "1f25611235e4c7e5221f66c5cfe48938d5edce7e72471f1103661c723800e101"), looks := true }, kinds := [], alts := [], laidByText := true, laidKinds := [.data, .data, .data, .sentinel], laidTests := true, laidLooks := .later }
def FnSealOkUptoCardSaid : Prop := Claim7.holds Tryd.pinned (.plain (OpenSpec.upto fnSealOkSpec)) fnSealOkUptoCard

/-- THE SECOND FORM's CARD OF 'laws.FnHijack'. -/
def fnHijackUptoCard : Claim7 := { stood := { row := fnHijackUptoRow, standIns := [], harness := (true, "1f25611235e4c7e5221f66c5cfe48938d5edce7e72471f1103661c723800e101"), looks := true }, kinds := [], alts := [], laidByText := true, laidKinds := [.data, .data, .data, .sentinel], laidTests := true, laidLooks := .later }
def FnHijackUptoCardSaid : Prop := Claim7.holds Tryd.pinned (.plain (OpenSpec.upto fnHijackSpec)) fnHijackUptoCard

/-- THE SECOND FORM's CARD OF 'laws.FnShorten'. -/
def fnShortenUptoCard : Claim7 := { stood := { row := fnShortenUptoRow, standIns := [], harness := (true, "1f25611235e4c7e5221f66c5cfe48938d5edce7e72471f1103661c723800e101"), looks := true }, kinds := [], alts := [], laidByText := true, laidKinds := [.data, .data, .data, .sentinel], laidTests := true, laidLooks := .later }
def FnShortenUptoCardSaid : Prop := Claim7.holds Tryd.pinned (.plain (OpenSpec.upto fnShortenSpec)) fnShortenUptoCard

/-- THE SECOND FORM's CARD OF 'laws.FnSealRange'. -/
def fnSealRangeUptoCard : Claim7 := { stood := { row := fnSealRangeUptoRow, standIns := [], harness := (true, "1f25611235e4c7e5221f66c5cfe48938d5edce7e72471f1103661c723800e101"), looks := true }, kinds := [], alts := [], laidByText := true, laidKinds := [.data, .data, .data, .sentinel], laidTests := true, laidLooks := .later }
def FnSealRangeUptoCardSaid : Prop := Claim7.holds Tryd.pinned (.plain (OpenSpec.upto fnSealRangeSpec)) fnSealRangeUptoCard

/-- THE SECOND FORM's CARD OF 'laws.FnSealMore'. -/
def fnSealMoreUptoCard : Claim7 := { stood := { row := fnSealMoreUptoRow, standIns := [], harness := (true, "1f25611235e4c7e5221f66c5cfe48938d5edce7e72471f1103661c723800e101"), looks := true }, kinds := [], alts := [], laidByText := true, laidKinds := [.data, .data, .data, .sentinel], laidTests := true, laidLooks := .later }
def FnSealMoreUptoCardSaid : Prop := Claim7.holds Tryd.pinned (.plain (OpenSpec.upto fnSealMoreSpec)) fnSealMoreUptoCard

/-- THE SECOND FORM's CARD OF 'laws.FnSealTold'. -/
def fnSealToldUptoCard : Claim7 := { stood := { row := fnSealToldUptoRow, standIns := [], harness := (true, "1f25611235e4c7e5221f66c5cfe48938d5edce7e72471f1103661c723800e101"), looks := true }, kinds := [], alts := [], laidByText := true, laidKinds := [.data, .data, .data, .sentinel], laidTests := true, laidLooks := .later }
def FnSealToldUptoCardSaid : Prop := Claim7.holds Tryd.pinned (.plain (OpenSpec.upto fnSealToldSpec)) fnSealToldUptoCard

/-- THE SECOND FORM's CARD OF 'laws.FnExactSealMake'. -/
def fnExactSealMakeUptoCard : Claim7 := { stood := { row := fnExactSealMakeUptoRow, standIns := [], harness := (true, "1f25611235e4c7e5221f66c5cfe48938d5edce7e72471f1103661c723800e101"), looks := true }, kinds := [], alts := [], laidByText := true, laidKinds := [.sentinel], laidTests := true, laidLooks := .later }
def FnExactSealMakeUptoCardSaid : Prop := Claim7.holds Tryd.pinned (.plain (OpenSpec.upto fnExactSealMakeSpec)) fnExactSealMakeUptoCard

/-- THE SECOND FORM's CARD OF 'laws.FnExactSealHas'. -/
def fnExactSealHasUptoCard : Claim7 := { stood := { row := fnExactSealHasUptoRow, standIns := [], harness := (true, "1f25611235e4c7e5221f66c5cfe48938d5edce7e72471f1103661c723800e101"), looks := true }, kinds := [], alts := [], laidByText := true, laidKinds := [.data, .data, .data], laidTests := true, laidLooks := .later }
def FnExactSealHasUptoCardSaid : Prop := Claim7.holds Tryd.pinned (.plain (OpenSpec.upto fnExactSealHasSpec)) fnExactSealHasUptoCard

/-- THE SECOND FORM's CARD OF 'laws.FnExactSealLacks'. -/
def fnExactSealLacksUptoCard : Claim7 := { stood := { row := fnExactSealLacksUptoRow, standIns := [], harness := (true, "1f25611235e4c7e5221f66c5cfe48938d5edce7e72471f1103661c723800e101"), looks := true }, kinds := [], alts := [], laidByText := true, laidKinds := [.data, .data, .data, .sentinel], laidTests := true, laidLooks := .later }
def FnExactSealLacksUptoCardSaid : Prop := Claim7.holds Tryd.pinned (.plain (OpenSpec.upto fnExactSealLacksSpec)) fnExactSealLacksUptoCard

/-- THE SECOND FORM's CARD OF 'laws.FnExactSealOk'. -/
def fnExactSealOkUptoCard : Claim7 := { stood := { row := fnExactSealOkUptoRow, standIns := [], harness := (true, "1f25611235e4c7e5221f66c5cfe48938d5edce7e72471f1103661c723800e101"), looks := true }, kinds := [], alts := [], laidByText := true, laidKinds := [.data, .data, .data, .sentinel], laidTests := true, laidLooks := .later }
def FnExactSealOkUptoCardSaid : Prop := Claim7.holds Tryd.pinned (.plain (OpenSpec.upto fnExactSealOkSpec)) fnExactSealOkUptoCard
end Rows
end Go.Proofs.YtnnmgbgkgnejlaaDoor
