/-
  DERIVED. GIVEN WITH THE SEED: THE CARDS: each row of YtioppkalehnoaaaDoorRows.lean that lists a variable, with what it lists TIED to the program's text (the seventh form; the later family's looks); each row that meets fmt, with fmt's text TOLD by the authors' own Lean function (tested against real Go, not proved from fmt's source: count such statements apart). THE CARD IS WHAT COUNTS. Prove the row's statement (the work); the ties are given (YtioppkalehnoaaaDoorTie.lean); close each card by the builder's one call (the guide's Derived/Test/ToyasCard.lean, 'card_holds'). Laid BY PROGRAM, IN A SANDBOX (cutbox-door.mjs). By AI agents, Wed Nov 11 2026. No macro, syntax, notation, axiom, sorry.
-/
import Derived.Test.YtioppkalehnoaaaDoorRows
import GoSem.ClaimSeven
namespace Go.Proofs.YtioppkalehnoaaaDoor
namespace Rows

/-- THE TIED CARD OF 'laws.FnExactClauseFits'. -/
def fnExactClauseFitsCard : Claim7 := { stood := { row := fnExactClauseFitsRow, standIns := [], harness := (true, "145f0c1f203b46d2a11229c7cf47109b2479c5865a47702010fdba0fe870b878"), looks := true }, kinds := [], alts := [], laidByText := true, laidKinds := [.sentinel], laidTests := true, laidLooks := .later }
def FnExactClauseFitsCardSaid : Prop := Claim7.holds Tryd.pinned (.plain (OpenSpec.ofChange fnExactClauseFitsSpec)) fnExactClauseFitsCard

/-- THE TIED CARD OF 'laws.FnClauseFits'. -/
def fnClauseFitsCard : Claim7 := { stood := { row := fnClauseFitsRow, standIns := [], harness := (true, "145f0c1f203b46d2a11229c7cf47109b2479c5865a47702010fdba0fe870b878"), looks := true }, kinds := [], alts := [], laidByText := true, laidKinds := [.sentinel], laidTests := true, laidLooks := .later }
def FnClauseFitsCardSaid : Prop := Claim7.holds Tryd.pinned (.plain (OpenSpec.ofChange fnClauseFitsSpec)) fnClauseFitsCard

/-- THE TIED CARD OF 'laws.FnPolicyDo'. -/
def fnPolicyDoCard : Claim7 := { stood := { row := fnPolicyDoRow, standIns := [], harness := (true, "145f0c1f203b46d2a11229c7cf47109b2479c5865a47702010fdba0fe870b878"), looks := true }, kinds := [], alts := [], laidByText := true, laidKinds := [.sentinel], laidTests := true, laidLooks := .later }
def FnPolicyDoCardSaid : Prop := Claim7.holds Tryd.pinned (.plain (OpenSpec.ofChange fnPolicyDoSpec)) fnPolicyDoCard

/-- THE TIED CARD OF 'laws.FnPolicyWay'. -/
def fnPolicyWayCard : Claim7 := { stood := { row := fnPolicyWayRow, standIns := [], harness := (true, "145f0c1f203b46d2a11229c7cf47109b2479c5865a47702010fdba0fe870b878"), looks := true }, kinds := [], alts := [], laidByText := true, laidKinds := [.sentinel], laidTests := true, laidLooks := .later }
def FnPolicyWayCardSaid : Prop := Claim7.holds Tryd.pinned (.plain (OpenSpec.ofChange fnPolicyWaySpec)) fnPolicyWayCard

/-- THE TIED CARD OF 'laws.FnPolicyMore'. -/
def fnPolicyMoreCard : Claim7 := { stood := { row := fnPolicyMoreRow, standIns := [], harness := (true, "145f0c1f203b46d2a11229c7cf47109b2479c5865a47702010fdba0fe870b878"), looks := true }, kinds := [], alts := [], laidByText := true, laidKinds := [.sentinel], laidTests := true, laidLooks := .later }
def FnPolicyMoreCardSaid : Prop := Claim7.holds Tryd.pinned (.plain (OpenSpec.ofChange fnPolicyMoreSpec)) fnPolicyMoreCard

/-- THE TIED CARD OF 'laws.FnPolicyNone'. -/
def fnPolicyNoneCard : Claim7 := { stood := { row := fnPolicyNoneRow, standIns := [], harness := (true, "145f0c1f203b46d2a11229c7cf47109b2479c5865a47702010fdba0fe870b878"), looks := true }, kinds := [], alts := [], laidByText := true, laidKinds := [.sentinel], laidTests := true, laidLooks := .later }
def FnPolicyNoneCardSaid : Prop := Claim7.holds Tryd.pinned (.plain (OpenSpec.ofChange fnPolicyNoneSpec)) fnPolicyNoneCard

/-- THE TIED CARD OF 'laws.FnPolicyTwice'. -/
def fnPolicyTwiceCard : Claim7 := { stood := { row := fnPolicyTwiceRow, standIns := [], harness := (true, "145f0c1f203b46d2a11229c7cf47109b2479c5865a47702010fdba0fe870b878"), looks := true }, kinds := [], alts := [], laidByText := true, laidKinds := [.sentinel], laidTests := true, laidLooks := .later }
def FnPolicyTwiceCardSaid : Prop := Claim7.holds Tryd.pinned (.plain (OpenSpec.ofChange fnPolicyTwiceSpec)) fnPolicyTwiceCard

/-- THE TIED CARD OF 'laws.FnPolicyFirst'. -/
def fnPolicyFirstCard : Claim7 := { stood := { row := fnPolicyFirstRow, standIns := [], harness := (true, "145f0c1f203b46d2a11229c7cf47109b2479c5865a47702010fdba0fe870b878"), looks := true }, kinds := [], alts := [], laidByText := true, laidKinds := [.sentinel], laidTests := true, laidLooks := .later }
def FnPolicyFirstCardSaid : Prop := Claim7.holds Tryd.pinned (.plain (OpenSpec.ofChange fnPolicyFirstSpec)) fnPolicyFirstCard

/-- THE TIED CARD OF 'laws.FnRefuseAll'. -/
def fnRefuseAllCard : Claim7 := { stood := { row := fnRefuseAllRow, standIns := [], harness := (true, "145f0c1f203b46d2a11229c7cf47109b2479c5865a47702010fdba0fe870b878"), looks := true }, kinds := [], alts := [], laidByText := true, laidKinds := [.sentinel], laidTests := true, laidLooks := .later }
def FnRefuseAllCardSaid : Prop := Claim7.holds Tryd.pinned (.plain (OpenSpec.ofChange fnRefuseAllSpec)) fnRefuseAllCard

/-- THE SECOND FORM's CARD OF 'laws.FnExactClauseFits'. -/
def fnExactClauseFitsUptoCard : Claim7 := { stood := { row := fnExactClauseFitsUptoRow, standIns := [], harness := (true, "145f0c1f203b46d2a11229c7cf47109b2479c5865a47702010fdba0fe870b878"), looks := true }, kinds := [], alts := [], laidByText := true, laidKinds := [.sentinel], laidTests := true, laidLooks := .later }
def FnExactClauseFitsUptoCardSaid : Prop := Claim7.holds Tryd.pinned (.plain (OpenSpec.upto fnExactClauseFitsSpec)) fnExactClauseFitsUptoCard

/-- THE SECOND FORM's CARD OF 'laws.FnClauseFits'. -/
def fnClauseFitsUptoCard : Claim7 := { stood := { row := fnClauseFitsUptoRow, standIns := [], harness := (true, "145f0c1f203b46d2a11229c7cf47109b2479c5865a47702010fdba0fe870b878"), looks := true }, kinds := [], alts := [], laidByText := true, laidKinds := [.sentinel], laidTests := true, laidLooks := .later }
def FnClauseFitsUptoCardSaid : Prop := Claim7.holds Tryd.pinned (.plain (OpenSpec.upto fnClauseFitsSpec)) fnClauseFitsUptoCard

/-- THE SECOND FORM's CARD OF 'laws.FnPolicyDo'. -/
def fnPolicyDoUptoCard : Claim7 := { stood := { row := fnPolicyDoUptoRow, standIns := [], harness := (true, "145f0c1f203b46d2a11229c7cf47109b2479c5865a47702010fdba0fe870b878"), looks := true }, kinds := [], alts := [], laidByText := true, laidKinds := [.sentinel], laidTests := true, laidLooks := .later }
def FnPolicyDoUptoCardSaid : Prop := Claim7.holds Tryd.pinned (.plain (OpenSpec.upto fnPolicyDoSpec)) fnPolicyDoUptoCard

/-- THE SECOND FORM's CARD OF 'laws.FnPolicyWay'. -/
def fnPolicyWayUptoCard : Claim7 := { stood := { row := fnPolicyWayUptoRow, standIns := [], harness := (true, "145f0c1f203b46d2a11229c7cf47109b2479c5865a47702010fdba0fe870b878"), looks := true }, kinds := [], alts := [], laidByText := true, laidKinds := [.sentinel], laidTests := true, laidLooks := .later }
def FnPolicyWayUptoCardSaid : Prop := Claim7.holds Tryd.pinned (.plain (OpenSpec.upto fnPolicyWaySpec)) fnPolicyWayUptoCard

/-- THE SECOND FORM's CARD OF 'laws.FnPolicyMore'. -/
def fnPolicyMoreUptoCard : Claim7 := { stood := { row := fnPolicyMoreUptoRow, standIns := [], harness := (true, "145f0c1f203b46d2a11229c7cf47109b2479c5865a47702010fdba0fe870b878"), looks := true }, kinds := [], alts := [], laidByText := true, laidKinds := [.sentinel], laidTests := true, laidLooks := .later }
def FnPolicyMoreUptoCardSaid : Prop := Claim7.holds Tryd.pinned (.plain (OpenSpec.upto fnPolicyMoreSpec)) fnPolicyMoreUptoCard

/-- THE SECOND FORM's CARD OF 'laws.FnPolicyNone'. -/
def fnPolicyNoneUptoCard : Claim7 := { stood := { row := fnPolicyNoneUptoRow, standIns := [], harness := (true, "145f0c1f203b46d2a11229c7cf47109b2479c5865a47702010fdba0fe870b878"), looks := true }, kinds := [], alts := [], laidByText := true, laidKinds := [.sentinel], laidTests := true, laidLooks := .later }
def FnPolicyNoneUptoCardSaid : Prop := Claim7.holds Tryd.pinned (.plain (OpenSpec.upto fnPolicyNoneSpec)) fnPolicyNoneUptoCard

/-- THE SECOND FORM's CARD OF 'laws.FnPolicyTwice'. -/
def fnPolicyTwiceUptoCard : Claim7 := { stood := { row := fnPolicyTwiceUptoRow, standIns := [], harness := (true, "145f0c1f203b46d2a11229c7cf47109b2479c5865a47702010fdba0fe870b878"), looks := true }, kinds := [], alts := [], laidByText := true, laidKinds := [.sentinel], laidTests := true, laidLooks := .later }
def FnPolicyTwiceUptoCardSaid : Prop := Claim7.holds Tryd.pinned (.plain (OpenSpec.upto fnPolicyTwiceSpec)) fnPolicyTwiceUptoCard

/-- THE SECOND FORM's CARD OF 'laws.FnPolicyFirst'. -/
def fnPolicyFirstUptoCard : Claim7 := { stood := { row := fnPolicyFirstUptoRow, standIns := [], harness := (true, "145f0c1f203b46d2a11229c7cf47109b2479c5865a47702010fdba0fe870b878"), looks := true }, kinds := [], alts := [], laidByText := true, laidKinds := [.sentinel], laidTests := true, laidLooks := .later }
def FnPolicyFirstUptoCardSaid : Prop := Claim7.holds Tryd.pinned (.plain (OpenSpec.upto fnPolicyFirstSpec)) fnPolicyFirstUptoCard

/-- THE SECOND FORM's CARD OF 'laws.FnRefuseAll'. -/
def fnRefuseAllUptoCard : Claim7 := { stood := { row := fnRefuseAllUptoRow, standIns := [], harness := (true, "145f0c1f203b46d2a11229c7cf47109b2479c5865a47702010fdba0fe870b878"), looks := true }, kinds := [], alts := [], laidByText := true, laidKinds := [.sentinel], laidTests := true, laidLooks := .later }
def FnRefuseAllUptoCardSaid : Prop := Claim7.holds Tryd.pinned (.plain (OpenSpec.upto fnRefuseAllSpec)) fnRefuseAllUptoCard
end Rows
end Go.Proofs.YtioppkalehnoaaaDoor
