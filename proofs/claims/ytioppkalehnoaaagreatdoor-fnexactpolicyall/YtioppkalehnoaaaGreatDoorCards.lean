/-
  DERIVED. GIVEN WITH THE SEED: THE CARDS: each row of YtioppkalehnoaaaGreatDoorRows.lean that lists a variable, with what it lists TIED to the program's text (the seventh form; the later family's looks); each row that meets fmt, with fmt's text TOLD by the authors' own Lean function (tested against real Go, not proved from fmt's source: count such statements apart). THE CARD IS WHAT COUNTS. Prove the row's statement (the work); the ties are given (YtioppkalehnoaaaGreatDoorTie.lean); close each card by the builder's one call (the guide's Derived/Test/ToyasCard.lean, 'card_holds'). Laid BY PROGRAM, IN A SANDBOX (cutbox-door.mjs). By AI agents, Wed Nov 11 2026. No macro, syntax, notation, axiom, sorry.
-/
import Derived.Test.YtioppkalehnoaaaGreatDoorRows
import GoSem.ClaimSeven
namespace Go.Proofs.YtioppkalehnoaaaGreatDoor
namespace Rows

/-- THE TIED CARD OF 'laws.FnExactPolicyDo'. -/
def fnExactPolicyDoCard : Claim7 := { stood := { row := fnExactPolicyDoRow, standIns := [], harness := (true, "197c31e95947821123d3f693c07c49aad9446fb9d6a200b8f5169a55bb239364"), looks := true }, kinds := [], alts := [], laidByText := true, laidKinds := [.sentinel], laidTests := true, laidLooks := .later }
def FnExactPolicyDoCardSaid : Prop := Claim7.holds Tryz.pinned (.plain (OpenSpec.ofChange fnExactPolicyDoSpec)) fnExactPolicyDoCard

/-- THE TIED CARD OF 'laws.FnExactPolicyAll'. -/
def fnExactPolicyAllCard : Claim7 := { stood := { row := fnExactPolicyAllRow, standIns := [], harness := (true, "197c31e95947821123d3f693c07c49aad9446fb9d6a200b8f5169a55bb239364"), looks := true }, kinds := [], alts := [], laidByText := true, laidKinds := [.sentinel], laidTests := true, laidLooks := .later }
def FnExactPolicyAllCardSaid : Prop := Claim7.holds Tryz.pinned (.plain (OpenSpec.ofChange fnExactPolicyAllSpec)) fnExactPolicyAllCard

/-- THE TIED CARD OF 'laws.FnPolicyAll'. -/
def fnPolicyAllCard : Claim7 := { stood := { row := fnPolicyAllRow, standIns := [], harness := (true, "197c31e95947821123d3f693c07c49aad9446fb9d6a200b8f5169a55bb239364"), looks := true }, kinds := [], alts := [], laidByText := true, laidKinds := [.sentinel], laidTests := true, laidLooks := .later }
def FnPolicyAllCardSaid : Prop := Claim7.holds Tryz.pinned (.plain (OpenSpec.ofChange fnPolicyAllSpec)) fnPolicyAllCard

/-- THE SECOND FORM's CARD OF 'laws.FnExactPolicyDo'. -/
def fnExactPolicyDoUptoCard : Claim7 := { stood := { row := fnExactPolicyDoUptoRow, standIns := [], harness := (true, "197c31e95947821123d3f693c07c49aad9446fb9d6a200b8f5169a55bb239364"), looks := true }, kinds := [], alts := [], laidByText := true, laidKinds := [.sentinel], laidTests := true, laidLooks := .later }
def FnExactPolicyDoUptoCardSaid : Prop := Claim7.holds Tryz.pinned (.plain (OpenSpec.upto fnExactPolicyDoSpec)) fnExactPolicyDoUptoCard

/-- THE SECOND FORM's CARD OF 'laws.FnExactPolicyAll'. -/
def fnExactPolicyAllUptoCard : Claim7 := { stood := { row := fnExactPolicyAllUptoRow, standIns := [], harness := (true, "197c31e95947821123d3f693c07c49aad9446fb9d6a200b8f5169a55bb239364"), looks := true }, kinds := [], alts := [], laidByText := true, laidKinds := [.sentinel], laidTests := true, laidLooks := .later }
def FnExactPolicyAllUptoCardSaid : Prop := Claim7.holds Tryz.pinned (.plain (OpenSpec.upto fnExactPolicyAllSpec)) fnExactPolicyAllUptoCard

/-- THE SECOND FORM's CARD OF 'laws.FnPolicyAll'. -/
def fnPolicyAllUptoCard : Claim7 := { stood := { row := fnPolicyAllUptoRow, standIns := [], harness := (true, "197c31e95947821123d3f693c07c49aad9446fb9d6a200b8f5169a55bb239364"), looks := true }, kinds := [], alts := [], laidByText := true, laidKinds := [.sentinel], laidTests := true, laidLooks := .later }
def FnPolicyAllUptoCardSaid : Prop := Claim7.holds Tryz.pinned (.plain (OpenSpec.upto fnPolicyAllSpec)) fnPolicyAllUptoCard
end Rows
end Go.Proofs.YtioppkalehnoaaaGreatDoor
