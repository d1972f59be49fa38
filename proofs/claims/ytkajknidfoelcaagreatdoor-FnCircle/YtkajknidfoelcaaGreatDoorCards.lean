/-
  DERIVED. GIVEN WITH THE SEED: THE CARDS: each row of YtkajknidfoelcaaGreatDoorRows.lean that lists a variable, with what it lists TIED to the program's text (the seventh form; the later family's looks); each row that meets fmt, with fmt's text TOLD by the authors' own Lean function (tested against real Go, not proved from fmt's source: count such statements apart). THE CARD IS WHAT COUNTS. Prove the row's statement (the work); the ties are given (YtkajknidfoelcaaGreatDoorTie.lean); close each card by the builder's one call (the guide's Derived/Test/ToyasCard.lean, 'card_holds'). Laid BY PROGRAM, IN A SANDBOX (cutbox-door.mjs). By AI agents, Wed Nov 11 2026. No macro, syntax, notation, axiom, sorry.
-/
import Derived.Test.YtkajknidfoelcaaGreatDoorRows
import GoSem.ClaimSeven
namespace Go.Proofs.YtkajknidfoelcaaGreatDoor
namespace Rows

/-- THE TIED CARD OF 'laws.FnCircle'. -/
def fnCircleCard : Claim7 := { stood := { row := fnCircleRow, standIns := [], harness := (true, "8786083afa5d1dc6c9ae8957b777fe1d2b03ac6917fc308c11a3774980de8f46"), looks := true }, kinds := [], alts := [], goes := true, laidByText := true, laidKinds := [.data, .data, .data, .handle, .data, .sentinel, .sentinel, .data, .data, .data], laidTests := true, laidLooks := .later }
def FnCircleCardSaid : Prop := Claim7.holds Tryz.pinned (.plain (OpenSpec.ofChange fnCircleSpec)) fnCircleCard

/-- THE SECOND FORM's CARD OF 'laws.FnCircle'. -/
def fnCircleUptoCard : Claim7 := { stood := { row := fnCircleUptoRow, standIns := [], harness := (true, "8786083afa5d1dc6c9ae8957b777fe1d2b03ac6917fc308c11a3774980de8f46"), looks := true }, kinds := [], alts := [], goes := true, laidByText := true, laidKinds := [.data, .data, .data, .handle, .data, .sentinel, .sentinel, .data, .data, .data], laidTests := true, laidLooks := .later }
def FnCircleUptoCardSaid : Prop := Claim7.holds Tryz.pinned (.plain (OpenSpec.upto fnCircleSpec)) fnCircleUptoCard
end Rows
end Go.Proofs.YtkajknidfoelcaaGreatDoor
