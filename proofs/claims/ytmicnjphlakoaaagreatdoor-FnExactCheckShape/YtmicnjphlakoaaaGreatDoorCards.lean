/-
  DERIVED. GIVEN WITH THE SEED: THE CARDS: each row of YtmicnjphlakoaaaGreatDoorRows.lean that lists a variable, with what it lists TIED to the program's text (the seventh form; the later family's looks); each row that meets fmt, with fmt's text TOLD by the authors' own Lean function (tested against real Go, not proved from fmt's source: count such statements apart). THE CARD IS WHAT COUNTS. Prove the row's statement (the work); the ties are given (YtmicnjphlakoaaaGreatDoorTie.lean); close each card by the builder's one call (the guide's Derived/Test/ToyasCard.lean, 'card_holds'). Laid BY PROGRAM, IN A SANDBOX (cutbox-door.mjs). By AI agents, Wed Nov 11 2026. No macro, syntax, notation, axiom, sorry.
-/
import Derived.Test.YtmicnjphlakoaaaGreatDoorRows
import GoSem.ClaimSeven
namespace Go.Proofs.YtmicnjphlakoaaaGreatDoor
namespace Rows

/-- THE TIED CARD OF 'laws.FnExactCheckShape'. -/
def fnExactCheckShapeCard : Claim7 := { stood := { row := fnExactCheckShapeRow, standIns := [], harness := (true, "fa6a19fe2dff7981a8ba0f9d02298e1e859f6758874e9283fedfdb307f990864"), looks := true }, kinds := [], alts := [], laidByText := true, laidKinds := [.handle, .data], laidTests := true, laidLooks := .later }
def FnExactCheckShapeCardSaid : Prop := Claim7.holds Tryz.pinned (.plain (OpenSpec.ofChange fnExactCheckShapeSpec)) fnExactCheckShapeCard

/-- THE SECOND FORM's CARD OF 'laws.FnExactCheckShape'. -/
def fnExactCheckShapeUptoCard : Claim7 := { stood := { row := fnExactCheckShapeUptoRow, standIns := [], harness := (true, "fa6a19fe2dff7981a8ba0f9d02298e1e859f6758874e9283fedfdb307f990864"), looks := true }, kinds := [], alts := [], laidByText := true, laidKinds := [.handle, .data], laidTests := true, laidLooks := .later }
def FnExactCheckShapeUptoCardSaid : Prop := Claim7.holds Tryz.pinned (.plain (OpenSpec.upto fnExactCheckShapeSpec)) fnExactCheckShapeUptoCard
end Rows
end Go.Proofs.YtmicnjphlakoaaaGreatDoor
