/-
  DERIVED. GIVEN WITH THE SEED: THE CARDS: each row of YtjglgbepobmjhaaGreatDoorRows.lean that lists a variable, with what it lists TIED to the program's text (the seventh form; the later family's looks); each row that meets fmt, with fmt's text TOLD by the authors' own Lean function (tested against real Go, not proved from fmt's source: count such statements apart). THE CARD IS WHAT COUNTS. Prove the row's statement (the work); the ties are given (YtjglgbepobmjhaaGreatDoorTie.lean); close each card by the builder's one call (the guide's Derived/Test/ToyasCard.lean, 'card_holds'). Laid BY PROGRAM, IN A SANDBOX (cutbox-door.mjs). By AI agents, Wed Nov 11 2026. No macro, syntax, notation, axiom, sorry.
-/
import Derived.Test.YtjglgbepobmjhaaGreatDoorRows
import GoSem.ClaimSeven
namespace Go.Proofs.YtjglgbepobmjhaaGreatDoor
namespace Rows

/-- THE TIED CARD OF 'laws.FnKeeps'. -/
def fnKeepsCard : Claim7 := { stood := { row := fnKeepsRow, standIns := [], harness := (true, "2e4b73bf7df569ca86fd505364f623f6757d955af316a4885afa32cad98fa791"), looks := true }, kinds := [], alts := [], goes := true, laidByText := true, laidKinds := [.data, .data, .data, .handle, .data, .sentinel, .sentinel, .data, .data, .data], laidTests := true, laidLooks := .later }
def FnKeepsCardSaid : Prop := Claim7.holds Tryz.pinned (.plain (OpenSpec.ofChange fnKeepsSpec)) fnKeepsCard

/-- THE TIED CARD OF 'laws.FnThrows'. -/
def fnThrowsCard : Claim7 := { stood := { row := fnThrowsRow, standIns := [], harness := (true, "2e4b73bf7df569ca86fd505364f623f6757d955af316a4885afa32cad98fa791"), looks := true }, kinds := [], alts := [], goes := true, laidByText := true, laidKinds := [.data, .data, .data, .handle, .data, .sentinel, .sentinel, .data, .data, .data], laidTests := true, laidLooks := .later }
def FnThrowsCardSaid : Prop := Claim7.holds Tryz.pinned (.plain (OpenSpec.ofChange fnThrowsSpec)) fnThrowsCard

/-- THE SECOND FORM's CARD OF 'laws.FnKeeps'. -/
def fnKeepsUptoCard : Claim7 := { stood := { row := fnKeepsUptoRow, standIns := [], harness := (true, "2e4b73bf7df569ca86fd505364f623f6757d955af316a4885afa32cad98fa791"), looks := true }, kinds := [], alts := [], goes := true, laidByText := true, laidKinds := [.data, .data, .data, .handle, .data, .sentinel, .sentinel, .data, .data, .data], laidTests := true, laidLooks := .later }
def FnKeepsUptoCardSaid : Prop := Claim7.holds Tryz.pinned (.plain (OpenSpec.upto fnKeepsSpec)) fnKeepsUptoCard

/-- THE SECOND FORM's CARD OF 'laws.FnThrows'. -/
def fnThrowsUptoCard : Claim7 := { stood := { row := fnThrowsUptoRow, standIns := [], harness := (true, "2e4b73bf7df569ca86fd505364f623f6757d955af316a4885afa32cad98fa791"), looks := true }, kinds := [], alts := [], goes := true, laidByText := true, laidKinds := [.data, .data, .data, .handle, .data, .sentinel, .sentinel, .data, .data, .data], laidTests := true, laidLooks := .later }
def FnThrowsUptoCardSaid : Prop := Claim7.holds Tryz.pinned (.plain (OpenSpec.upto fnThrowsSpec)) fnThrowsUptoCard
end Rows
end Go.Proofs.YtjglgbepobmjhaaGreatDoor
