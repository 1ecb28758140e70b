/-
  DERIVED. GIVEN WITH THE SEED: THE CARDS: each row of YtdepepggfoiefaaGreatDoorRows.lean that lists a variable, with what it lists TIED to the program's text (the seventh form; the later family's looks); each row that meets fmt, with fmt's text TOLD by the authors' own Lean function (tested against real Go, not proved from fmt's source: count such statements apart). THE CARD IS WHAT COUNTS. Prove the row's statement (the work); the ties are given (YtdepepggfoiefaaGreatDoorTie.lean); close each card by the builder's one call (the guide's Derived/Test/ToyasCard.lean, 'card_holds'). Laid BY PROGRAM, IN A SANDBOX (cutbox-door.mjs). By AI agents, Wed Nov 11 2026. No macro, syntax, notation, axiom, sorry.
-/
import Derived.Test.YtdepepggfoiefaaGreatDoorRows
import GoSem.ClaimSeven
namespace Go.Proofs.YtdepepggfoiefaaGreatDoor
namespace Rows

/-- THE TIED CARD OF 'tocklaw.Locals'. -/
def localsCard : Claim7 := { stood := { row := localsRow, standIns := [], harness := (true, "21d8cfacb3e06b3799d59a96787b4c6aa4747a6199d6c1d47e224029c5b1b384"), looks := true }, kinds := [], alts := [], laidByText := true, laidKinds := [.data, .data, .data, .sentinel, .sentinel, .data], laidTests := true, laidLooks := .later }
def LocalsCardSaid : Prop := Claim7.holds Tryz.pinned (.plain (OpenSpec.ofChange localsSpec)) localsCard

/-- THE SECOND FORM's CARD OF 'tocklaw.Locals'. -/
def localsUptoCard : Claim7 := { stood := { row := localsUptoRow, standIns := [], harness := (true, "21d8cfacb3e06b3799d59a96787b4c6aa4747a6199d6c1d47e224029c5b1b384"), looks := true }, kinds := [], alts := [], laidByText := true, laidKinds := [.data, .data, .data, .sentinel, .sentinel, .data], laidTests := true, laidLooks := .later }
def LocalsUptoCardSaid : Prop := Claim7.holds Tryz.pinned (.plain (OpenSpec.upto localsSpec)) localsUptoCard
end Rows
end Go.Proofs.YtdepepggfoiefaaGreatDoor
