/-
  DERIVED. GIVEN WITH THE SEED: THE CARDS: each row of YtnnhnihgeheahaaGreatDoorRows.lean that lists a variable, with what it lists TIED to the program's text (the seventh form; the later family's looks); each row that meets fmt, with fmt's text TOLD by the authors' own Lean function (tested against real Go, not proved from fmt's source: count such statements apart). THE CARD IS WHAT COUNTS. Prove the row's statement (the work); the ties are given (YtnnhnihgeheahaaGreatDoorTie.lean); close each card by the builder's one call (the guide's Derived/Test/ToyasCard.lean, 'card_holds'). Laid BY PROGRAM, IN A SANDBOX (cutbox-door.mjs). By AI agents, Wed Nov 11 2026. No macro, syntax, notation, axiom, sorry.
-/
import Derived.Test.YtnnhnihgeheahaaGreatDoorRows
import GoSem.ClaimSeven
namespace Go.Proofs.YtnnhnihgeheahaaGreatDoor
namespace Rows

/-- THE TIED CARD OF 'tocklaw.Locals'. -/
def localsCard : Claim7 := { stood := { row := localsRow, standIns := [], harness := (true, "8f7828eef063de161bd708d7e3ebd3ee84337e18951ffc2ade196e5402ba6326"), looks := true }, kinds := [], alts := [], laidByText := true, laidKinds := [.data, .data, .data, .sentinel, .sentinel, .data], laidTests := true, laidLooks := .later }
def LocalsCardSaid : Prop := Claim7.holds Tryz.pinned (.plain (OpenSpec.ofChange localsSpec)) localsCard

/-- THE TIED CARD OF 'tocklaw.RunsThen'. -/
def runsThenCard : Claim7 := { stood := { row := runsThenRow, standIns := [], harness := (true, "8f7828eef063de161bd708d7e3ebd3ee84337e18951ffc2ade196e5402ba6326"), looks := true }, kinds := [], alts := [], laidByText := true, laidKinds := [.data, .data, .data, .sentinel, .sentinel, .data, .data], laidTests := true, laidLooks := .later }
def RunsThenCardSaid : Prop := Claim7.holds Tryz.pinned (.plain (OpenSpec.ofChange runsThenSpec)) runsThenCard

/-- THE TIED CARD OF 'tocklaw.Once'. -/
def onceCard : Claim7 := { stood := { row := onceRow, standIns := [], harness := (true, "8f7828eef063de161bd708d7e3ebd3ee84337e18951ffc2ade196e5402ba6326"), looks := true }, kinds := [], alts := [], laidByText := true, laidKinds := [.data, .data, .data, .sentinel, .sentinel, .data, .data], laidTests := true, laidLooks := .later }
def OnceCardSaid : Prop := Claim7.holds Tryz.pinned (.plain (OpenSpec.ofChange onceSpec)) onceCard

/-- THE TIED CARD OF 'tocklaw.Offset'. -/
def offsetCard : Claim7 := { stood := { row := offsetRow, standIns := [], harness := (true, "8f7828eef063de161bd708d7e3ebd3ee84337e18951ffc2ade196e5402ba6326"), looks := true }, kinds := [], alts := [], laidByText := true, laidKinds := [.data, .data, .data, .sentinel, .sentinel, .data, .data], laidTests := true, laidLooks := .later }
def OffsetCardSaid : Prop := Claim7.holds Tryz.pinned (.plain (OpenSpec.ofChange offsetSpec)) offsetCard

/-- THE TIED CARD OF 'tocklaw.Nexts'. -/
def nextsCard : Claim7 := { stood := { row := nextsRow, standIns := [], harness := (true, "8f7828eef063de161bd708d7e3ebd3ee84337e18951ffc2ade196e5402ba6326"), looks := true }, kinds := [], alts := [], laidByText := true, laidKinds := [.data, .data, .data, .sentinel, .sentinel, .data, .data], laidTests := true, laidLooks := .later }
def NextsCardSaid : Prop := Claim7.holds Tryz.pinned (.plain (OpenSpec.ofChange nextsSpec)) nextsCard

/-- THE TIED CARD OF 'tocklaw.FromOn'. -/
def fromOnCard : Claim7 := { stood := { row := fromOnRow, standIns := [], harness := (true, "8f7828eef063de161bd708d7e3ebd3ee84337e18951ffc2ade196e5402ba6326"), looks := true }, kinds := [], alts := [], laidByText := true, laidKinds := [.data, .data, .data, .sentinel, .sentinel, .data, .data], laidTests := true, laidLooks := .later }
def FromOnCardSaid : Prop := Claim7.holds Tryz.pinned (.plain (OpenSpec.ofChange fromOnSpec)) fromOnCard

/-- THE TIED CARD OF 'tocklaw.Tells'. -/
def tellsCard : Claim7 := { stood := { row := tellsRow, standIns := [], harness := (true, "8f7828eef063de161bd708d7e3ebd3ee84337e18951ffc2ade196e5402ba6326"), looks := true }, kinds := [], alts := [], goes := true, laidByText := true, laidKinds := [.data, .data, .data, .sentinel, .sentinel, .data, .data], laidTests := true, laidLooks := .later }
def TellsCardSaid : Prop := Claim7.holds Tryz.pinned (.plain (OpenSpec.ofChange tellsSpec)) tellsCard

/-- THE TIED CARD OF 'tocklaw.Chain'. -/
def chainCard : Claim7 := { stood := { row := chainRow, standIns := [], harness := (true, "8f7828eef063de161bd708d7e3ebd3ee84337e18951ffc2ade196e5402ba6326"), looks := true }, kinds := [], alts := [], goes := true, laidByText := true, laidKinds := [.data, .data, .data, .sentinel, .sentinel, .data, .data], laidTests := true, laidLooks := .later }
def ChainCardSaid : Prop := Claim7.holds Tryz.pinned (.plain (OpenSpec.ofChange chainSpec)) chainCard

/-- THE TIED CARD OF 'tocklaw.Joined'. -/
def joinedCard : Claim7 := { stood := { row := joinedRow, standIns := [], harness := (true, "8f7828eef063de161bd708d7e3ebd3ee84337e18951ffc2ade196e5402ba6326"), looks := true }, kinds := [], alts := [], goes := true, laidByText := true, laidKinds := [.data, .data, .data, .sentinel, .sentinel, .data, .data], laidTests := true, laidLooks := .later }
def JoinedCardSaid : Prop := Claim7.holds Tryz.pinned (.plain (OpenSpec.ofChange joinedSpec)) joinedCard

/-- THE TIED CARD OF 'tocklaw.Leaves'. -/
def leavesCard : Claim7 := { stood := { row := leavesRow, standIns := [], harness := (true, "8f7828eef063de161bd708d7e3ebd3ee84337e18951ffc2ade196e5402ba6326"), looks := true }, kinds := [], alts := [], goes := true, laidByText := true, laidKinds := [.data, .data, .data, .sentinel, .sentinel, .data, .data], laidTests := true, laidLooks := .later }
def LeavesCardSaid : Prop := Claim7.holds Tryz.pinned (.plain (OpenSpec.ofChange leavesSpec)) leavesCard

/-- THE SECOND FORM's CARD OF 'tocklaw.Locals'. -/
def localsUptoCard : Claim7 := { stood := { row := localsUptoRow, standIns := [], harness := (true, "8f7828eef063de161bd708d7e3ebd3ee84337e18951ffc2ade196e5402ba6326"), looks := true }, kinds := [], alts := [], laidByText := true, laidKinds := [.data, .data, .data, .sentinel, .sentinel, .data], laidTests := true, laidLooks := .later }
def LocalsUptoCardSaid : Prop := Claim7.holds Tryz.pinned (.plain (OpenSpec.upto localsSpec)) localsUptoCard

/-- THE SECOND FORM's CARD OF 'tocklaw.RunsThen'. -/
def runsThenUptoCard : Claim7 := { stood := { row := runsThenUptoRow, standIns := [], harness := (true, "8f7828eef063de161bd708d7e3ebd3ee84337e18951ffc2ade196e5402ba6326"), looks := true }, kinds := [], alts := [], laidByText := true, laidKinds := [.data, .data, .data, .sentinel, .sentinel, .data, .data], laidTests := true, laidLooks := .later }
def RunsThenUptoCardSaid : Prop := Claim7.holds Tryz.pinned (.plain (OpenSpec.upto runsThenSpec)) runsThenUptoCard

/-- THE SECOND FORM's CARD OF 'tocklaw.Once'. -/
def onceUptoCard : Claim7 := { stood := { row := onceUptoRow, standIns := [], harness := (true, "8f7828eef063de161bd708d7e3ebd3ee84337e18951ffc2ade196e5402ba6326"), looks := true }, kinds := [], alts := [], laidByText := true, laidKinds := [.data, .data, .data, .sentinel, .sentinel, .data, .data], laidTests := true, laidLooks := .later }
def OnceUptoCardSaid : Prop := Claim7.holds Tryz.pinned (.plain (OpenSpec.upto onceSpec)) onceUptoCard

/-- THE SECOND FORM's CARD OF 'tocklaw.Offset'. -/
def offsetUptoCard : Claim7 := { stood := { row := offsetUptoRow, standIns := [], harness := (true, "8f7828eef063de161bd708d7e3ebd3ee84337e18951ffc2ade196e5402ba6326"), looks := true }, kinds := [], alts := [], laidByText := true, laidKinds := [.data, .data, .data, .sentinel, .sentinel, .data, .data], laidTests := true, laidLooks := .later }
def OffsetUptoCardSaid : Prop := Claim7.holds Tryz.pinned (.plain (OpenSpec.upto offsetSpec)) offsetUptoCard

/-- THE SECOND FORM's CARD OF 'tocklaw.Nexts'. -/
def nextsUptoCard : Claim7 := { stood := { row := nextsUptoRow, standIns := [], harness := (true, "8f7828eef063de161bd708d7e3ebd3ee84337e18951ffc2ade196e5402ba6326"), looks := true }, kinds := [], alts := [], laidByText := true, laidKinds := [.data, .data, .data, .sentinel, .sentinel, .data, .data], laidTests := true, laidLooks := .later }
def NextsUptoCardSaid : Prop := Claim7.holds Tryz.pinned (.plain (OpenSpec.upto nextsSpec)) nextsUptoCard

/-- THE SECOND FORM's CARD OF 'tocklaw.FromOn'. -/
def fromOnUptoCard : Claim7 := { stood := { row := fromOnUptoRow, standIns := [], harness := (true, "8f7828eef063de161bd708d7e3ebd3ee84337e18951ffc2ade196e5402ba6326"), looks := true }, kinds := [], alts := [], laidByText := true, laidKinds := [.data, .data, .data, .sentinel, .sentinel, .data, .data], laidTests := true, laidLooks := .later }
def FromOnUptoCardSaid : Prop := Claim7.holds Tryz.pinned (.plain (OpenSpec.upto fromOnSpec)) fromOnUptoCard

/-- THE SECOND FORM's CARD OF 'tocklaw.Tells'. -/
def tellsUptoCard : Claim7 := { stood := { row := tellsUptoRow, standIns := [], harness := (true, "8f7828eef063de161bd708d7e3ebd3ee84337e18951ffc2ade196e5402ba6326"), looks := true }, kinds := [], alts := [], goes := true, laidByText := true, laidKinds := [.data, .data, .data, .sentinel, .sentinel, .data, .data], laidTests := true, laidLooks := .later }
def TellsUptoCardSaid : Prop := Claim7.holds Tryz.pinned (.plain (OpenSpec.upto tellsSpec)) tellsUptoCard

/-- THE SECOND FORM's CARD OF 'tocklaw.Chain'. -/
def chainUptoCard : Claim7 := { stood := { row := chainUptoRow, standIns := [], harness := (true, "8f7828eef063de161bd708d7e3ebd3ee84337e18951ffc2ade196e5402ba6326"), looks := true }, kinds := [], alts := [], goes := true, laidByText := true, laidKinds := [.data, .data, .data, .sentinel, .sentinel, .data, .data], laidTests := true, laidLooks := .later }
def ChainUptoCardSaid : Prop := Claim7.holds Tryz.pinned (.plain (OpenSpec.upto chainSpec)) chainUptoCard

/-- THE SECOND FORM's CARD OF 'tocklaw.Joined'. -/
def joinedUptoCard : Claim7 := { stood := { row := joinedUptoRow, standIns := [], harness := (true, "8f7828eef063de161bd708d7e3ebd3ee84337e18951ffc2ade196e5402ba6326"), looks := true }, kinds := [], alts := [], goes := true, laidByText := true, laidKinds := [.data, .data, .data, .sentinel, .sentinel, .data, .data], laidTests := true, laidLooks := .later }
def JoinedUptoCardSaid : Prop := Claim7.holds Tryz.pinned (.plain (OpenSpec.upto joinedSpec)) joinedUptoCard

/-- THE SECOND FORM's CARD OF 'tocklaw.Leaves'. -/
def leavesUptoCard : Claim7 := { stood := { row := leavesUptoRow, standIns := [], harness := (true, "8f7828eef063de161bd708d7e3ebd3ee84337e18951ffc2ade196e5402ba6326"), looks := true }, kinds := [], alts := [], goes := true, laidByText := true, laidKinds := [.data, .data, .data, .sentinel, .sentinel, .data, .data], laidTests := true, laidLooks := .later }
def LeavesUptoCardSaid : Prop := Claim7.holds Tryz.pinned (.plain (OpenSpec.upto leavesSpec)) leavesUptoCard
end Rows
end Go.Proofs.YtnnhnihgeheahaaGreatDoor
