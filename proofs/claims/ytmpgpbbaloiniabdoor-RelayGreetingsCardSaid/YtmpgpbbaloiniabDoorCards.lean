/-
  DERIVED. GIVEN WITH THE SEED: THE CARDS: each row of YtmpgpbbaloiniabDoorRows.lean that lists a variable, with what it lists TIED to the program's text (the seventh form; the later family's looks); each row that meets fmt, with fmt's text TOLD by the authors' own Lean function (tested against real Go, not proved from fmt's source: count such statements apart). THE CARD IS WHAT COUNTS. Prove the row's statement (the work); the ties are given (YtmpgpbbaloiniabDoorTie.lean); close each card by the builder's one call (the guide's Derived/Test/ToyasCard.lean, 'card_holds'). Laid BY PROGRAM, IN A SANDBOX (cutbox-door.mjs). By AI agents, Wed Nov 11 2026. No macro, syntax, notation, axiom, sorry.
-/
import Derived.Test.YtmpgpbbaloiniabDoorRows
import GoSem.ClaimSeven
namespace Go.Proofs.YtmpgpbbaloiniabDoor
namespace Rows

/-- THE TIED CARD OF 'relaylaw12.RecordParts'. -/
def recordPartsCard : Claim7 := { stood := { row := recordPartsRow, standIns := [], harness := (true, "a8f69f3b8650f6aa73cc11834a710d7b01eb10b5fa385a50ab0f274c5dcae7b9"), looks := false }, kinds := [], alts := [], laidByText := true, laidKinds := [.data, .data, .data, .pinned], laidTests := true, laidLooks := .later }
def RecordPartsCardSaid : Prop := Claim7.holds Tryd.pinned (.plain (OpenSpec.ofChange recordPartsSpec)) recordPartsCard

/-- THE TIED CARD OF 'relaylaw20.TicketsRows'. -/
def ticketsRowsCard : Claim7 := { stood := { row := ticketsRowsRow, standIns := [], harness := (true, "a8f69f3b8650f6aa73cc11834a710d7b01eb10b5fa385a50ab0f274c5dcae7b9"), looks := false }, kinds := [], alts := [], laidByText := true, laidKinds := [.data, .data], laidTests := true, laidLooks := .later }
def TicketsRowsCardSaid : Prop := Claim7.holds Tryd.pinned (.plain (OpenSpec.ofChange ticketsRowsSpec)) ticketsRowsCard

/-- THE TIED CARD OF 'relaylaw20.TicketsRaw'. -/
def ticketsRawCard : Claim7 := { stood := { row := ticketsRawRow, standIns := [], harness := (true, "a8f69f3b8650f6aa73cc11834a710d7b01eb10b5fa385a50ab0f274c5dcae7b9"), looks := false }, kinds := [], alts := [], laidByText := true, laidKinds := [.data, .data], laidTests := true, laidLooks := .later }
def TicketsRawCardSaid : Prop := Claim7.holds Tryd.pinned (.plain (OpenSpec.ofChange ticketsRawSpec)) ticketsRawCard

/-- THE TIED CARD OF 'relaytop.RelayGreetings'. -/
def relayGreetingsCard : Claim7 := { stood := { row := relayGreetingsRow, standIns := [], harness := (true, "a8f69f3b8650f6aa73cc11834a710d7b01eb10b5fa385a50ab0f274c5dcae7b9"), looks := false }, kinds := [], alts := [], laidByText := true, laidKinds := [.data, .data], laidTests := true, laidLooks := .later }
def RelayGreetingsCardSaid : Prop := Claim7.holds Tryd.pinned (.plain (OpenSpec.ofChange relayGreetingsSpec)) relayGreetingsCard

/-- THE SECOND FORM's CARD OF 'relaylaw12.RecordParts'. -/
def recordPartsUptoCard : Claim7 := { stood := { row := recordPartsUptoRow, standIns := [], harness := (true, "a8f69f3b8650f6aa73cc11834a710d7b01eb10b5fa385a50ab0f274c5dcae7b9"), looks := false }, kinds := [], alts := [], laidByText := true, laidKinds := [.data, .data, .data, .pinned], laidTests := true, laidLooks := .later }
def RecordPartsUptoCardSaid : Prop := Claim7.holds Tryd.pinned (.plain (OpenSpec.upto recordPartsSpec)) recordPartsUptoCard

/-- THE SECOND FORM's CARD OF 'relaylaw20.TicketsRows'. -/
def ticketsRowsUptoCard : Claim7 := { stood := { row := ticketsRowsUptoRow, standIns := [], harness := (true, "a8f69f3b8650f6aa73cc11834a710d7b01eb10b5fa385a50ab0f274c5dcae7b9"), looks := false }, kinds := [], alts := [], laidByText := true, laidKinds := [.data, .data], laidTests := true, laidLooks := .later }
def TicketsRowsUptoCardSaid : Prop := Claim7.holds Tryd.pinned (.plain (OpenSpec.upto ticketsRowsSpec)) ticketsRowsUptoCard

/-- THE SECOND FORM's CARD OF 'relaylaw20.TicketsRaw'. -/
def ticketsRawUptoCard : Claim7 := { stood := { row := ticketsRawUptoRow, standIns := [], harness := (true, "a8f69f3b8650f6aa73cc11834a710d7b01eb10b5fa385a50ab0f274c5dcae7b9"), looks := false }, kinds := [], alts := [], laidByText := true, laidKinds := [.data, .data], laidTests := true, laidLooks := .later }
def TicketsRawUptoCardSaid : Prop := Claim7.holds Tryd.pinned (.plain (OpenSpec.upto ticketsRawSpec)) ticketsRawUptoCard

/-- THE SECOND FORM's CARD OF 'relaytop.RelayGreetings'. -/
def relayGreetingsUptoCard : Claim7 := { stood := { row := relayGreetingsUptoRow, standIns := [], harness := (true, "a8f69f3b8650f6aa73cc11834a710d7b01eb10b5fa385a50ab0f274c5dcae7b9"), looks := false }, kinds := [], alts := [], laidByText := true, laidKinds := [.data, .data], laidTests := true, laidLooks := .later }
def RelayGreetingsUptoCardSaid : Prop := Claim7.holds Tryd.pinned (.plain (OpenSpec.upto relayGreetingsSpec)) relayGreetingsUptoCard
end Rows
end Go.Proofs.YtmpgpbbaloiniabDoor
