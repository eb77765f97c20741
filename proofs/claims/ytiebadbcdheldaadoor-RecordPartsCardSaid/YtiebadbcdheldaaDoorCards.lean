/-
  DERIVED. GIVEN WITH THE SEED: THE CARDS: each row of YtiebadbcdheldaaDoorRows.lean that lists a variable, with what it lists TIED to the program's text (the seventh form; the later family's looks); each row that meets fmt, with fmt's text TOLD by the authors' own Lean function (tested against real Go, not proved from fmt's source: count such statements apart). THE CARD IS WHAT COUNTS. Prove the row's statement (the work); the ties are given (YtiebadbcdheldaaDoorTie.lean); close each card by the builder's one call (the guide's Derived/Test/ToyasCard.lean, 'card_holds'). Laid BY PROGRAM, IN A SANDBOX (cutbox-door.mjs). By AI agents, Wed Nov 11 2026. No macro, syntax, notation, axiom, sorry.
-/
import Derived.Test.YtiebadbcdheldaaDoorRows
import GoSem.ClaimSeven
namespace Go.Proofs.YtiebadbcdheldaaDoor
namespace Rows

/-- THE TIED CARD OF 'relaylaw12.RecordSeals'. -/
def recordSealsCard : Claim7 := { stood := { row := recordSealsRow, standIns := [], harness := (true, "4f7a8e753edb5b4691afba683ba9c8f8d97d01650ee63b208324206125437412"), looks := false }, kinds := [], alts := [], laidByText := true, laidKinds := [.data, .data, .data, .pinned], laidTests := true, laidLooks := .later }
def RecordSealsCardSaid : Prop := Claim7.holds Tryd.pinned (.plain (OpenSpec.ofChange recordSealsSpec)) recordSealsCard

/-- THE TIED CARD OF 'relaylaw12.RecordParts'. -/
def recordPartsCard : Claim7 := { stood := { row := recordPartsRow, standIns := [], harness := (true, "4f7a8e753edb5b4691afba683ba9c8f8d97d01650ee63b208324206125437412"), looks := false }, kinds := [], alts := [], laidByText := true, laidKinds := [.data, .data, .data, .pinned], laidTests := true, laidLooks := .later }
def RecordPartsCardSaid : Prop := Claim7.holds Tryd.pinned (.plain (OpenSpec.ofChange recordPartsSpec)) recordPartsCard

/-- THE TIED CARD OF 'relaytop.RelayRecords'. -/
def relayRecordsCard : Claim7 := { stood := { row := relayRecordsRow, standIns := [], harness := (true, "4f7a8e753edb5b4691afba683ba9c8f8d97d01650ee63b208324206125437412"), looks := false }, kinds := [], alts := [], laidByText := true, laidKinds := [.data, .data, .data, .pinned], laidTests := true, laidLooks := .later }
def RelayRecordsCardSaid : Prop := Claim7.holds Tryd.pinned (.plain (OpenSpec.ofChange relayRecordsSpec)) relayRecordsCard

/-- THE TIED CARD OF 'relaytop.RelayTurns'. -/
def relayTurnsCard : Claim7 := { stood := { row := relayTurnsRow, standIns := [], harness := (true, "4f7a8e753edb5b4691afba683ba9c8f8d97d01650ee63b208324206125437412"), looks := false }, kinds := [], alts := [], laidByText := true, laidKinds := [.data, .data, .data, .pinned], laidTests := true, laidLooks := .later }
def RelayTurnsCardSaid : Prop := Claim7.holds Tryd.pinned (.plain (OpenSpec.ofChange relayTurnsSpec)) relayTurnsCard

/-- THE SECOND FORM's CARD OF 'relaylaw12.RecordSeals'. -/
def recordSealsUptoCard : Claim7 := { stood := { row := recordSealsUptoRow, standIns := [], harness := (true, "4f7a8e753edb5b4691afba683ba9c8f8d97d01650ee63b208324206125437412"), looks := false }, kinds := [], alts := [], laidByText := true, laidKinds := [.data, .data, .data, .pinned], laidTests := true, laidLooks := .later }
def RecordSealsUptoCardSaid : Prop := Claim7.holds Tryd.pinned (.plain (OpenSpec.upto recordSealsSpec)) recordSealsUptoCard

/-- THE SECOND FORM's CARD OF 'relaylaw12.RecordParts'. -/
def recordPartsUptoCard : Claim7 := { stood := { row := recordPartsUptoRow, standIns := [], harness := (true, "4f7a8e753edb5b4691afba683ba9c8f8d97d01650ee63b208324206125437412"), looks := false }, kinds := [], alts := [], laidByText := true, laidKinds := [.data, .data, .data, .pinned], laidTests := true, laidLooks := .later }
def RecordPartsUptoCardSaid : Prop := Claim7.holds Tryd.pinned (.plain (OpenSpec.upto recordPartsSpec)) recordPartsUptoCard

/-- THE SECOND FORM's CARD OF 'relaytop.RelayRecords'. -/
def relayRecordsUptoCard : Claim7 := { stood := { row := relayRecordsUptoRow, standIns := [], harness := (true, "4f7a8e753edb5b4691afba683ba9c8f8d97d01650ee63b208324206125437412"), looks := false }, kinds := [], alts := [], laidByText := true, laidKinds := [.data, .data, .data, .pinned], laidTests := true, laidLooks := .later }
def RelayRecordsUptoCardSaid : Prop := Claim7.holds Tryd.pinned (.plain (OpenSpec.upto relayRecordsSpec)) relayRecordsUptoCard

/-- THE SECOND FORM's CARD OF 'relaytop.RelayTurns'. -/
def relayTurnsUptoCard : Claim7 := { stood := { row := relayTurnsUptoRow, standIns := [], harness := (true, "4f7a8e753edb5b4691afba683ba9c8f8d97d01650ee63b208324206125437412"), looks := false }, kinds := [], alts := [], laidByText := true, laidKinds := [.data, .data, .data, .pinned], laidTests := true, laidLooks := .later }
def RelayTurnsUptoCardSaid : Prop := Claim7.holds Tryd.pinned (.plain (OpenSpec.upto relayTurnsSpec)) relayTurnsUptoCard
end Rows
end Go.Proofs.YtiebadbcdheldaaDoor
