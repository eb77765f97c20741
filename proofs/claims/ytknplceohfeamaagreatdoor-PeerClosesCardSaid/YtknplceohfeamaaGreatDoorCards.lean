/-
  DERIVED. GIVEN WITH THE SEED: THE CARDS: each row of YtknplceohfeamaaGreatDoorRows.lean that lists a variable, with what it lists TIED to the program's text (the seventh form; the later family's looks); each row that meets fmt, with fmt's text TOLD by the authors' own Lean function (tested against real Go, not proved from fmt's source: count such statements apart). THE CARD IS WHAT COUNTS. Prove the row's statement (the work); the ties are given (YtknplceohfeamaaGreatDoorTie.lean); close each card by the builder's one call (the guide's Derived/Test/ToyasCard.lean, 'card_holds'). Laid BY PROGRAM, IN A SANDBOX (cutbox-door.mjs). By AI agents, Wed Nov 11 2026. No macro, syntax, notation, axiom, sorry.
-/
import Derived.Test.YtknplceohfeamaaGreatDoorRows
import GoSem.ClaimSeven
namespace Go.Proofs.YtknplceohfeamaaGreatDoor
namespace Rows

/-- THE TIED CARD OF 'relaylaw16.ServerStates'. -/
def serverStatesCard : Claim7 := { stood := { row := serverStatesRow, standIns := [], harness := (true, "90462dbf1cbd466782134eb50de44c6d62576badfbaa657f03e1103697133a82"), looks := false }, kinds := [], alts := [], laidByText := true, laidKinds := [.data, .data, .data, .pinned], laidTests := true, laidLooks := .later }
def ServerStatesCardSaid : Prop := Claim7.holds Tryz.pinned (.plain (OpenSpec.ofChange serverStatesSpec)) serverStatesCard

/-- THE TIED CARD OF 'relaylaw16.ServerTexts'. -/
def serverTextsCard : Claim7 := { stood := { row := serverTextsRow, standIns := [], harness := (true, "90462dbf1cbd466782134eb50de44c6d62576badfbaa657f03e1103697133a82"), looks := false }, kinds := [], alts := [], laidByText := true, laidKinds := [.data, .data, .data, .pinned], laidTests := true, laidLooks := .later }
def ServerTextsCardSaid : Prop := Claim7.holds Tryz.pinned (.plain (OpenSpec.ofChange serverTextsSpec)) serverTextsCard

/-- THE TIED CARD OF 'relaylaw17.PeerMeets'. -/
def peerMeetsCard : Claim7 := { stood := { row := peerMeetsRow, standIns := [], harness := (true, "90462dbf1cbd466782134eb50de44c6d62576badfbaa657f03e1103697133a82"), looks := false }, kinds := [], alts := [], laidByText := true, laidKinds := [.data, .data, .data, .pinned], laidTests := true, laidLooks := .later }
def PeerMeetsCardSaid : Prop := Claim7.holds Tryz.pinned (.plain (OpenSpec.ofChange peerMeetsSpec)) peerMeetsCard

/-- THE TIED CARD OF 'relaylaw17.PeerPieces'. -/
def peerPiecesCard : Claim7 := { stood := { row := peerPiecesRow, standIns := [], harness := (true, "90462dbf1cbd466782134eb50de44c6d62576badfbaa657f03e1103697133a82"), looks := false }, kinds := [], alts := [], laidByText := true, laidKinds := [.data, .data, .data, .pinned], laidTests := true, laidLooks := .later }
def PeerPiecesCardSaid : Prop := Claim7.holds Tryz.pinned (.plain (OpenSpec.ofChange peerPiecesSpec)) peerPiecesCard

/-- THE TIED CARD OF 'relaylaw17.PeerUpdates'. -/
def peerUpdatesCard : Claim7 := { stood := { row := peerUpdatesRow, standIns := [], harness := (true, "90462dbf1cbd466782134eb50de44c6d62576badfbaa657f03e1103697133a82"), looks := false }, kinds := [], alts := [], laidByText := true, laidKinds := [.data, .data, .data, .pinned], laidTests := true, laidLooks := .later }
def PeerUpdatesCardSaid : Prop := Claim7.holds Tryz.pinned (.plain (OpenSpec.ofChange peerUpdatesSpec)) peerUpdatesCard

/-- THE TIED CARD OF 'relaylaw17.PeerCloses'. -/
def peerClosesCard : Claim7 := { stood := { row := peerClosesRow, standIns := [], harness := (true, "90462dbf1cbd466782134eb50de44c6d62576badfbaa657f03e1103697133a82"), looks := false }, kinds := [], alts := [], laidByText := true, laidKinds := [.data, .data, .data, .pinned], laidTests := true, laidLooks := .later }
def PeerClosesCardSaid : Prop := Claim7.holds Tryz.pinned (.plain (OpenSpec.ofChange peerClosesSpec)) peerClosesCard

/-- THE SECOND FORM's CARD OF 'relaylaw16.ServerStates'. -/
def serverStatesUptoCard : Claim7 := { stood := { row := serverStatesUptoRow, standIns := [], harness := (true, "90462dbf1cbd466782134eb50de44c6d62576badfbaa657f03e1103697133a82"), looks := false }, kinds := [], alts := [], laidByText := true, laidKinds := [.data, .data, .data, .pinned], laidTests := true, laidLooks := .later }
def ServerStatesUptoCardSaid : Prop := Claim7.holds Tryz.pinned (.plain (OpenSpec.upto serverStatesSpec)) serverStatesUptoCard

/-- THE SECOND FORM's CARD OF 'relaylaw16.ServerTexts'. -/
def serverTextsUptoCard : Claim7 := { stood := { row := serverTextsUptoRow, standIns := [], harness := (true, "90462dbf1cbd466782134eb50de44c6d62576badfbaa657f03e1103697133a82"), looks := false }, kinds := [], alts := [], laidByText := true, laidKinds := [.data, .data, .data, .pinned], laidTests := true, laidLooks := .later }
def ServerTextsUptoCardSaid : Prop := Claim7.holds Tryz.pinned (.plain (OpenSpec.upto serverTextsSpec)) serverTextsUptoCard

/-- THE SECOND FORM's CARD OF 'relaylaw17.PeerMeets'. -/
def peerMeetsUptoCard : Claim7 := { stood := { row := peerMeetsUptoRow, standIns := [], harness := (true, "90462dbf1cbd466782134eb50de44c6d62576badfbaa657f03e1103697133a82"), looks := false }, kinds := [], alts := [], laidByText := true, laidKinds := [.data, .data, .data, .pinned], laidTests := true, laidLooks := .later }
def PeerMeetsUptoCardSaid : Prop := Claim7.holds Tryz.pinned (.plain (OpenSpec.upto peerMeetsSpec)) peerMeetsUptoCard

/-- THE SECOND FORM's CARD OF 'relaylaw17.PeerPieces'. -/
def peerPiecesUptoCard : Claim7 := { stood := { row := peerPiecesUptoRow, standIns := [], harness := (true, "90462dbf1cbd466782134eb50de44c6d62576badfbaa657f03e1103697133a82"), looks := false }, kinds := [], alts := [], laidByText := true, laidKinds := [.data, .data, .data, .pinned], laidTests := true, laidLooks := .later }
def PeerPiecesUptoCardSaid : Prop := Claim7.holds Tryz.pinned (.plain (OpenSpec.upto peerPiecesSpec)) peerPiecesUptoCard

/-- THE SECOND FORM's CARD OF 'relaylaw17.PeerUpdates'. -/
def peerUpdatesUptoCard : Claim7 := { stood := { row := peerUpdatesUptoRow, standIns := [], harness := (true, "90462dbf1cbd466782134eb50de44c6d62576badfbaa657f03e1103697133a82"), looks := false }, kinds := [], alts := [], laidByText := true, laidKinds := [.data, .data, .data, .pinned], laidTests := true, laidLooks := .later }
def PeerUpdatesUptoCardSaid : Prop := Claim7.holds Tryz.pinned (.plain (OpenSpec.upto peerUpdatesSpec)) peerUpdatesUptoCard

/-- THE SECOND FORM's CARD OF 'relaylaw17.PeerCloses'. -/
def peerClosesUptoCard : Claim7 := { stood := { row := peerClosesUptoRow, standIns := [], harness := (true, "90462dbf1cbd466782134eb50de44c6d62576badfbaa657f03e1103697133a82"), looks := false }, kinds := [], alts := [], laidByText := true, laidKinds := [.data, .data, .data, .pinned], laidTests := true, laidLooks := .later }
def PeerClosesUptoCardSaid : Prop := Claim7.holds Tryz.pinned (.plain (OpenSpec.upto peerClosesSpec)) peerClosesUptoCard
end Rows
end Go.Proofs.YtknplceohfeamaaGreatDoor
