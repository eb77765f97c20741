/-
  DERIVED. GIVEN WITH THE SEED: THE CARDS: each row of YtmpgpbbaloiniaaDoorRows.lean that lists a variable, with what it lists TIED to the program's text (the seventh form; the later family's looks); each row that meets fmt, with fmt's text TOLD by the authors' own Lean function (tested against real Go, not proved from fmt's source: count such statements apart). THE CARD IS WHAT COUNTS. Prove the row's statement (the work); the ties are given (YtmpgpbbaloiniaaDoorTie.lean); close each card by the builder's one call (the guide's Derived/Test/ToyasCard.lean, 'card_holds'). Laid BY PROGRAM, IN A SANDBOX (cutbox-door.mjs). By AI agents, Wed Nov 11 2026. No macro, syntax, notation, axiom, sorry.
-/
import Derived.Test.YtmpgpbbaloiniaaDoorRows
import GoSem.ClaimSeven
namespace Go.Proofs.YtmpgpbbaloiniaaDoor
namespace Rows

/-- THE TIED CARD OF 'relaylaw01.ShaSames'. -/
def shaSamesCard : Claim7 := { stood := { row := shaSamesRow, standIns := [], harness := (true, "509a89b67618beb9fd1f9164ca8e5d72b3360772a5436b980171c475dab6690a"), looks := false }, kinds := [], alts := [], laidByText := true, laidKinds := [.data, .data], laidTests := true, laidLooks := .later }
def ShaSamesCardSaid : Prop := Claim7.holds Tryd.pinned (.plain (OpenSpec.ofChange shaSamesSpec)) shaSamesCard

/-- THE TIED CARD OF 'relaylaw01.ShaLengths'. -/
def shaLengthsCard : Claim7 := { stood := { row := shaLengthsRow, standIns := [], harness := (true, "509a89b67618beb9fd1f9164ca8e5d72b3360772a5436b980171c475dab6690a"), looks := false }, kinds := [], alts := [], laidByText := true, laidKinds := [.data, .data], laidTests := true, laidLooks := .later }
def ShaLengthsCardSaid : Prop := Claim7.holds Tryd.pinned (.plain (OpenSpec.ofChange shaLengthsSpec)) shaLengthsCard

/-- THE TIED CARD OF 'relaylaw08.HelloClients'. -/
def helloClientsCard : Claim7 := { stood := { row := helloClientsRow, standIns := [], harness := (true, "509a89b67618beb9fd1f9164ca8e5d72b3360772a5436b980171c475dab6690a"), looks := false }, kinds := [], alts := [], laidByText := true, laidKinds := [.data, .data], laidTests := true, laidLooks := .later }
def HelloClientsCardSaid : Prop := Claim7.holds Tryd.pinned (.plain (OpenSpec.ofChange helloClientsSpec)) helloClientsCard

/-- THE TIED CARD OF 'relaylaw08.HelloExtras'. -/
def helloExtrasCard : Claim7 := { stood := { row := helloExtrasRow, standIns := [], harness := (true, "509a89b67618beb9fd1f9164ca8e5d72b3360772a5436b980171c475dab6690a"), looks := false }, kinds := [], alts := [], laidByText := true, laidKinds := [.data, .data], laidTests := true, laidLooks := .later }
def HelloExtrasCardSaid : Prop := Claim7.holds Tryd.pinned (.plain (OpenSpec.ofChange helloExtrasSpec)) helloExtrasCard

/-- THE TIED CARD OF 'relaylaw08.HelloLimits'. -/
def helloLimitsCard : Claim7 := { stood := { row := helloLimitsRow, standIns := [], harness := (true, "509a89b67618beb9fd1f9164ca8e5d72b3360772a5436b980171c475dab6690a"), looks := false }, kinds := [], alts := [], laidByText := true, laidKinds := [.data, .data], laidTests := true, laidLooks := .later }
def HelloLimitsCardSaid : Prop := Claim7.holds Tryd.pinned (.plain (OpenSpec.ofChange helloLimitsSpec)) helloLimitsCard

/-- THE TIED CARD OF 'relaylaw11.JournalNeeds'. -/
def journalNeedsCard : Claim7 := { stood := { row := journalNeedsRow, standIns := [], harness := (true, "509a89b67618beb9fd1f9164ca8e5d72b3360772a5436b980171c475dab6690a"), looks := false }, kinds := [], alts := [], laidByText := true, laidKinds := [.data, .data], laidTests := true, laidLooks := .later }
def JournalNeedsCardSaid : Prop := Claim7.holds Tryd.pinned (.plain (OpenSpec.ofChange journalNeedsSpec)) journalNeedsCard

/-- THE TIED CARD OF 'relaylaw11.JournalLong'. -/
def journalLongCard : Claim7 := { stood := { row := journalLongRow, standIns := [], harness := (true, "509a89b67618beb9fd1f9164ca8e5d72b3360772a5436b980171c475dab6690a"), looks := false }, kinds := [], alts := [], laidByText := true, laidKinds := [.data, .data], laidTests := true, laidLooks := .later }
def JournalLongCardSaid : Prop := Claim7.holds Tryd.pinned (.plain (OpenSpec.ofChange journalLongSpec)) journalLongCard

/-- THE SECOND FORM's CARD OF 'relaylaw01.ShaSames'. -/
def shaSamesUptoCard : Claim7 := { stood := { row := shaSamesUptoRow, standIns := [], harness := (true, "509a89b67618beb9fd1f9164ca8e5d72b3360772a5436b980171c475dab6690a"), looks := false }, kinds := [], alts := [], laidByText := true, laidKinds := [.data, .data], laidTests := true, laidLooks := .later }
def ShaSamesUptoCardSaid : Prop := Claim7.holds Tryd.pinned (.plain (OpenSpec.upto shaSamesSpec)) shaSamesUptoCard

/-- THE SECOND FORM's CARD OF 'relaylaw01.ShaLengths'. -/
def shaLengthsUptoCard : Claim7 := { stood := { row := shaLengthsUptoRow, standIns := [], harness := (true, "509a89b67618beb9fd1f9164ca8e5d72b3360772a5436b980171c475dab6690a"), looks := false }, kinds := [], alts := [], laidByText := true, laidKinds := [.data, .data], laidTests := true, laidLooks := .later }
def ShaLengthsUptoCardSaid : Prop := Claim7.holds Tryd.pinned (.plain (OpenSpec.upto shaLengthsSpec)) shaLengthsUptoCard

/-- THE SECOND FORM's CARD OF 'relaylaw08.HelloClients'. -/
def helloClientsUptoCard : Claim7 := { stood := { row := helloClientsUptoRow, standIns := [], harness := (true, "509a89b67618beb9fd1f9164ca8e5d72b3360772a5436b980171c475dab6690a"), looks := false }, kinds := [], alts := [], laidByText := true, laidKinds := [.data, .data], laidTests := true, laidLooks := .later }
def HelloClientsUptoCardSaid : Prop := Claim7.holds Tryd.pinned (.plain (OpenSpec.upto helloClientsSpec)) helloClientsUptoCard

/-- THE SECOND FORM's CARD OF 'relaylaw08.HelloExtras'. -/
def helloExtrasUptoCard : Claim7 := { stood := { row := helloExtrasUptoRow, standIns := [], harness := (true, "509a89b67618beb9fd1f9164ca8e5d72b3360772a5436b980171c475dab6690a"), looks := false }, kinds := [], alts := [], laidByText := true, laidKinds := [.data, .data], laidTests := true, laidLooks := .later }
def HelloExtrasUptoCardSaid : Prop := Claim7.holds Tryd.pinned (.plain (OpenSpec.upto helloExtrasSpec)) helloExtrasUptoCard

/-- THE SECOND FORM's CARD OF 'relaylaw08.HelloLimits'. -/
def helloLimitsUptoCard : Claim7 := { stood := { row := helloLimitsUptoRow, standIns := [], harness := (true, "509a89b67618beb9fd1f9164ca8e5d72b3360772a5436b980171c475dab6690a"), looks := false }, kinds := [], alts := [], laidByText := true, laidKinds := [.data, .data], laidTests := true, laidLooks := .later }
def HelloLimitsUptoCardSaid : Prop := Claim7.holds Tryd.pinned (.plain (OpenSpec.upto helloLimitsSpec)) helloLimitsUptoCard

/-- THE SECOND FORM's CARD OF 'relaylaw11.JournalNeeds'. -/
def journalNeedsUptoCard : Claim7 := { stood := { row := journalNeedsUptoRow, standIns := [], harness := (true, "509a89b67618beb9fd1f9164ca8e5d72b3360772a5436b980171c475dab6690a"), looks := false }, kinds := [], alts := [], laidByText := true, laidKinds := [.data, .data], laidTests := true, laidLooks := .later }
def JournalNeedsUptoCardSaid : Prop := Claim7.holds Tryd.pinned (.plain (OpenSpec.upto journalNeedsSpec)) journalNeedsUptoCard

/-- THE SECOND FORM's CARD OF 'relaylaw11.JournalLong'. -/
def journalLongUptoCard : Claim7 := { stood := { row := journalLongUptoRow, standIns := [], harness := (true, "509a89b67618beb9fd1f9164ca8e5d72b3360772a5436b980171c475dab6690a"), looks := false }, kinds := [], alts := [], laidByText := true, laidKinds := [.data, .data], laidTests := true, laidLooks := .later }
def JournalLongUptoCardSaid : Prop := Claim7.holds Tryd.pinned (.plain (OpenSpec.upto journalLongSpec)) journalLongUptoCard
end Rows
end Go.Proofs.YtmpgpbbaloiniaaDoor
