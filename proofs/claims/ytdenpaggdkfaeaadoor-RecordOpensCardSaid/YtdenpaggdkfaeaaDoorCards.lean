/-
  DERIVED. GIVEN WITH THE SEED: THE CARDS: each row of YtdenpaggdkfaeaaDoorRows.lean that lists a variable, with what it lists TIED to the program's text (the seventh form; the later family's looks); each row that meets fmt, with fmt's text TOLD by the authors' own Lean function (tested against real Go, not proved from fmt's source: count such statements apart). THE CARD IS WHAT COUNTS. Prove the row's statement (the work); the ties are given (YtdenpaggdkfaeaaDoorTie.lean); close each card by the builder's one call (the guide's Derived/Test/ToyasCard.lean, 'card_holds'). Laid BY PROGRAM, IN A SANDBOX (cutbox-door.mjs). By AI agents, Wed Nov 11 2026. No macro, syntax, notation, axiom, sorry.
-/
import Derived.Test.YtdenpaggdkfaeaaDoorRows
import GoSem.ClaimSeven
namespace Go.Proofs.YtdenpaggdkfaeaaDoor
namespace Rows

/-- THE TIED CARD OF 'relaylaw12.RecordKeys'. -/
def recordKeysCard : Claim7 := { stood := { row := recordKeysRow, standIns := [], harness := (true, "87e7fe467a3e985133d1d9c81030e66719aefcc50b4a85793b11cbd7f8f88aa4"), looks := false }, kinds := [], alts := [], laidByText := true, laidKinds := [.data, .data, .data, .pinned], laidTests := true, laidLooks := .later }
def RecordKeysCardSaid : Prop := Claim7.holds Tryd.pinned (.plain (OpenSpec.ofChange recordKeysSpec)) recordKeysCard

/-- THE TIED CARD OF 'relaylaw12.RecordSeals'. -/
def recordSealsCard : Claim7 := { stood := { row := recordSealsRow, standIns := [], harness := (true, "87e7fe467a3e985133d1d9c81030e66719aefcc50b4a85793b11cbd7f8f88aa4"), looks := false }, kinds := [], alts := [], laidByText := true, laidKinds := [.data, .data, .data, .pinned], laidTests := true, laidLooks := .later }
def RecordSealsCardSaid : Prop := Claim7.holds Tryd.pinned (.plain (OpenSpec.ofChange recordSealsSpec)) recordSealsCard

/-- THE TIED CARD OF 'relaylaw12.RecordOpens'. -/
def recordOpensCard : Claim7 := { stood := { row := recordOpensRow, standIns := [], harness := (true, "87e7fe467a3e985133d1d9c81030e66719aefcc50b4a85793b11cbd7f8f88aa4"), looks := false }, kinds := [], alts := [], laidByText := true, laidKinds := [.data, .data, .data, .pinned], laidTests := true, laidLooks := .later }
def RecordOpensCardSaid : Prop := Claim7.holds Tryd.pinned (.plain (OpenSpec.ofChange recordOpensSpec)) recordOpensCard

/-- THE TIED CARD OF 'relaylaw12.RecordParts'. -/
def recordPartsCard : Claim7 := { stood := { row := recordPartsRow, standIns := [], harness := (true, "87e7fe467a3e985133d1d9c81030e66719aefcc50b4a85793b11cbd7f8f88aa4"), looks := false }, kinds := [], alts := [], laidByText := true, laidKinds := [.data, .data, .data, .pinned], laidTests := true, laidLooks := .later }
def RecordPartsCardSaid : Prop := Claim7.holds Tryd.pinned (.plain (OpenSpec.ofChange recordPartsSpec)) recordPartsCard

/-- THE TIED CARD OF 'relaylaw12.RecordPads'. -/
def recordPadsCard : Claim7 := { stood := { row := recordPadsRow, standIns := [], harness := (true, "87e7fe467a3e985133d1d9c81030e66719aefcc50b4a85793b11cbd7f8f88aa4"), looks := false }, kinds := [], alts := [], laidByText := true, laidKinds := [.data, .data, .data, .pinned], laidTests := true, laidLooks := .later }
def RecordPadsCardSaid : Prop := Claim7.holds Tryd.pinned (.plain (OpenSpec.ofChange recordPadsSpec)) recordPadsCard

/-- THE TIED CARD OF 'relaylaw15.ScheduleSecrets'. -/
def scheduleSecretsCard : Claim7 := { stood := { row := scheduleSecretsRow, standIns := [], harness := (true, "87e7fe467a3e985133d1d9c81030e66719aefcc50b4a85793b11cbd7f8f88aa4"), looks := false }, kinds := [], alts := [], laidByText := true, laidKinds := [.data, .data], laidTests := true, laidLooks := .later }
def ScheduleSecretsCardSaid : Prop := Claim7.holds Tryd.pinned (.plain (OpenSpec.ofChange scheduleSecretsSpec)) scheduleSecretsCard

/-- THE TIED CARD OF 'relaylaw15.ScheduleNames'. -/
def scheduleNamesCard : Claim7 := { stood := { row := scheduleNamesRow, standIns := [], harness := (true, "87e7fe467a3e985133d1d9c81030e66719aefcc50b4a85793b11cbd7f8f88aa4"), looks := false }, kinds := [], alts := [], laidByText := true, laidKinds := [.data, .data], laidTests := true, laidLooks := .later }
def ScheduleNamesCardSaid : Prop := Claim7.holds Tryd.pinned (.plain (OpenSpec.ofChange scheduleNamesSpec)) scheduleNamesCard

/-- THE TIED CARD OF 'relaylaw15.ScheduleTickets'. -/
def scheduleTicketsCard : Claim7 := { stood := { row := scheduleTicketsRow, standIns := [], harness := (true, "87e7fe467a3e985133d1d9c81030e66719aefcc50b4a85793b11cbd7f8f88aa4"), looks := false }, kinds := [], alts := [], laidByText := true, laidKinds := [.data, .data], laidTests := true, laidLooks := .later }
def ScheduleTicketsCardSaid : Prop := Claim7.holds Tryd.pinned (.plain (OpenSpec.ofChange scheduleTicketsSpec)) scheduleTicketsCard

/-- THE SECOND FORM's CARD OF 'relaylaw12.RecordKeys'. -/
def recordKeysUptoCard : Claim7 := { stood := { row := recordKeysUptoRow, standIns := [], harness := (true, "87e7fe467a3e985133d1d9c81030e66719aefcc50b4a85793b11cbd7f8f88aa4"), looks := false }, kinds := [], alts := [], laidByText := true, laidKinds := [.data, .data, .data, .pinned], laidTests := true, laidLooks := .later }
def RecordKeysUptoCardSaid : Prop := Claim7.holds Tryd.pinned (.plain (OpenSpec.upto recordKeysSpec)) recordKeysUptoCard

/-- THE SECOND FORM's CARD OF 'relaylaw12.RecordSeals'. -/
def recordSealsUptoCard : Claim7 := { stood := { row := recordSealsUptoRow, standIns := [], harness := (true, "87e7fe467a3e985133d1d9c81030e66719aefcc50b4a85793b11cbd7f8f88aa4"), looks := false }, kinds := [], alts := [], laidByText := true, laidKinds := [.data, .data, .data, .pinned], laidTests := true, laidLooks := .later }
def RecordSealsUptoCardSaid : Prop := Claim7.holds Tryd.pinned (.plain (OpenSpec.upto recordSealsSpec)) recordSealsUptoCard

/-- THE SECOND FORM's CARD OF 'relaylaw12.RecordOpens'. -/
def recordOpensUptoCard : Claim7 := { stood := { row := recordOpensUptoRow, standIns := [], harness := (true, "87e7fe467a3e985133d1d9c81030e66719aefcc50b4a85793b11cbd7f8f88aa4"), looks := false }, kinds := [], alts := [], laidByText := true, laidKinds := [.data, .data, .data, .pinned], laidTests := true, laidLooks := .later }
def RecordOpensUptoCardSaid : Prop := Claim7.holds Tryd.pinned (.plain (OpenSpec.upto recordOpensSpec)) recordOpensUptoCard

/-- THE SECOND FORM's CARD OF 'relaylaw12.RecordParts'. -/
def recordPartsUptoCard : Claim7 := { stood := { row := recordPartsUptoRow, standIns := [], harness := (true, "87e7fe467a3e985133d1d9c81030e66719aefcc50b4a85793b11cbd7f8f88aa4"), looks := false }, kinds := [], alts := [], laidByText := true, laidKinds := [.data, .data, .data, .pinned], laidTests := true, laidLooks := .later }
def RecordPartsUptoCardSaid : Prop := Claim7.holds Tryd.pinned (.plain (OpenSpec.upto recordPartsSpec)) recordPartsUptoCard

/-- THE SECOND FORM's CARD OF 'relaylaw12.RecordPads'. -/
def recordPadsUptoCard : Claim7 := { stood := { row := recordPadsUptoRow, standIns := [], harness := (true, "87e7fe467a3e985133d1d9c81030e66719aefcc50b4a85793b11cbd7f8f88aa4"), looks := false }, kinds := [], alts := [], laidByText := true, laidKinds := [.data, .data, .data, .pinned], laidTests := true, laidLooks := .later }
def RecordPadsUptoCardSaid : Prop := Claim7.holds Tryd.pinned (.plain (OpenSpec.upto recordPadsSpec)) recordPadsUptoCard

/-- THE SECOND FORM's CARD OF 'relaylaw15.ScheduleSecrets'. -/
def scheduleSecretsUptoCard : Claim7 := { stood := { row := scheduleSecretsUptoRow, standIns := [], harness := (true, "87e7fe467a3e985133d1d9c81030e66719aefcc50b4a85793b11cbd7f8f88aa4"), looks := false }, kinds := [], alts := [], laidByText := true, laidKinds := [.data, .data], laidTests := true, laidLooks := .later }
def ScheduleSecretsUptoCardSaid : Prop := Claim7.holds Tryd.pinned (.plain (OpenSpec.upto scheduleSecretsSpec)) scheduleSecretsUptoCard

/-- THE SECOND FORM's CARD OF 'relaylaw15.ScheduleNames'. -/
def scheduleNamesUptoCard : Claim7 := { stood := { row := scheduleNamesUptoRow, standIns := [], harness := (true, "87e7fe467a3e985133d1d9c81030e66719aefcc50b4a85793b11cbd7f8f88aa4"), looks := false }, kinds := [], alts := [], laidByText := true, laidKinds := [.data, .data], laidTests := true, laidLooks := .later }
def ScheduleNamesUptoCardSaid : Prop := Claim7.holds Tryd.pinned (.plain (OpenSpec.upto scheduleNamesSpec)) scheduleNamesUptoCard

/-- THE SECOND FORM's CARD OF 'relaylaw15.ScheduleTickets'. -/
def scheduleTicketsUptoCard : Claim7 := { stood := { row := scheduleTicketsUptoRow, standIns := [], harness := (true, "87e7fe467a3e985133d1d9c81030e66719aefcc50b4a85793b11cbd7f8f88aa4"), looks := false }, kinds := [], alts := [], laidByText := true, laidKinds := [.data, .data], laidTests := true, laidLooks := .later }
def ScheduleTicketsUptoCardSaid : Prop := Claim7.holds Tryd.pinned (.plain (OpenSpec.upto scheduleTicketsSpec)) scheduleTicketsUptoCard
end Rows
end Go.Proofs.YtdenpaggdkfaeaaDoor
