/-
  DERIVED. GIVEN WITH THE SEED: THE CARDS: each row of YtmofcjjhgigkoaaDoorRows.lean that lists a variable, with what it lists TIED to the program's text (the seventh form; the later family's looks); each row that meets fmt, with fmt's text TOLD by the authors' own Lean function (tested against real Go, not proved from fmt's source: count such statements apart). THE CARD IS WHAT COUNTS. Prove the row's statement (the work); the ties are given (YtmofcjjhgigkoaaDoorTie.lean); close each card by the builder's one call (the guide's Derived/Test/ToyasCard.lean, 'card_holds'). Laid BY PROGRAM, IN A SANDBOX (cutbox-door.mjs). By AI agents, Wed Nov 11 2026. No macro, syntax, notation, axiom, sorry.
-/
import Derived.Test.YtmofcjjhgigkoaaDoorRows
import GoSem.ClaimSeven
namespace Go.Proofs.YtmofcjjhgigkoaaDoor
namespace Rows

/-- THE TIED CARD OF 'relaylaw01.ShaSums'. -/
def shaSumsCard : Claim7 := { stood := { row := shaSumsRow, standIns := [], harness := (true, "44e11be570e4154174cda8b964177679c33fce583db925e342de0af1715ed693"), looks := false }, kinds := [], alts := [], laidByText := true, laidKinds := [.data, .data], laidTests := true, laidLooks := .later }
def ShaSumsCardSaid : Prop := Claim7.holds Tryd.pinned (.plain (OpenSpec.ofChange shaSumsSpec)) shaSumsCard

/-- THE TIED CARD OF 'relaylaw01.ShaMacs'. -/
def shaMacsCard : Claim7 := { stood := { row := shaMacsRow, standIns := [], harness := (true, "44e11be570e4154174cda8b964177679c33fce583db925e342de0af1715ed693"), looks := false }, kinds := [], alts := [], laidByText := true, laidKinds := [.data, .data], laidTests := true, laidLooks := .later }
def ShaMacsCardSaid : Prop := Claim7.holds Tryd.pinned (.plain (OpenSpec.ofChange shaMacsSpec)) shaMacsCard

/-- THE TIED CARD OF 'relaylaw01.ShaSames'. -/
def shaSamesCard : Claim7 := { stood := { row := shaSamesRow, standIns := [], harness := (true, "44e11be570e4154174cda8b964177679c33fce583db925e342de0af1715ed693"), looks := false }, kinds := [], alts := [], laidByText := true, laidKinds := [.data, .data], laidTests := true, laidLooks := .later }
def ShaSamesCardSaid : Prop := Claim7.holds Tryd.pinned (.plain (OpenSpec.ofChange shaSamesSpec)) shaSamesCard

/-- THE TIED CARD OF 'relaylaw01.ShaLengths'. -/
def shaLengthsCard : Claim7 := { stood := { row := shaLengthsRow, standIns := [], harness := (true, "44e11be570e4154174cda8b964177679c33fce583db925e342de0af1715ed693"), looks := false }, kinds := [], alts := [], laidByText := true, laidKinds := [.data, .data], laidTests := true, laidLooks := .later }
def ShaLengthsCardSaid : Prop := Claim7.holds Tryd.pinned (.plain (OpenSpec.ofChange shaLengthsSpec)) shaLengthsCard

/-- THE TIED CARD OF 'relaylaw01.ShaKeys'. -/
def shaKeysCard : Claim7 := { stood := { row := shaKeysRow, standIns := [], harness := (true, "44e11be570e4154174cda8b964177679c33fce583db925e342de0af1715ed693"), looks := false }, kinds := [], alts := [], laidByText := true, laidKinds := [.data, .data], laidTests := true, laidLooks := .later }
def ShaKeysCardSaid : Prop := Claim7.holds Tryd.pinned (.plain (OpenSpec.ofChange shaKeysSpec)) shaKeysCard

/-- THE TIED CARD OF 'relaylaw02.HkdfExpands'. -/
def hkdfExpandsCard : Claim7 := { stood := { row := hkdfExpandsRow, standIns := [], harness := (true, "44e11be570e4154174cda8b964177679c33fce583db925e342de0af1715ed693"), looks := false }, kinds := [], alts := [], laidByText := true, laidKinds := [.data, .data], laidTests := true, laidLooks := .later }
def HkdfExpandsCardSaid : Prop := Claim7.holds Tryd.pinned (.plain (OpenSpec.ofChange hkdfExpandsSpec)) hkdfExpandsCard

/-- THE TIED CARD OF 'relaylaw02.HkdfExtracts'. -/
def hkdfExtractsCard : Claim7 := { stood := { row := hkdfExtractsRow, standIns := [], harness := (true, "44e11be570e4154174cda8b964177679c33fce583db925e342de0af1715ed693"), looks := false }, kinds := [], alts := [], laidByText := true, laidKinds := [.data, .data], laidTests := true, laidLooks := .later }
def HkdfExtractsCardSaid : Prop := Claim7.holds Tryd.pinned (.plain (OpenSpec.ofChange hkdfExtractsSpec)) hkdfExtractsCard

/-- THE TIED CARD OF 'relaylaw02.HkdfLabels'. -/
def hkdfLabelsCard : Claim7 := { stood := { row := hkdfLabelsRow, standIns := [], harness := (true, "44e11be570e4154174cda8b964177679c33fce583db925e342de0af1715ed693"), looks := false }, kinds := [], alts := [], laidByText := true, laidKinds := [.data, .data], laidTests := true, laidLooks := .later }
def HkdfLabelsCardSaid : Prop := Claim7.holds Tryd.pinned (.plain (OpenSpec.ofChange hkdfLabelsSpec)) hkdfLabelsCard

/-- THE TIED CARD OF 'relaylaw02.HkdfBlocks'. -/
def hkdfBlocksCard : Claim7 := { stood := { row := hkdfBlocksRow, standIns := [], harness := (true, "44e11be570e4154174cda8b964177679c33fce583db925e342de0af1715ed693"), looks := false }, kinds := [], alts := [], laidByText := true, laidKinds := [.data, .data], laidTests := true, laidLooks := .later }
def HkdfBlocksCardSaid : Prop := Claim7.holds Tryd.pinned (.plain (OpenSpec.ofChange hkdfBlocksSpec)) hkdfBlocksCard

/-- THE SECOND FORM's CARD OF 'relaylaw01.ShaSums'. -/
def shaSumsUptoCard : Claim7 := { stood := { row := shaSumsUptoRow, standIns := [], harness := (true, "44e11be570e4154174cda8b964177679c33fce583db925e342de0af1715ed693"), looks := false }, kinds := [], alts := [], laidByText := true, laidKinds := [.data, .data], laidTests := true, laidLooks := .later }
def ShaSumsUptoCardSaid : Prop := Claim7.holds Tryd.pinned (.plain (OpenSpec.upto shaSumsSpec)) shaSumsUptoCard

/-- THE SECOND FORM's CARD OF 'relaylaw01.ShaMacs'. -/
def shaMacsUptoCard : Claim7 := { stood := { row := shaMacsUptoRow, standIns := [], harness := (true, "44e11be570e4154174cda8b964177679c33fce583db925e342de0af1715ed693"), looks := false }, kinds := [], alts := [], laidByText := true, laidKinds := [.data, .data], laidTests := true, laidLooks := .later }
def ShaMacsUptoCardSaid : Prop := Claim7.holds Tryd.pinned (.plain (OpenSpec.upto shaMacsSpec)) shaMacsUptoCard

/-- THE SECOND FORM's CARD OF 'relaylaw01.ShaSames'. -/
def shaSamesUptoCard : Claim7 := { stood := { row := shaSamesUptoRow, standIns := [], harness := (true, "44e11be570e4154174cda8b964177679c33fce583db925e342de0af1715ed693"), looks := false }, kinds := [], alts := [], laidByText := true, laidKinds := [.data, .data], laidTests := true, laidLooks := .later }
def ShaSamesUptoCardSaid : Prop := Claim7.holds Tryd.pinned (.plain (OpenSpec.upto shaSamesSpec)) shaSamesUptoCard

/-- THE SECOND FORM's CARD OF 'relaylaw01.ShaLengths'. -/
def shaLengthsUptoCard : Claim7 := { stood := { row := shaLengthsUptoRow, standIns := [], harness := (true, "44e11be570e4154174cda8b964177679c33fce583db925e342de0af1715ed693"), looks := false }, kinds := [], alts := [], laidByText := true, laidKinds := [.data, .data], laidTests := true, laidLooks := .later }
def ShaLengthsUptoCardSaid : Prop := Claim7.holds Tryd.pinned (.plain (OpenSpec.upto shaLengthsSpec)) shaLengthsUptoCard

/-- THE SECOND FORM's CARD OF 'relaylaw01.ShaKeys'. -/
def shaKeysUptoCard : Claim7 := { stood := { row := shaKeysUptoRow, standIns := [], harness := (true, "44e11be570e4154174cda8b964177679c33fce583db925e342de0af1715ed693"), looks := false }, kinds := [], alts := [], laidByText := true, laidKinds := [.data, .data], laidTests := true, laidLooks := .later }
def ShaKeysUptoCardSaid : Prop := Claim7.holds Tryd.pinned (.plain (OpenSpec.upto shaKeysSpec)) shaKeysUptoCard

/-- THE SECOND FORM's CARD OF 'relaylaw02.HkdfExpands'. -/
def hkdfExpandsUptoCard : Claim7 := { stood := { row := hkdfExpandsUptoRow, standIns := [], harness := (true, "44e11be570e4154174cda8b964177679c33fce583db925e342de0af1715ed693"), looks := false }, kinds := [], alts := [], laidByText := true, laidKinds := [.data, .data], laidTests := true, laidLooks := .later }
def HkdfExpandsUptoCardSaid : Prop := Claim7.holds Tryd.pinned (.plain (OpenSpec.upto hkdfExpandsSpec)) hkdfExpandsUptoCard

/-- THE SECOND FORM's CARD OF 'relaylaw02.HkdfExtracts'. -/
def hkdfExtractsUptoCard : Claim7 := { stood := { row := hkdfExtractsUptoRow, standIns := [], harness := (true, "44e11be570e4154174cda8b964177679c33fce583db925e342de0af1715ed693"), looks := false }, kinds := [], alts := [], laidByText := true, laidKinds := [.data, .data], laidTests := true, laidLooks := .later }
def HkdfExtractsUptoCardSaid : Prop := Claim7.holds Tryd.pinned (.plain (OpenSpec.upto hkdfExtractsSpec)) hkdfExtractsUptoCard

/-- THE SECOND FORM's CARD OF 'relaylaw02.HkdfLabels'. -/
def hkdfLabelsUptoCard : Claim7 := { stood := { row := hkdfLabelsUptoRow, standIns := [], harness := (true, "44e11be570e4154174cda8b964177679c33fce583db925e342de0af1715ed693"), looks := false }, kinds := [], alts := [], laidByText := true, laidKinds := [.data, .data], laidTests := true, laidLooks := .later }
def HkdfLabelsUptoCardSaid : Prop := Claim7.holds Tryd.pinned (.plain (OpenSpec.upto hkdfLabelsSpec)) hkdfLabelsUptoCard

/-- THE SECOND FORM's CARD OF 'relaylaw02.HkdfBlocks'. -/
def hkdfBlocksUptoCard : Claim7 := { stood := { row := hkdfBlocksUptoRow, standIns := [], harness := (true, "44e11be570e4154174cda8b964177679c33fce583db925e342de0af1715ed693"), looks := false }, kinds := [], alts := [], laidByText := true, laidKinds := [.data, .data], laidTests := true, laidLooks := .later }
def HkdfBlocksUptoCardSaid : Prop := Claim7.holds Tryd.pinned (.plain (OpenSpec.upto hkdfBlocksSpec)) hkdfBlocksUptoCard
end Rows
end Go.Proofs.YtmofcjjhgigkoaaDoor
