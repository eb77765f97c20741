/-
  No cell of these rows narrows 'for every input' (looked for: loops, veiled, ifaces, maps, wideKeys, modest, calm, conditions, laid).
  DERIVED. THE GIVEN ROWS OF THIS SEAT. 12 by the template 'for every input the law returns true; each argument reads behind the call as it read before'; 0 by the template 'total and deterministic' (their statements: YtgniepaehjdjaaaTotals.lean).
  GIVEN WITH THE SEED: the statements are not yours to turn. If you find one false, say at which input.
  Laid BY PROGRAM, IN A SANDBOX (cutbox-rows.mjs): the forced cells as the released guide's own fill.sh prints them over the translation 631daa7696bc20f3… (all of the seat's roots in one cut). By AI agents, Wed Nov 11 2026. No macro, syntax, notation, axiom, sorry.
-/
import Derived.Test.YtgniepaehjdjaaaChecked
import GoSem.Claim
import GoSem.ClaimJoined
import GoSem.ClaimMapViews
import Derived.JoinedTies
import Derived.KernelRfl
namespace Go.Proofs.Ytgniepaehjdjaaa
/- THE CELL 'sum', in the pinned program and in every row, IS THE sha256 OF THE DUMP (.gsa) THAT YtgniepaehjdjaaaProg.lean LOADS. Nothing in Lean hashes anything: it is a label: what it is worth is what the hold of that sum in a sandbox is worth. -/
noncomputable def Try.pinned : Pinned := { name := "ytgniepaehjdjaaa", sum := "631daa7696bc20f321f03e75c9517d74395e32c0df3726b52bd9a506d2f91ac1", checked := Try.checked }
namespace Rows
def none {H : Type} : Left H := { results := [], args := [] }

/-- 'relaylaw07.CursorReads': WHATEVER THE INPUT: true; the input reads as it did. -/
def cursorReadsSpec : ChangeSpec := { name := "cursorReads", fn := fun _ => fun
  | [d1, d2] => { results := [.lit (.bool true)], args := [d1, d2] }
  | _ => none }
def cursorReadsRow : OpenClaim := { program := "ytgniepaehjdjaaa", sum := "631daa7696bc20f321f03e75c9517d74395e32c0df3726b52bd9a506d2f91ac1", func := "relay/relaylaw07.CursorReads", spec := "cursorReads", apart := false }
def CursorReadsSaid : Prop := cursorReadsRow.holds Try.pinned (OpenSpec.ofChange cursorReadsSpec)

/-- ITS FALSE NEIGHBOUR: 'it returns false'. Refute it at one input. -/
def cursorReadsWrong : ChangeSpec := { name := "cursorReads", fn := fun _ => fun
  | [d1, d2] => { results := [.lit (.bool false)], args := [d1, d2] }
  | _ => none }
def CursorReadsWrongFalsely : Prop := cursorReadsRow.holds Try.pinned (OpenSpec.ofChange cursorReadsWrong)

/-- 'relaylaw07.CursorRows': WHATEVER THE INPUT: true; the input reads as it did. -/
def cursorRowsSpec : ChangeSpec := { name := "cursorRows", fn := fun _ => fun
  | [d1, d2] => { results := [.lit (.bool true)], args := [d1, d2] }
  | _ => none }
def cursorRowsRow : OpenClaim := { program := "ytgniepaehjdjaaa", sum := "631daa7696bc20f321f03e75c9517d74395e32c0df3726b52bd9a506d2f91ac1", func := "relay/relaylaw07.CursorRows", spec := "cursorRows", apart := false }
def CursorRowsSaid : Prop := cursorRowsRow.holds Try.pinned (OpenSpec.ofChange cursorRowsSpec)

/-- ITS FALSE NEIGHBOUR: 'it returns false'. Refute it at one input. -/
def cursorRowsWrong : ChangeSpec := { name := "cursorRows", fn := fun _ => fun
  | [d1, d2] => { results := [.lit (.bool false)], args := [d1, d2] }
  | _ => none }
def CursorRowsWrongFalsely : Prop := cursorRowsRow.holds Try.pinned (OpenSpec.ofChange cursorRowsWrong)

/-- 'relaylaw09.MessagePieces': WHATEVER THE INPUT: true; the input reads as it did. -/
def messagePiecesSpec : ChangeSpec := { name := "messagePieces", fn := fun _ => fun
  | [d1, d2, d3] => { results := [.lit (.bool true)], args := [d1, d2, d3] }
  | _ => none }
def messagePiecesRow : OpenClaim := { program := "ytgniepaehjdjaaa", sum := "631daa7696bc20f321f03e75c9517d74395e32c0df3726b52bd9a506d2f91ac1", func := "relay/relaylaw09.MessagePieces", spec := "messagePieces", apart := false }
def MessagePiecesSaid : Prop := messagePiecesRow.holds Try.pinned (OpenSpec.ofChange messagePiecesSpec)

/-- ITS FALSE NEIGHBOUR: 'it returns false'. Refute it at one input. -/
def messagePiecesWrong : ChangeSpec := { name := "messagePieces", fn := fun _ => fun
  | [d1, d2, d3] => { results := [.lit (.bool false)], args := [d1, d2, d3] }
  | _ => none }
def MessagePiecesWrongFalsely : Prop := messagePiecesRow.holds Try.pinned (OpenSpec.ofChange messagePiecesWrong)

/-- 'relaylaw09.MessageRows': WHATEVER THE INPUT: true; the input reads as it did. -/
def messageRowsSpec : ChangeSpec := { name := "messageRows", fn := fun _ => fun
  | [d1, d2] => { results := [.lit (.bool true)], args := [d1, d2] }
  | _ => none }
def messageRowsRow : OpenClaim := { program := "ytgniepaehjdjaaa", sum := "631daa7696bc20f321f03e75c9517d74395e32c0df3726b52bd9a506d2f91ac1", func := "relay/relaylaw09.MessageRows", spec := "messageRows", apart := false }
def MessageRowsSaid : Prop := messageRowsRow.holds Try.pinned (OpenSpec.ofChange messageRowsSpec)

/-- ITS FALSE NEIGHBOUR: 'it returns false'. Refute it at one input. -/
def messageRowsWrong : ChangeSpec := { name := "messageRows", fn := fun _ => fun
  | [d1, d2] => { results := [.lit (.bool false)], args := [d1, d2] }
  | _ => none }
def MessageRowsWrongFalsely : Prop := messageRowsRow.holds Try.pinned (OpenSpec.ofChange messageRowsWrong)

/-- 'relaylaw09.MessageBodies': WHATEVER THE INPUT: true; the input reads as it did. -/
def messageBodiesSpec : ChangeSpec := { name := "messageBodies", fn := fun _ => fun
  | [d1, d2, d3] => { results := [.lit (.bool true)], args := [d1, d2, d3] }
  | _ => none }
def messageBodiesRow : OpenClaim := { program := "ytgniepaehjdjaaa", sum := "631daa7696bc20f321f03e75c9517d74395e32c0df3726b52bd9a506d2f91ac1", func := "relay/relaylaw09.MessageBodies", spec := "messageBodies", apart := false }
def MessageBodiesSaid : Prop := messageBodiesRow.holds Try.pinned (OpenSpec.ofChange messageBodiesSpec)

/-- ITS FALSE NEIGHBOUR: 'it returns false'. Refute it at one input. -/
def messageBodiesWrong : ChangeSpec := { name := "messageBodies", fn := fun _ => fun
  | [d1, d2, d3] => { results := [.lit (.bool false)], args := [d1, d2, d3] }
  | _ => none }
def MessageBodiesWrongFalsely : Prop := messageBodiesRow.holds Try.pinned (OpenSpec.ofChange messageBodiesWrong)

/-- 'relaylaw19.VaultSeals': WHATEVER THE INPUT: true; the input reads as it did. -/
def vaultSealsSpec : ChangeSpec := { name := "vaultSeals", fn := fun _ => fun
  | [d1, d2, d3] => { results := [.lit (.bool true)], args := [d1, d2, d3] }
  | _ => none }
def vaultSealsRow : OpenClaim := { program := "ytgniepaehjdjaaa", sum := "631daa7696bc20f321f03e75c9517d74395e32c0df3726b52bd9a506d2f91ac1", func := "relay/relaylaw19.VaultSeals", spec := "vaultSeals", apart := false }
def VaultSealsSaid : Prop := vaultSealsRow.holds Try.pinned (OpenSpec.ofChange vaultSealsSpec)

/-- ITS FALSE NEIGHBOUR: 'it returns false'. Refute it at one input. -/
def vaultSealsWrong : ChangeSpec := { name := "vaultSeals", fn := fun _ => fun
  | [d1, d2, d3] => { results := [.lit (.bool false)], args := [d1, d2, d3] }
  | _ => none }
def VaultSealsWrongFalsely : Prop := vaultSealsRow.holds Try.pinned (OpenSpec.ofChange vaultSealsWrong)

/-- 'relaylaw19.VaultOpens': WHATEVER THE INPUT: true; the input reads as it did. -/
def vaultOpensSpec : ChangeSpec := { name := "vaultOpens", fn := fun _ => fun
  | [d1, d2, d3] => { results := [.lit (.bool true)], args := [d1, d2, d3] }
  | _ => none }
def vaultOpensRow : OpenClaim := { program := "ytgniepaehjdjaaa", sum := "631daa7696bc20f321f03e75c9517d74395e32c0df3726b52bd9a506d2f91ac1", func := "relay/relaylaw19.VaultOpens", spec := "vaultOpens", apart := false }
def VaultOpensSaid : Prop := vaultOpensRow.holds Try.pinned (OpenSpec.ofChange vaultOpensSpec)

/-- ITS FALSE NEIGHBOUR: 'it returns false'. Refute it at one input. -/
def vaultOpensWrong : ChangeSpec := { name := "vaultOpens", fn := fun _ => fun
  | [d1, d2, d3] => { results := [.lit (.bool false)], args := [d1, d2, d3] }
  | _ => none }
def VaultOpensWrongFalsely : Prop := vaultOpensRow.holds Try.pinned (OpenSpec.ofChange vaultOpensWrong)

/-- 'relaylaw18.SnapPuts': WHATEVER THE INPUT: true; the input reads as it did. -/
def snapPutsSpec : ChangeSpec := { name := "snapPuts", fn := fun _ => fun
  | [d1, d2] => { results := [.lit (.bool true)], args := [d1, d2] }
  | _ => none }
def snapPutsRow : OpenClaim := { program := "ytgniepaehjdjaaa", sum := "631daa7696bc20f321f03e75c9517d74395e32c0df3726b52bd9a506d2f91ac1", func := "relay/relaylaw18.SnapPuts", spec := "snapPuts", apart := false }
def SnapPutsSaid : Prop := snapPutsRow.holds Try.pinned (OpenSpec.ofChange snapPutsSpec)

/-- ITS FALSE NEIGHBOUR: 'it returns false'. Refute it at one input. -/
def snapPutsWrong : ChangeSpec := { name := "snapPuts", fn := fun _ => fun
  | [d1, d2] => { results := [.lit (.bool false)], args := [d1, d2] }
  | _ => none }
def SnapPutsWrongFalsely : Prop := snapPutsRow.holds Try.pinned (OpenSpec.ofChange snapPutsWrong)

/-- 'relaylaw18.SnapOlder': WHATEVER THE INPUT: true; the input reads as it did. -/
def snapOlderSpec : ChangeSpec := { name := "snapOlder", fn := fun _ => fun
  | [d] => { results := [.lit (.bool true)], args := [d] }
  | _ => none }
def snapOlderRow : OpenClaim := { program := "ytgniepaehjdjaaa", sum := "631daa7696bc20f321f03e75c9517d74395e32c0df3726b52bd9a506d2f91ac1", func := "relay/relaylaw18.SnapOlder", spec := "snapOlder", apart := false }
def SnapOlderSaid : Prop := snapOlderRow.holds Try.pinned (OpenSpec.ofChange snapOlderSpec)

/-- ITS FALSE NEIGHBOUR: 'it returns false'. Refute it at one input. -/
def snapOlderWrong : ChangeSpec := { name := "snapOlder", fn := fun _ => fun
  | [d] => { results := [.lit (.bool false)], args := [d] }
  | _ => none }
def SnapOlderWrongFalsely : Prop := snapOlderRow.holds Try.pinned (OpenSpec.ofChange snapOlderWrong)

/-- 'relaylaw18.SnapCuts': WHATEVER THE INPUT: true; the input reads as it did. -/
def snapCutsSpec : ChangeSpec := { name := "snapCuts", fn := fun _ => fun
  | [d1, d2, d3] => { results := [.lit (.bool true)], args := [d1, d2, d3] }
  | _ => none }
def snapCutsRow : OpenClaim := { program := "ytgniepaehjdjaaa", sum := "631daa7696bc20f321f03e75c9517d74395e32c0df3726b52bd9a506d2f91ac1", func := "relay/relaylaw18.SnapCuts", spec := "snapCuts", apart := false }
def SnapCutsSaid : Prop := snapCutsRow.holds Try.pinned (OpenSpec.ofChange snapCutsSpec)

/-- ITS FALSE NEIGHBOUR: 'it returns false'. Refute it at one input. -/
def snapCutsWrong : ChangeSpec := { name := "snapCuts", fn := fun _ => fun
  | [d1, d2, d3] => { results := [.lit (.bool false)], args := [d1, d2, d3] }
  | _ => none }
def SnapCutsWrongFalsely : Prop := snapCutsRow.holds Try.pinned (OpenSpec.ofChange snapCutsWrong)

/-- 'relaylaw13.StreamPieces': WHATEVER THE INPUT: true; the input reads as it did. -/
def streamPiecesSpec : ChangeSpec := { name := "streamPieces", fn := fun _ => fun
  | [d1, d2] => { results := [.lit (.bool true)], args := [d1, d2] }
  | _ => none }
def streamPiecesRow : OpenClaim := { program := "ytgniepaehjdjaaa", sum := "631daa7696bc20f321f03e75c9517d74395e32c0df3726b52bd9a506d2f91ac1", func := "relay/relaylaw13.StreamPieces", spec := "streamPieces", apart := false }
def StreamPiecesSaid : Prop := streamPiecesRow.holds Try.pinned (OpenSpec.ofChange streamPiecesSpec)

/-- ITS FALSE NEIGHBOUR: 'it returns false'. Refute it at one input. -/
def streamPiecesWrong : ChangeSpec := { name := "streamPieces", fn := fun _ => fun
  | [d1, d2] => { results := [.lit (.bool false)], args := [d1, d2] }
  | _ => none }
def StreamPiecesWrongFalsely : Prop := streamPiecesRow.holds Try.pinned (OpenSpec.ofChange streamPiecesWrong)

/-- 'relaylaw13.StreamSingles': WHATEVER THE INPUT: true; the input reads as it did. -/
def streamSinglesSpec : ChangeSpec := { name := "streamSingles", fn := fun _ => fun
  | [d1, d2, d3] => { results := [.lit (.bool true)], args := [d1, d2, d3] }
  | _ => none }
def streamSinglesRow : OpenClaim := { program := "ytgniepaehjdjaaa", sum := "631daa7696bc20f321f03e75c9517d74395e32c0df3726b52bd9a506d2f91ac1", func := "relay/relaylaw13.StreamSingles", spec := "streamSingles", apart := false }
def StreamSinglesSaid : Prop := streamSinglesRow.holds Try.pinned (OpenSpec.ofChange streamSinglesSpec)

/-- ITS FALSE NEIGHBOUR: 'it returns false'. Refute it at one input. -/
def streamSinglesWrong : ChangeSpec := { name := "streamSingles", fn := fun _ => fun
  | [d1, d2, d3] => { results := [.lit (.bool false)], args := [d1, d2, d3] }
  | _ => none }
def StreamSinglesWrongFalsely : Prop := streamSinglesRow.holds Try.pinned (OpenSpec.ofChange streamSinglesWrong)

/- THE SECOND FORM. 'bulk': how many values and letters a reading holds, each counted each time it is reached (what is shared counts as often as it is met; a slice's spare places count too). A statement '..UptoSaid' is the law's where the arguments, and the package variables that the reading takes, are together of bulk at most 1048576: NARROWER than '..Said'. Prove '..Said' where nothing that the law and all that it calls make is longer than what came in: it says more and counts as full. Else prove '..UptoSaid'. A law counts once. -/
mutual
def uptoBulk {H : Type} : DataW H → Nat
  | .lit (.string bytes) => bytes.length + 1
  | .lit _ => 1
  | .nil => 1
  | .ptr d => uptoBulk d + 1
  | .slice elems spare => uptoBulkAll elems + uptoBulkAll spare + 1
  | .agg parts => uptoBulkAll parts + 1
  | .iface _ d => uptoBulk d + 1
  | .map entries => uptoBulkEntries entries + 1
  | .held _ => 1
def uptoBulkAll {H : Type} : List (DataW H) → Nat
  | [] => 0
  | d :: r => uptoBulk d + uptoBulkAll r
def uptoBulkEntries {H : Type} : List (Lit × DataW H) → Nat
  | [] => 0
  | x :: r => uptoBulkEntry x + uptoBulkEntries r
def uptoBulkEntry {H : Type} : Lit × DataW H → Nat
  | (.string bytes, d) => bytes.length + uptoBulk d + 1
  | (_, d) => uptoBulk d + 1
 end
def uptoSmall : (H : Type) → List (DataW H) → Bool := fun _ ds => decide (uptoBulkAll ds ≤ 1048576)
def OpenSpec.upto (s : _root_.Go.ChangeSpec) : _root_.Go.OpenSpec := { _root_.Go.OpenSpec.ofChange s with cond := some uptoSmall }

/-- 'relaylaw07.CursorReads', WHERE WHAT IT READS IS OF BULK AT MOST 1048576: true; the input reads as it did. -/
def cursorReadsUptoRow : OpenClaim := { program := "ytgniepaehjdjaaa", sum := "631daa7696bc20f321f03e75c9517d74395e32c0df3726b52bd9a506d2f91ac1", func := "relay/relaylaw07.CursorReads", spec := "cursorReads", apart := false, narrowed := true }
def CursorReadsUptoSaid : Prop := cursorReadsUptoRow.holds Try.pinned (OpenSpec.upto cursorReadsSpec)

/-- 'relaylaw07.CursorRows', WHERE WHAT IT READS IS OF BULK AT MOST 1048576: true; the input reads as it did. -/
def cursorRowsUptoRow : OpenClaim := { program := "ytgniepaehjdjaaa", sum := "631daa7696bc20f321f03e75c9517d74395e32c0df3726b52bd9a506d2f91ac1", func := "relay/relaylaw07.CursorRows", spec := "cursorRows", apart := false, narrowed := true }
def CursorRowsUptoSaid : Prop := cursorRowsUptoRow.holds Try.pinned (OpenSpec.upto cursorRowsSpec)

/-- 'relaylaw09.MessagePieces', WHERE WHAT IT READS IS OF BULK AT MOST 1048576: true; the input reads as it did. -/
def messagePiecesUptoRow : OpenClaim := { program := "ytgniepaehjdjaaa", sum := "631daa7696bc20f321f03e75c9517d74395e32c0df3726b52bd9a506d2f91ac1", func := "relay/relaylaw09.MessagePieces", spec := "messagePieces", apart := false, narrowed := true }
def MessagePiecesUptoSaid : Prop := messagePiecesUptoRow.holds Try.pinned (OpenSpec.upto messagePiecesSpec)

/-- 'relaylaw09.MessageRows', WHERE WHAT IT READS IS OF BULK AT MOST 1048576: true; the input reads as it did. -/
def messageRowsUptoRow : OpenClaim := { program := "ytgniepaehjdjaaa", sum := "631daa7696bc20f321f03e75c9517d74395e32c0df3726b52bd9a506d2f91ac1", func := "relay/relaylaw09.MessageRows", spec := "messageRows", apart := false, narrowed := true }
def MessageRowsUptoSaid : Prop := messageRowsUptoRow.holds Try.pinned (OpenSpec.upto messageRowsSpec)

/-- 'relaylaw09.MessageBodies', WHERE WHAT IT READS IS OF BULK AT MOST 1048576: true; the input reads as it did. -/
def messageBodiesUptoRow : OpenClaim := { program := "ytgniepaehjdjaaa", sum := "631daa7696bc20f321f03e75c9517d74395e32c0df3726b52bd9a506d2f91ac1", func := "relay/relaylaw09.MessageBodies", spec := "messageBodies", apart := false, narrowed := true }
def MessageBodiesUptoSaid : Prop := messageBodiesUptoRow.holds Try.pinned (OpenSpec.upto messageBodiesSpec)

/-- 'relaylaw19.VaultSeals', WHERE WHAT IT READS IS OF BULK AT MOST 1048576: true; the input reads as it did. -/
def vaultSealsUptoRow : OpenClaim := { program := "ytgniepaehjdjaaa", sum := "631daa7696bc20f321f03e75c9517d74395e32c0df3726b52bd9a506d2f91ac1", func := "relay/relaylaw19.VaultSeals", spec := "vaultSeals", apart := false, narrowed := true }
def VaultSealsUptoSaid : Prop := vaultSealsUptoRow.holds Try.pinned (OpenSpec.upto vaultSealsSpec)

/-- 'relaylaw19.VaultOpens', WHERE WHAT IT READS IS OF BULK AT MOST 1048576: true; the input reads as it did. -/
def vaultOpensUptoRow : OpenClaim := { program := "ytgniepaehjdjaaa", sum := "631daa7696bc20f321f03e75c9517d74395e32c0df3726b52bd9a506d2f91ac1", func := "relay/relaylaw19.VaultOpens", spec := "vaultOpens", apart := false, narrowed := true }
def VaultOpensUptoSaid : Prop := vaultOpensUptoRow.holds Try.pinned (OpenSpec.upto vaultOpensSpec)

/-- 'relaylaw18.SnapPuts', WHERE WHAT IT READS IS OF BULK AT MOST 1048576: true; the input reads as it did. -/
def snapPutsUptoRow : OpenClaim := { program := "ytgniepaehjdjaaa", sum := "631daa7696bc20f321f03e75c9517d74395e32c0df3726b52bd9a506d2f91ac1", func := "relay/relaylaw18.SnapPuts", spec := "snapPuts", apart := false, narrowed := true }
def SnapPutsUptoSaid : Prop := snapPutsUptoRow.holds Try.pinned (OpenSpec.upto snapPutsSpec)

/-- 'relaylaw18.SnapOlder', WHERE WHAT IT READS IS OF BULK AT MOST 1048576: true; the input reads as it did. -/
def snapOlderUptoRow : OpenClaim := { program := "ytgniepaehjdjaaa", sum := "631daa7696bc20f321f03e75c9517d74395e32c0df3726b52bd9a506d2f91ac1", func := "relay/relaylaw18.SnapOlder", spec := "snapOlder", apart := false, narrowed := true }
def SnapOlderUptoSaid : Prop := snapOlderUptoRow.holds Try.pinned (OpenSpec.upto snapOlderSpec)

/-- 'relaylaw18.SnapCuts', WHERE WHAT IT READS IS OF BULK AT MOST 1048576: true; the input reads as it did. -/
def snapCutsUptoRow : OpenClaim := { program := "ytgniepaehjdjaaa", sum := "631daa7696bc20f321f03e75c9517d74395e32c0df3726b52bd9a506d2f91ac1", func := "relay/relaylaw18.SnapCuts", spec := "snapCuts", apart := false, narrowed := true }
def SnapCutsUptoSaid : Prop := snapCutsUptoRow.holds Try.pinned (OpenSpec.upto snapCutsSpec)

/-- 'relaylaw13.StreamPieces', WHERE WHAT IT READS IS OF BULK AT MOST 1048576: true; the input reads as it did. -/
def streamPiecesUptoRow : OpenClaim := { program := "ytgniepaehjdjaaa", sum := "631daa7696bc20f321f03e75c9517d74395e32c0df3726b52bd9a506d2f91ac1", func := "relay/relaylaw13.StreamPieces", spec := "streamPieces", apart := false, narrowed := true }
def StreamPiecesUptoSaid : Prop := streamPiecesUptoRow.holds Try.pinned (OpenSpec.upto streamPiecesSpec)

/-- 'relaylaw13.StreamSingles', WHERE WHAT IT READS IS OF BULK AT MOST 1048576: true; the input reads as it did. -/
def streamSinglesUptoRow : OpenClaim := { program := "ytgniepaehjdjaaa", sum := "631daa7696bc20f321f03e75c9517d74395e32c0df3726b52bd9a506d2f91ac1", func := "relay/relaylaw13.StreamSingles", spec := "streamSingles", apart := false, narrowed := true }
def StreamSinglesUptoSaid : Prop := streamSinglesUptoRow.holds Try.pinned (OpenSpec.upto streamSinglesSpec)

end Rows
end Go.Proofs.Ytgniepaehjdjaaa
