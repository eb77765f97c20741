/-
  NARROWER THAN 'FOR EVERY INPUT', by the rows' own cells (each row's printed sentence says how): ShaSames: laid · ShaLengths: laid · HelloClients: laid · HelloExtras: laid · HelloLimits: laid · JournalNeeds: laid · JournalLong: laid.
  DERIVED. THE GIVEN ROWS OF THIS SEAT. 7 by the template 'for every input the law returns true; each argument reads behind the call as it read before'; 0 by the template 'total and deterministic' (their statements: YtmpgpbbaloiniaaDoorTotals.lean).
  GIVEN WITH THE SEED: the statements are not yours to turn. If you find one false, say at which input.
  Laid BY PROGRAM, IN A SANDBOX (cutbox-rows.mjs): the forced cells as the released guide's own fill.sh prints them over the translation 655b0ac21cbf4d23… (all of the seat's roots in one cut). By AI agents, Wed Nov 11 2026. No macro, syntax, notation, axiom, sorry.
-/
import Derived.Test.YtmpgpbbaloiniaaDoorChecked
import GoSem.Claim
import GoSem.ClaimJoined
import GoSem.ClaimMapViews
import Derived.JoinedTies
import Derived.KernelRfl
namespace Go.Proofs.YtmpgpbbaloiniaaDoor
/- THE CELL 'sum', in the pinned program and in every row, IS THE sha256 OF THE DUMP (.gsa) THAT YtmpgpbbaloiniaaDoorProg.lean LOADS. Nothing in Lean hashes anything: it is a label: what it is worth is what the hold of that sum in a sandbox is worth. -/
noncomputable def Tryd.pinned : Pinned := { name := "ytmpgpbbaloiniaadoor", sum := "655b0ac21cbf4d239d69e5b4d6ac4e4e28ae0d414307e6dcce25f763fafd6959", checked := Tryd.checked }
namespace Rows
def none {H : Type} : Left H := { results := [], args := [] }

/- WHAT THE LISTED PACKAGE-LEVEL VARIABLES READ AS WHEN THE CALL BEGINS. Each datum BY PROGRAM (the guide's laid-datum.mjs) off the statement by which the dump's own 'gosem.cut.vars' lays the variable. In a bare row this is a premise. The card (YtmpgpbbaloiniaaDoorCards.lean) ties it to the program's text. -/
def laid_relay_sha_begin {H : Type} : DataW H := .agg [.lit (.int .u32 1779033703), .lit (.int .u32 3144134277), .lit (.int .u32 1013904242), .lit (.int .u32 2773480762), .lit (.int .u32 1359893119), .lit (.int .u32 2600822924), .lit (.int .u32 528734635), .lit (.int .u32 1541459225)]
def laid_relay_sha_rounds {H : Type} : DataW H := .agg [.lit (.int .u32 1116352408), .lit (.int .u32 1899447441), .lit (.int .u32 3049323471), .lit (.int .u32 3921009573), .lit (.int .u32 961987163), .lit (.int .u32 1508970993), .lit (.int .u32 2453635748), .lit (.int .u32 2870763221), .lit (.int .u32 3624381080), .lit (.int .u32 310598401), .lit (.int .u32 607225278), .lit (.int .u32 1426881987), .lit (.int .u32 1925078388), .lit (.int .u32 2162078206), .lit (.int .u32 2614888103), .lit (.int .u32 3248222580), .lit (.int .u32 3835390401), .lit (.int .u32 4022224774), .lit (.int .u32 264347078), .lit (.int .u32 604807628), .lit (.int .u32 770255983), .lit (.int .u32 1249150122), .lit (.int .u32 1555081692), .lit (.int .u32 1996064986), .lit (.int .u32 2554220882), .lit (.int .u32 2821834349), .lit (.int .u32 2952996808), .lit (.int .u32 3210313671), .lit (.int .u32 3336571891), .lit (.int .u32 3584528711), .lit (.int .u32 113926993), .lit (.int .u32 338241895), .lit (.int .u32 666307205), .lit (.int .u32 773529912), .lit (.int .u32 1294757372), .lit (.int .u32 1396182291), .lit (.int .u32 1695183700), .lit (.int .u32 1986661051), .lit (.int .u32 2177026350), .lit (.int .u32 2456956037), .lit (.int .u32 2730485921), .lit (.int .u32 2820302411), .lit (.int .u32 3259730800), .lit (.int .u32 3345764771), .lit (.int .u32 3516065817), .lit (.int .u32 3600352804), .lit (.int .u32 4094571909), .lit (.int .u32 275423344), .lit (.int .u32 430227734), .lit (.int .u32 506948616), .lit (.int .u32 659060556), .lit (.int .u32 883997877), .lit (.int .u32 958139571), .lit (.int .u32 1322822218), .lit (.int .u32 1537002063), .lit (.int .u32 1747873779), .lit (.int .u32 1955562222), .lit (.int .u32 2024104815), .lit (.int .u32 2227730452), .lit (.int .u32 2361852424), .lit (.int .u32 2428436474), .lit (.int .u32 2756734187), .lit (.int .u32 3204031479), .lit (.int .u32 3329325298)]

/-- 'relaylaw01.ShaSames': WHATEVER THE INPUT: true; the input reads as it did. -/
def shaSamesSpec : ChangeSpec := { name := "shaSames", fn := fun _ => fun
  | [d1, d2, d3] => { results := [.lit (.bool true)], args := [d1, d2, d3] }
  | _ => none }
def shaSamesRow : OpenClaim := { program := "ytmpgpbbaloiniaadoor", sum := "655b0ac21cbf4d239d69e5b4d6ac4e4e28ae0d414307e6dcce25f763fafd6959", func := "relay/relaylaw01.ShaSames", spec := "shaSames", named := ["relay/sha.begin", "relay/sha.rounds"], apart := false, laid := [("relay/sha.begin", laid_relay_sha_begin), ("relay/sha.rounds", laid_relay_sha_rounds)] }
def ShaSamesSaid : Prop := shaSamesRow.holds Tryd.pinned (OpenSpec.ofChange shaSamesSpec)

/-- ITS FALSE NEIGHBOUR: 'it returns false'. Refute it at one input. -/
def shaSamesWrong : ChangeSpec := { name := "shaSames", fn := fun _ => fun
  | [d1, d2, d3] => { results := [.lit (.bool false)], args := [d1, d2, d3] }
  | _ => none }
def ShaSamesWrongFalsely : Prop := shaSamesRow.holds Tryd.pinned (OpenSpec.ofChange shaSamesWrong)

/-- 'relaylaw01.ShaLengths': WHATEVER THE INPUT: true; the input reads as it did. -/
def shaLengthsSpec : ChangeSpec := { name := "shaLengths", fn := fun _ => fun
  | [d1, d2] => { results := [.lit (.bool true)], args := [d1, d2] }
  | _ => none }
def shaLengthsRow : OpenClaim := { program := "ytmpgpbbaloiniaadoor", sum := "655b0ac21cbf4d239d69e5b4d6ac4e4e28ae0d414307e6dcce25f763fafd6959", func := "relay/relaylaw01.ShaLengths", spec := "shaLengths", named := ["relay/sha.begin", "relay/sha.rounds"], apart := false, laid := [("relay/sha.begin", laid_relay_sha_begin), ("relay/sha.rounds", laid_relay_sha_rounds)] }
def ShaLengthsSaid : Prop := shaLengthsRow.holds Tryd.pinned (OpenSpec.ofChange shaLengthsSpec)

/-- ITS FALSE NEIGHBOUR: 'it returns false'. Refute it at one input. -/
def shaLengthsWrong : ChangeSpec := { name := "shaLengths", fn := fun _ => fun
  | [d1, d2] => { results := [.lit (.bool false)], args := [d1, d2] }
  | _ => none }
def ShaLengthsWrongFalsely : Prop := shaLengthsRow.holds Tryd.pinned (OpenSpec.ofChange shaLengthsWrong)

/-- 'relaylaw08.HelloClients': WHATEVER THE INPUT: true; the input reads as it did. -/
def helloClientsSpec : ChangeSpec := { name := "helloClients", fn := fun _ => fun
  | [d] => { results := [.lit (.bool true)], args := [d] }
  | _ => none }
def helloClientsRow : OpenClaim := { program := "ytmpgpbbaloiniaadoor", sum := "655b0ac21cbf4d239d69e5b4d6ac4e4e28ae0d414307e6dcce25f763fafd6959", func := "relay/relaylaw08.HelloClients", spec := "helloClients", unfollowed := true, recurses := true, named := ["relay/sha.begin", "relay/sha.rounds"], apart := false, laid := [("relay/sha.begin", laid_relay_sha_begin), ("relay/sha.rounds", laid_relay_sha_rounds)] }
def HelloClientsSaid : Prop := helloClientsRow.holds Tryd.pinned (OpenSpec.ofChange helloClientsSpec)

/-- ITS FALSE NEIGHBOUR: 'it returns false'. Refute it at one input. -/
def helloClientsWrong : ChangeSpec := { name := "helloClients", fn := fun _ => fun
  | [d] => { results := [.lit (.bool false)], args := [d] }
  | _ => none }
def HelloClientsWrongFalsely : Prop := helloClientsRow.holds Tryd.pinned (OpenSpec.ofChange helloClientsWrong)

/-- 'relaylaw08.HelloExtras': WHATEVER THE INPUT: true; the input reads as it did. -/
def helloExtrasSpec : ChangeSpec := { name := "helloExtras", fn := fun _ => fun
  | [d1, d2, d3] => { results := [.lit (.bool true)], args := [d1, d2, d3] }
  | _ => none }
def helloExtrasRow : OpenClaim := { program := "ytmpgpbbaloiniaadoor", sum := "655b0ac21cbf4d239d69e5b4d6ac4e4e28ae0d414307e6dcce25f763fafd6959", func := "relay/relaylaw08.HelloExtras", spec := "helloExtras", unfollowed := true, recurses := true, named := ["relay/sha.begin", "relay/sha.rounds"], apart := false, laid := [("relay/sha.begin", laid_relay_sha_begin), ("relay/sha.rounds", laid_relay_sha_rounds)] }
def HelloExtrasSaid : Prop := helloExtrasRow.holds Tryd.pinned (OpenSpec.ofChange helloExtrasSpec)

/-- ITS FALSE NEIGHBOUR: 'it returns false'. Refute it at one input. -/
def helloExtrasWrong : ChangeSpec := { name := "helloExtras", fn := fun _ => fun
  | [d1, d2, d3] => { results := [.lit (.bool false)], args := [d1, d2, d3] }
  | _ => none }
def HelloExtrasWrongFalsely : Prop := helloExtrasRow.holds Tryd.pinned (OpenSpec.ofChange helloExtrasWrong)

/-- 'relaylaw08.HelloLimits': WHATEVER THE INPUT: true; the input reads as it did. -/
def helloLimitsSpec : ChangeSpec := { name := "helloLimits", fn := fun _ => fun
  | [d1, d2] => { results := [.lit (.bool true)], args := [d1, d2] }
  | _ => none }
def helloLimitsRow : OpenClaim := { program := "ytmpgpbbaloiniaadoor", sum := "655b0ac21cbf4d239d69e5b4d6ac4e4e28ae0d414307e6dcce25f763fafd6959", func := "relay/relaylaw08.HelloLimits", spec := "helloLimits", unfollowed := true, recurses := true, named := ["relay/sha.begin", "relay/sha.rounds"], apart := false, laid := [("relay/sha.begin", laid_relay_sha_begin), ("relay/sha.rounds", laid_relay_sha_rounds)] }
def HelloLimitsSaid : Prop := helloLimitsRow.holds Tryd.pinned (OpenSpec.ofChange helloLimitsSpec)

/-- ITS FALSE NEIGHBOUR: 'it returns false'. Refute it at one input. -/
def helloLimitsWrong : ChangeSpec := { name := "helloLimits", fn := fun _ => fun
  | [d1, d2] => { results := [.lit (.bool false)], args := [d1, d2] }
  | _ => none }
def HelloLimitsWrongFalsely : Prop := helloLimitsRow.holds Tryd.pinned (OpenSpec.ofChange helloLimitsWrong)

/-- 'relaylaw11.JournalNeeds': WHATEVER THE INPUT: true; the input reads as it did. -/
def journalNeedsSpec : ChangeSpec := { name := "journalNeeds", fn := fun _ => fun
  | [d] => { results := [.lit (.bool true)], args := [d] }
  | _ => none }
def journalNeedsRow : OpenClaim := { program := "ytmpgpbbaloiniaadoor", sum := "655b0ac21cbf4d239d69e5b4d6ac4e4e28ae0d414307e6dcce25f763fafd6959", func := "relay/relaylaw11.JournalNeeds", spec := "journalNeeds", unfollowed := true, recurses := true, named := ["relay/sha.begin", "relay/sha.rounds"], apart := false, laid := [("relay/sha.begin", laid_relay_sha_begin), ("relay/sha.rounds", laid_relay_sha_rounds)] }
def JournalNeedsSaid : Prop := journalNeedsRow.holds Tryd.pinned (OpenSpec.ofChange journalNeedsSpec)

/-- ITS FALSE NEIGHBOUR: 'it returns false'. Refute it at one input. -/
def journalNeedsWrong : ChangeSpec := { name := "journalNeeds", fn := fun _ => fun
  | [d] => { results := [.lit (.bool false)], args := [d] }
  | _ => none }
def JournalNeedsWrongFalsely : Prop := journalNeedsRow.holds Tryd.pinned (OpenSpec.ofChange journalNeedsWrong)

/-- 'relaylaw11.JournalLong': WHATEVER THE INPUT: true; the input reads as it did. -/
def journalLongSpec : ChangeSpec := { name := "journalLong", fn := fun _ => fun
  | [d1, d2] => { results := [.lit (.bool true)], args := [d1, d2] }
  | _ => none }
def journalLongRow : OpenClaim := { program := "ytmpgpbbaloiniaadoor", sum := "655b0ac21cbf4d239d69e5b4d6ac4e4e28ae0d414307e6dcce25f763fafd6959", func := "relay/relaylaw11.JournalLong", spec := "journalLong", unfollowed := true, recurses := true, named := ["relay/sha.begin", "relay/sha.rounds"], apart := false, laid := [("relay/sha.begin", laid_relay_sha_begin), ("relay/sha.rounds", laid_relay_sha_rounds)] }
def JournalLongSaid : Prop := journalLongRow.holds Tryd.pinned (OpenSpec.ofChange journalLongSpec)

/-- ITS FALSE NEIGHBOUR: 'it returns false'. Refute it at one input. -/
def journalLongWrong : ChangeSpec := { name := "journalLong", fn := fun _ => fun
  | [d1, d2] => { results := [.lit (.bool false)], args := [d1, d2] }
  | _ => none }
def JournalLongWrongFalsely : Prop := journalLongRow.holds Tryd.pinned (OpenSpec.ofChange journalLongWrong)

/- THE SECOND FORM. 'bulk': how many values and letters a reading holds, each counted each time it is reached (what is shared counts as often as it is met; a slice's spare places count too). A statement '..UptoSaid' is the law's where the arguments, and the package variables that the reading takes, are together of bulk at most 1048576: NARROWER than '..Said'. Prove '..Said' where nothing that the law and all that it calls make is longer than what came in: it says more and counts as full. Else prove '..UptoSaid'. A law counts once. -/
mutual
def uptoBulk {H : Type} : DataW H → Nat
  | .lit (.string bytes) => bytes.length + 1
  | .lit _ => 1
  | .nil => 1
  | .ptr d => uptoBulk d + 1
  | .slice elems spare => uptoBulkAll elems + uptoBulkAll spare + 1
  | .agg parts => uptoBulkAll parts + 1
  | .iface _ d => uptoBulk d + 1
  | .map entries => uptoBulkEntries entries + 1
  | .held _ => 1
def uptoBulkAll {H : Type} : List (DataW H) → Nat
  | [] => 0
  | d :: r => uptoBulk d + uptoBulkAll r
def uptoBulkEntries {H : Type} : List (Lit × DataW H) → Nat
  | [] => 0
  | x :: r => uptoBulkEntry x + uptoBulkEntries r
def uptoBulkEntry {H : Type} : Lit × DataW H → Nat
  | (.string bytes, d) => bytes.length + uptoBulk d + 1
  | (_, d) => uptoBulk d + 1
 end
def uptoSmall : (H : Type) → List (DataW H) → Bool := fun _ ds => decide (uptoBulkAll ds ≤ 1048576)
def OpenSpec.upto (s : _root_.Go.ChangeSpec) : _root_.Go.OpenSpec := { _root_.Go.OpenSpec.ofChange s with cond := some uptoSmall }

/-- 'relaylaw01.ShaSames', WHERE WHAT IT READS IS OF BULK AT MOST 1048576: true; the input reads as it did. -/
def shaSamesUptoRow : OpenClaim := { program := "ytmpgpbbaloiniaadoor", sum := "655b0ac21cbf4d239d69e5b4d6ac4e4e28ae0d414307e6dcce25f763fafd6959", func := "relay/relaylaw01.ShaSames", spec := "shaSames", named := ["relay/sha.begin", "relay/sha.rounds"], apart := false, laid := [("relay/sha.begin", laid_relay_sha_begin), ("relay/sha.rounds", laid_relay_sha_rounds)], narrowed := true }
def ShaSamesUptoSaid : Prop := shaSamesUptoRow.holds Tryd.pinned (OpenSpec.upto shaSamesSpec)

/-- 'relaylaw01.ShaLengths', WHERE WHAT IT READS IS OF BULK AT MOST 1048576: true; the input reads as it did. -/
def shaLengthsUptoRow : OpenClaim := { program := "ytmpgpbbaloiniaadoor", sum := "655b0ac21cbf4d239d69e5b4d6ac4e4e28ae0d414307e6dcce25f763fafd6959", func := "relay/relaylaw01.ShaLengths", spec := "shaLengths", named := ["relay/sha.begin", "relay/sha.rounds"], apart := false, laid := [("relay/sha.begin", laid_relay_sha_begin), ("relay/sha.rounds", laid_relay_sha_rounds)], narrowed := true }
def ShaLengthsUptoSaid : Prop := shaLengthsUptoRow.holds Tryd.pinned (OpenSpec.upto shaLengthsSpec)

/-- 'relaylaw08.HelloClients', WHERE WHAT IT READS IS OF BULK AT MOST 1048576: true; the input reads as it did. -/
def helloClientsUptoRow : OpenClaim := { program := "ytmpgpbbaloiniaadoor", sum := "655b0ac21cbf4d239d69e5b4d6ac4e4e28ae0d414307e6dcce25f763fafd6959", func := "relay/relaylaw08.HelloClients", spec := "helloClients", unfollowed := true, recurses := true, named := ["relay/sha.begin", "relay/sha.rounds"], apart := false, laid := [("relay/sha.begin", laid_relay_sha_begin), ("relay/sha.rounds", laid_relay_sha_rounds)], narrowed := true }
def HelloClientsUptoSaid : Prop := helloClientsUptoRow.holds Tryd.pinned (OpenSpec.upto helloClientsSpec)

/-- 'relaylaw08.HelloExtras', WHERE WHAT IT READS IS OF BULK AT MOST 1048576: true; the input reads as it did. -/
def helloExtrasUptoRow : OpenClaim := { program := "ytmpgpbbaloiniaadoor", sum := "655b0ac21cbf4d239d69e5b4d6ac4e4e28ae0d414307e6dcce25f763fafd6959", func := "relay/relaylaw08.HelloExtras", spec := "helloExtras", unfollowed := true, recurses := true, named := ["relay/sha.begin", "relay/sha.rounds"], apart := false, laid := [("relay/sha.begin", laid_relay_sha_begin), ("relay/sha.rounds", laid_relay_sha_rounds)], narrowed := true }
def HelloExtrasUptoSaid : Prop := helloExtrasUptoRow.holds Tryd.pinned (OpenSpec.upto helloExtrasSpec)

/-- 'relaylaw08.HelloLimits', WHERE WHAT IT READS IS OF BULK AT MOST 1048576: true; the input reads as it did. -/
def helloLimitsUptoRow : OpenClaim := { program := "ytmpgpbbaloiniaadoor", sum := "655b0ac21cbf4d239d69e5b4d6ac4e4e28ae0d414307e6dcce25f763fafd6959", func := "relay/relaylaw08.HelloLimits", spec := "helloLimits", unfollowed := true, recurses := true, named := ["relay/sha.begin", "relay/sha.rounds"], apart := false, laid := [("relay/sha.begin", laid_relay_sha_begin), ("relay/sha.rounds", laid_relay_sha_rounds)], narrowed := true }
def HelloLimitsUptoSaid : Prop := helloLimitsUptoRow.holds Tryd.pinned (OpenSpec.upto helloLimitsSpec)

/-- 'relaylaw11.JournalNeeds', WHERE WHAT IT READS IS OF BULK AT MOST 1048576: true; the input reads as it did. -/
def journalNeedsUptoRow : OpenClaim := { program := "ytmpgpbbaloiniaadoor", sum := "655b0ac21cbf4d239d69e5b4d6ac4e4e28ae0d414307e6dcce25f763fafd6959", func := "relay/relaylaw11.JournalNeeds", spec := "journalNeeds", unfollowed := true, recurses := true, named := ["relay/sha.begin", "relay/sha.rounds"], apart := false, laid := [("relay/sha.begin", laid_relay_sha_begin), ("relay/sha.rounds", laid_relay_sha_rounds)], narrowed := true }
def JournalNeedsUptoSaid : Prop := journalNeedsUptoRow.holds Tryd.pinned (OpenSpec.upto journalNeedsSpec)

/-- 'relaylaw11.JournalLong', WHERE WHAT IT READS IS OF BULK AT MOST 1048576: true; the input reads as it did. -/
def journalLongUptoRow : OpenClaim := { program := "ytmpgpbbaloiniaadoor", sum := "655b0ac21cbf4d239d69e5b4d6ac4e4e28ae0d414307e6dcce25f763fafd6959", func := "relay/relaylaw11.JournalLong", spec := "journalLong", unfollowed := true, recurses := true, named := ["relay/sha.begin", "relay/sha.rounds"], apart := false, laid := [("relay/sha.begin", laid_relay_sha_begin), ("relay/sha.rounds", laid_relay_sha_rounds)], narrowed := true }
def JournalLongUptoSaid : Prop := journalLongUptoRow.holds Tryd.pinned (OpenSpec.upto journalLongSpec)

end Rows
end Go.Proofs.YtmpgpbbaloiniaaDoor
