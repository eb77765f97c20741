/-
  NARROWER THAN 'FOR EVERY INPUT', by the rows' own cells (each row's printed sentence says how): ShaSums: laid · ShaMacs: laid · ShaSames: laid · ShaLengths: laid · ShaKeys: laid · HkdfExpands: laid · HkdfExtracts: laid · HkdfLabels: laid · HkdfBlocks: laid.
  DERIVED. THE GIVEN ROWS OF THIS SEAT. 9 by the template 'for every input the law returns true; each argument reads behind the call as it read before'; 0 by the template 'total and deterministic' (their statements: YtmofcjjhgigkoaaDoorTotals.lean).
  GIVEN WITH THE SEED: the statements are not yours to turn. If you find one false, say at which input.
  Laid BY PROGRAM, IN A SANDBOX (cutbox-rows.mjs): the forced cells as the released guide's own fill.sh prints them over the translation 62613f4d61ab7514… (all of the seat's roots in one cut). By AI agents, Wed Nov 11 2026. No macro, syntax, notation, axiom, sorry.
-/
import Derived.Test.YtmofcjjhgigkoaaDoorChecked
import GoSem.Claim
import GoSem.ClaimJoined
import GoSem.ClaimMapViews
import Derived.JoinedTies
import Derived.KernelRfl
namespace Go.Proofs.YtmofcjjhgigkoaaDoor
/- THE CELL 'sum', in the pinned program and in every row, IS THE sha256 OF THE DUMP (.gsa) THAT YtmofcjjhgigkoaaDoorProg.lean LOADS. Nothing in Lean hashes anything: it is a label: what it is worth is what the hold of that sum in a sandbox is worth. -/
noncomputable def Tryd.pinned : Pinned := { name := "ytmofcjjhgigkoaadoor", sum := "62613f4d61ab751445b55849de42b0550fcc852f69ffe0c705a75eca6d38778f", checked := Tryd.checked }
namespace Rows
def none {H : Type} : Left H := { results := [], args := [] }

/- WHAT THE LISTED PACKAGE-LEVEL VARIABLES READ AS WHEN THE CALL BEGINS. Each datum BY PROGRAM (the guide's laid-datum.mjs) off the statement by which the dump's own 'gosem.cut.vars' lays the variable. In a bare row this is a premise. The card (YtmofcjjhgigkoaaDoorCards.lean) ties it to the program's text. -/
def laid_relay_sha_begin {H : Type} : DataW H := .agg [.lit (.int .u32 1779033703), .lit (.int .u32 3144134277), .lit (.int .u32 1013904242), .lit (.int .u32 2773480762), .lit (.int .u32 1359893119), .lit (.int .u32 2600822924), .lit (.int .u32 528734635), .lit (.int .u32 1541459225)]
def laid_relay_sha_rounds {H : Type} : DataW H := .agg [.lit (.int .u32 1116352408), .lit (.int .u32 1899447441), .lit (.int .u32 3049323471), .lit (.int .u32 3921009573), .lit (.int .u32 961987163), .lit (.int .u32 1508970993), .lit (.int .u32 2453635748), .lit (.int .u32 2870763221), .lit (.int .u32 3624381080), .lit (.int .u32 310598401), .lit (.int .u32 607225278), .lit (.int .u32 1426881987), .lit (.int .u32 1925078388), .lit (.int .u32 2162078206), .lit (.int .u32 2614888103), .lit (.int .u32 3248222580), .lit (.int .u32 3835390401), .lit (.int .u32 4022224774), .lit (.int .u32 264347078), .lit (.int .u32 604807628), .lit (.int .u32 770255983), .lit (.int .u32 1249150122), .lit (.int .u32 1555081692), .lit (.int .u32 1996064986), .lit (.int .u32 2554220882), .lit (.int .u32 2821834349), .lit (.int .u32 2952996808), .lit (.int .u32 3210313671), .lit (.int .u32 3336571891), .lit (.int .u32 3584528711), .lit (.int .u32 113926993), .lit (.int .u32 338241895), .lit (.int .u32 666307205), .lit (.int .u32 773529912), .lit (.int .u32 1294757372), .lit (.int .u32 1396182291), .lit (.int .u32 1695183700), .lit (.int .u32 1986661051), .lit (.int .u32 2177026350), .lit (.int .u32 2456956037), .lit (.int .u32 2730485921), .lit (.int .u32 2820302411), .lit (.int .u32 3259730800), .lit (.int .u32 3345764771), .lit (.int .u32 3516065817), .lit (.int .u32 3600352804), .lit (.int .u32 4094571909), .lit (.int .u32 275423344), .lit (.int .u32 430227734), .lit (.int .u32 506948616), .lit (.int .u32 659060556), .lit (.int .u32 883997877), .lit (.int .u32 958139571), .lit (.int .u32 1322822218), .lit (.int .u32 1537002063), .lit (.int .u32 1747873779), .lit (.int .u32 1955562222), .lit (.int .u32 2024104815), .lit (.int .u32 2227730452), .lit (.int .u32 2361852424), .lit (.int .u32 2428436474), .lit (.int .u32 2756734187), .lit (.int .u32 3204031479), .lit (.int .u32 3329325298)]

/-- 'relaylaw01.ShaSums': WHATEVER THE INPUT: true; the input reads as it did. -/
def shaSumsSpec : ChangeSpec := { name := "shaSums", fn := fun _ => fun
  | [d1, d2] => { results := [.lit (.bool true)], args := [d1, d2] }
  | _ => none }
def shaSumsRow : OpenClaim := { program := "ytmofcjjhgigkoaadoor", sum := "62613f4d61ab751445b55849de42b0550fcc852f69ffe0c705a75eca6d38778f", func := "relay/relaylaw01.ShaSums", spec := "shaSums", named := ["relay/sha.begin", "relay/sha.rounds"], apart := false, laid := [("relay/sha.begin", laid_relay_sha_begin), ("relay/sha.rounds", laid_relay_sha_rounds)] }
def ShaSumsSaid : Prop := shaSumsRow.holds Tryd.pinned (OpenSpec.ofChange shaSumsSpec)

/-- ITS FALSE NEIGHBOUR: 'it returns false'. Refute it at one input. -/
def shaSumsWrong : ChangeSpec := { name := "shaSums", fn := fun _ => fun
  | [d1, d2] => { results := [.lit (.bool false)], args := [d1, d2] }
  | _ => none }
def ShaSumsWrongFalsely : Prop := shaSumsRow.holds Tryd.pinned (OpenSpec.ofChange shaSumsWrong)

/-- 'relaylaw01.ShaMacs': WHATEVER THE INPUT: true; the input reads as it did. -/
def shaMacsSpec : ChangeSpec := { name := "shaMacs", fn := fun _ => fun
  | [d1, d2] => { results := [.lit (.bool true)], args := [d1, d2] }
  | _ => none }
def shaMacsRow : OpenClaim := { program := "ytmofcjjhgigkoaadoor", sum := "62613f4d61ab751445b55849de42b0550fcc852f69ffe0c705a75eca6d38778f", func := "relay/relaylaw01.ShaMacs", spec := "shaMacs", named := ["relay/sha.begin", "relay/sha.rounds"], apart := false, laid := [("relay/sha.begin", laid_relay_sha_begin), ("relay/sha.rounds", laid_relay_sha_rounds)] }
def ShaMacsSaid : Prop := shaMacsRow.holds Tryd.pinned (OpenSpec.ofChange shaMacsSpec)

/-- ITS FALSE NEIGHBOUR: 'it returns false'. Refute it at one input. -/
def shaMacsWrong : ChangeSpec := { name := "shaMacs", fn := fun _ => fun
  | [d1, d2] => { results := [.lit (.bool false)], args := [d1, d2] }
  | _ => none }
def ShaMacsWrongFalsely : Prop := shaMacsRow.holds Tryd.pinned (OpenSpec.ofChange shaMacsWrong)

/-- 'relaylaw01.ShaSames': WHATEVER THE INPUT: true; the input reads as it did. -/
def shaSamesSpec : ChangeSpec := { name := "shaSames", fn := fun _ => fun
  | [d1, d2, d3] => { results := [.lit (.bool true)], args := [d1, d2, d3] }
  | _ => none }
def shaSamesRow : OpenClaim := { program := "ytmofcjjhgigkoaadoor", sum := "62613f4d61ab751445b55849de42b0550fcc852f69ffe0c705a75eca6d38778f", func := "relay/relaylaw01.ShaSames", spec := "shaSames", named := ["relay/sha.begin", "relay/sha.rounds"], apart := false, laid := [("relay/sha.begin", laid_relay_sha_begin), ("relay/sha.rounds", laid_relay_sha_rounds)] }
def ShaSamesSaid : Prop := shaSamesRow.holds Tryd.pinned (OpenSpec.ofChange shaSamesSpec)

/-- ITS FALSE NEIGHBOUR: 'it returns false'. Refute it at one input. -/
def shaSamesWrong : ChangeSpec := { name := "shaSames", fn := fun _ => fun
  | [d1, d2, d3] => { results := [.lit (.bool false)], args := [d1, d2, d3] }
  | _ => none }
def ShaSamesWrongFalsely : Prop := shaSamesRow.holds Tryd.pinned (OpenSpec.ofChange shaSamesWrong)

/-- 'relaylaw01.ShaLengths': WHATEVER THE INPUT: true; the input reads as it did. -/
def shaLengthsSpec : ChangeSpec := { name := "shaLengths", fn := fun _ => fun
  | [d1, d2] => { results := [.lit (.bool true)], args := [d1, d2] }
  | _ => none }
def shaLengthsRow : OpenClaim := { program := "ytmofcjjhgigkoaadoor", sum := "62613f4d61ab751445b55849de42b0550fcc852f69ffe0c705a75eca6d38778f", func := "relay/relaylaw01.ShaLengths", spec := "shaLengths", named := ["relay/sha.begin", "relay/sha.rounds"], apart := false, laid := [("relay/sha.begin", laid_relay_sha_begin), ("relay/sha.rounds", laid_relay_sha_rounds)] }
def ShaLengthsSaid : Prop := shaLengthsRow.holds Tryd.pinned (OpenSpec.ofChange shaLengthsSpec)

/-- ITS FALSE NEIGHBOUR: 'it returns false'. Refute it at one input. -/
def shaLengthsWrong : ChangeSpec := { name := "shaLengths", fn := fun _ => fun
  | [d1, d2] => { results := [.lit (.bool false)], args := [d1, d2] }
  | _ => none }
def ShaLengthsWrongFalsely : Prop := shaLengthsRow.holds Tryd.pinned (OpenSpec.ofChange shaLengthsWrong)

/-- 'relaylaw01.ShaKeys': WHATEVER THE INPUT: true; the input reads as it did. -/
def shaKeysSpec : ChangeSpec := { name := "shaKeys", fn := fun _ => fun
  | [d1, d2, d3] => { results := [.lit (.bool true)], args := [d1, d2, d3] }
  | _ => none }
def shaKeysRow : OpenClaim := { program := "ytmofcjjhgigkoaadoor", sum := "62613f4d61ab751445b55849de42b0550fcc852f69ffe0c705a75eca6d38778f", func := "relay/relaylaw01.ShaKeys", spec := "shaKeys", named := ["relay/sha.begin", "relay/sha.rounds"], apart := false, laid := [("relay/sha.begin", laid_relay_sha_begin), ("relay/sha.rounds", laid_relay_sha_rounds)] }
def ShaKeysSaid : Prop := shaKeysRow.holds Tryd.pinned (OpenSpec.ofChange shaKeysSpec)

/-- ITS FALSE NEIGHBOUR: 'it returns false'. Refute it at one input. -/
def shaKeysWrong : ChangeSpec := { name := "shaKeys", fn := fun _ => fun
  | [d1, d2, d3] => { results := [.lit (.bool false)], args := [d1, d2, d3] }
  | _ => none }
def ShaKeysWrongFalsely : Prop := shaKeysRow.holds Tryd.pinned (OpenSpec.ofChange shaKeysWrong)

/-- 'relaylaw02.HkdfExpands': WHATEVER THE INPUT: true; the input reads as it did. -/
def hkdfExpandsSpec : ChangeSpec := { name := "hkdfExpands", fn := fun _ => fun
  | [d1, d2, d3] => { results := [.lit (.bool true)], args := [d1, d2, d3] }
  | _ => none }
def hkdfExpandsRow : OpenClaim := { program := "ytmofcjjhgigkoaadoor", sum := "62613f4d61ab751445b55849de42b0550fcc852f69ffe0c705a75eca6d38778f", func := "relay/relaylaw02.HkdfExpands", spec := "hkdfExpands", named := ["relay/sha.begin", "relay/sha.rounds"], apart := false, laid := [("relay/sha.begin", laid_relay_sha_begin), ("relay/sha.rounds", laid_relay_sha_rounds)] }
def HkdfExpandsSaid : Prop := hkdfExpandsRow.holds Tryd.pinned (OpenSpec.ofChange hkdfExpandsSpec)

/-- ITS FALSE NEIGHBOUR: 'it returns false'. Refute it at one input. -/
def hkdfExpandsWrong : ChangeSpec := { name := "hkdfExpands", fn := fun _ => fun
  | [d1, d2, d3] => { results := [.lit (.bool false)], args := [d1, d2, d3] }
  | _ => none }
def HkdfExpandsWrongFalsely : Prop := hkdfExpandsRow.holds Tryd.pinned (OpenSpec.ofChange hkdfExpandsWrong)

/-- 'relaylaw02.HkdfExtracts': WHATEVER THE INPUT: true; the input reads as it did. -/
def hkdfExtractsSpec : ChangeSpec := { name := "hkdfExtracts", fn := fun _ => fun
  | [d1, d2] => { results := [.lit (.bool true)], args := [d1, d2] }
  | _ => none }
def hkdfExtractsRow : OpenClaim := { program := "ytmofcjjhgigkoaadoor", sum := "62613f4d61ab751445b55849de42b0550fcc852f69ffe0c705a75eca6d38778f", func := "relay/relaylaw02.HkdfExtracts", spec := "hkdfExtracts", named := ["relay/sha.begin", "relay/sha.rounds"], apart := false, laid := [("relay/sha.begin", laid_relay_sha_begin), ("relay/sha.rounds", laid_relay_sha_rounds)] }
def HkdfExtractsSaid : Prop := hkdfExtractsRow.holds Tryd.pinned (OpenSpec.ofChange hkdfExtractsSpec)

/-- ITS FALSE NEIGHBOUR: 'it returns false'. Refute it at one input. -/
def hkdfExtractsWrong : ChangeSpec := { name := "hkdfExtracts", fn := fun _ => fun
  | [d1, d2] => { results := [.lit (.bool false)], args := [d1, d2] }
  | _ => none }
def HkdfExtractsWrongFalsely : Prop := hkdfExtractsRow.holds Tryd.pinned (OpenSpec.ofChange hkdfExtractsWrong)

/-- 'relaylaw02.HkdfLabels': WHATEVER THE INPUT: true; the input reads as it did. -/
def hkdfLabelsSpec : ChangeSpec := { name := "hkdfLabels", fn := fun _ => fun
  | [d1, d2, d3] => { results := [.lit (.bool true)], args := [d1, d2, d3] }
  | _ => none }
def hkdfLabelsRow : OpenClaim := { program := "ytmofcjjhgigkoaadoor", sum := "62613f4d61ab751445b55849de42b0550fcc852f69ffe0c705a75eca6d38778f", func := "relay/relaylaw02.HkdfLabels", spec := "hkdfLabels", named := ["relay/sha.begin", "relay/sha.rounds"], apart := false, laid := [("relay/sha.begin", laid_relay_sha_begin), ("relay/sha.rounds", laid_relay_sha_rounds)] }
def HkdfLabelsSaid : Prop := hkdfLabelsRow.holds Tryd.pinned (OpenSpec.ofChange hkdfLabelsSpec)

/-- ITS FALSE NEIGHBOUR: 'it returns false'. Refute it at one input. -/
def hkdfLabelsWrong : ChangeSpec := { name := "hkdfLabels", fn := fun _ => fun
  | [d1, d2, d3] => { results := [.lit (.bool false)], args := [d1, d2, d3] }
  | _ => none }
def HkdfLabelsWrongFalsely : Prop := hkdfLabelsRow.holds Tryd.pinned (OpenSpec.ofChange hkdfLabelsWrong)

/-- 'relaylaw02.HkdfBlocks': WHATEVER THE INPUT: true; the input reads as it did. -/
def hkdfBlocksSpec : ChangeSpec := { name := "hkdfBlocks", fn := fun _ => fun
  | [d1, d2, d3] => { results := [.lit (.bool true)], args := [d1, d2, d3] }
  | _ => none }
def hkdfBlocksRow : OpenClaim := { program := "ytmofcjjhgigkoaadoor", sum := "62613f4d61ab751445b55849de42b0550fcc852f69ffe0c705a75eca6d38778f", func := "relay/relaylaw02.HkdfBlocks", spec := "hkdfBlocks", named := ["relay/sha.begin", "relay/sha.rounds"], apart := false, laid := [("relay/sha.begin", laid_relay_sha_begin), ("relay/sha.rounds", laid_relay_sha_rounds)] }
def HkdfBlocksSaid : Prop := hkdfBlocksRow.holds Tryd.pinned (OpenSpec.ofChange hkdfBlocksSpec)

/-- ITS FALSE NEIGHBOUR: 'it returns false'. Refute it at one input. -/
def hkdfBlocksWrong : ChangeSpec := { name := "hkdfBlocks", fn := fun _ => fun
  | [d1, d2, d3] => { results := [.lit (.bool false)], args := [d1, d2, d3] }
  | _ => none }
def HkdfBlocksWrongFalsely : Prop := hkdfBlocksRow.holds Tryd.pinned (OpenSpec.ofChange hkdfBlocksWrong)

/- THE SECOND FORM. 'bulk': how many values and letters a reading holds, each counted each time it is reached (what is shared counts as often as it is met; a slice's spare places count too). A statement '..UptoSaid' is the law's where the arguments, and the package variables that the reading takes, are together of bulk at most 1048576: NARROWER than '..Said'. Prove '..Said' where nothing that the law and all that it calls make is longer than what came in: it says more and counts as full. Else prove '..UptoSaid'. A law counts once. -/
mutual
def uptoBulk {H : Type} : DataW H → Nat
  | .lit (.string bytes) => bytes.length + 1
  | .lit _ => 1
  | .nil => 1
  | .ptr d => uptoBulk d + 1
  | .slice elems spare => uptoBulkAll elems + uptoBulkAll spare + 1
  | .agg parts => uptoBulkAll parts + 1
  | .iface _ d => uptoBulk d + 1
  | .map entries => uptoBulkEntries entries + 1
  | .held _ => 1
def uptoBulkAll {H : Type} : List (DataW H) → Nat
  | [] => 0
  | d :: r => uptoBulk d + uptoBulkAll r
def uptoBulkEntries {H : Type} : List (Lit × DataW H) → Nat
  | [] => 0
  | x :: r => uptoBulkEntry x + uptoBulkEntries r
def uptoBulkEntry {H : Type} : Lit × DataW H → Nat
  | (.string bytes, d) => bytes.length + uptoBulk d + 1
  | (_, d) => uptoBulk d + 1
 end
def uptoSmall : (H : Type) → List (DataW H) → Bool := fun _ ds => decide (uptoBulkAll ds ≤ 1048576)
def OpenSpec.upto (s : _root_.Go.ChangeSpec) : _root_.Go.OpenSpec := { _root_.Go.OpenSpec.ofChange s with cond := some uptoSmall }

/-- 'relaylaw01.ShaSums', WHERE WHAT IT READS IS OF BULK AT MOST 1048576: true; the input reads as it did. -/
def shaSumsUptoRow : OpenClaim := { program := "ytmofcjjhgigkoaadoor", sum := "62613f4d61ab751445b55849de42b0550fcc852f69ffe0c705a75eca6d38778f", func := "relay/relaylaw01.ShaSums", spec := "shaSums", named := ["relay/sha.begin", "relay/sha.rounds"], apart := false, laid := [("relay/sha.begin", laid_relay_sha_begin), ("relay/sha.rounds", laid_relay_sha_rounds)], narrowed := true }
def ShaSumsUptoSaid : Prop := shaSumsUptoRow.holds Tryd.pinned (OpenSpec.upto shaSumsSpec)

/-- 'relaylaw01.ShaMacs', WHERE WHAT IT READS IS OF BULK AT MOST 1048576: true; the input reads as it did. -/
def shaMacsUptoRow : OpenClaim := { program := "ytmofcjjhgigkoaadoor", sum := "62613f4d61ab751445b55849de42b0550fcc852f69ffe0c705a75eca6d38778f", func := "relay/relaylaw01.ShaMacs", spec := "shaMacs", named := ["relay/sha.begin", "relay/sha.rounds"], apart := false, laid := [("relay/sha.begin", laid_relay_sha_begin), ("relay/sha.rounds", laid_relay_sha_rounds)], narrowed := true }
def ShaMacsUptoSaid : Prop := shaMacsUptoRow.holds Tryd.pinned (OpenSpec.upto shaMacsSpec)

/-- 'relaylaw01.ShaSames', WHERE WHAT IT READS IS OF BULK AT MOST 1048576: true; the input reads as it did. -/
def shaSamesUptoRow : OpenClaim := { program := "ytmofcjjhgigkoaadoor", sum := "62613f4d61ab751445b55849de42b0550fcc852f69ffe0c705a75eca6d38778f", func := "relay/relaylaw01.ShaSames", spec := "shaSames", named := ["relay/sha.begin", "relay/sha.rounds"], apart := false, laid := [("relay/sha.begin", laid_relay_sha_begin), ("relay/sha.rounds", laid_relay_sha_rounds)], narrowed := true }
def ShaSamesUptoSaid : Prop := shaSamesUptoRow.holds Tryd.pinned (OpenSpec.upto shaSamesSpec)

/-- 'relaylaw01.ShaLengths', WHERE WHAT IT READS IS OF BULK AT MOST 1048576: true; the input reads as it did. -/
def shaLengthsUptoRow : OpenClaim := { program := "ytmofcjjhgigkoaadoor", sum := "62613f4d61ab751445b55849de42b0550fcc852f69ffe0c705a75eca6d38778f", func := "relay/relaylaw01.ShaLengths", spec := "shaLengths", named := ["relay/sha.begin", "relay/sha.rounds"], apart := false, laid := [("relay/sha.begin", laid_relay_sha_begin), ("relay/sha.rounds", laid_relay_sha_rounds)], narrowed := true }
def ShaLengthsUptoSaid : Prop := shaLengthsUptoRow.holds Tryd.pinned (OpenSpec.upto shaLengthsSpec)

/-- 'relaylaw01.ShaKeys', WHERE WHAT IT READS IS OF BULK AT MOST 1048576: true; the input reads as it did. -/
def shaKeysUptoRow : OpenClaim := { program := "ytmofcjjhgigkoaadoor", sum := "62613f4d61ab751445b55849de42b0550fcc852f69ffe0c705a75eca6d38778f", func := "relay/relaylaw01.ShaKeys", spec := "shaKeys", named := ["relay/sha.begin", "relay/sha.rounds"], apart := false, laid := [("relay/sha.begin", laid_relay_sha_begin), ("relay/sha.rounds", laid_relay_sha_rounds)], narrowed := true }
def ShaKeysUptoSaid : Prop := shaKeysUptoRow.holds Tryd.pinned (OpenSpec.upto shaKeysSpec)

/-- 'relaylaw02.HkdfExpands', WHERE WHAT IT READS IS OF BULK AT MOST 1048576: true; the input reads as it did. -/
def hkdfExpandsUptoRow : OpenClaim := { program := "ytmofcjjhgigkoaadoor", sum := "62613f4d61ab751445b55849de42b0550fcc852f69ffe0c705a75eca6d38778f", func := "relay/relaylaw02.HkdfExpands", spec := "hkdfExpands", named := ["relay/sha.begin", "relay/sha.rounds"], apart := false, laid := [("relay/sha.begin", laid_relay_sha_begin), ("relay/sha.rounds", laid_relay_sha_rounds)], narrowed := true }
def HkdfExpandsUptoSaid : Prop := hkdfExpandsUptoRow.holds Tryd.pinned (OpenSpec.upto hkdfExpandsSpec)

/-- 'relaylaw02.HkdfExtracts', WHERE WHAT IT READS IS OF BULK AT MOST 1048576: true; the input reads as it did. -/
def hkdfExtractsUptoRow : OpenClaim := { program := "ytmofcjjhgigkoaadoor", sum := "62613f4d61ab751445b55849de42b0550fcc852f69ffe0c705a75eca6d38778f", func := "relay/relaylaw02.HkdfExtracts", spec := "hkdfExtracts", named := ["relay/sha.begin", "relay/sha.rounds"], apart := false, laid := [("relay/sha.begin", laid_relay_sha_begin), ("relay/sha.rounds", laid_relay_sha_rounds)], narrowed := true }
def HkdfExtractsUptoSaid : Prop := hkdfExtractsUptoRow.holds Tryd.pinned (OpenSpec.upto hkdfExtractsSpec)

/-- 'relaylaw02.HkdfLabels', WHERE WHAT IT READS IS OF BULK AT MOST 1048576: true; the input reads as it did. -/
def hkdfLabelsUptoRow : OpenClaim := { program := "ytmofcjjhgigkoaadoor", sum := "62613f4d61ab751445b55849de42b0550fcc852f69ffe0c705a75eca6d38778f", func := "relay/relaylaw02.HkdfLabels", spec := "hkdfLabels", named := ["relay/sha.begin", "relay/sha.rounds"], apart := false, laid := [("relay/sha.begin", laid_relay_sha_begin), ("relay/sha.rounds", laid_relay_sha_rounds)], narrowed := true }
def HkdfLabelsUptoSaid : Prop := hkdfLabelsUptoRow.holds Tryd.pinned (OpenSpec.upto hkdfLabelsSpec)

/-- 'relaylaw02.HkdfBlocks', WHERE WHAT IT READS IS OF BULK AT MOST 1048576: true; the input reads as it did. -/
def hkdfBlocksUptoRow : OpenClaim := { program := "ytmofcjjhgigkoaadoor", sum := "62613f4d61ab751445b55849de42b0550fcc852f69ffe0c705a75eca6d38778f", func := "relay/relaylaw02.HkdfBlocks", spec := "hkdfBlocks", named := ["relay/sha.begin", "relay/sha.rounds"], apart := false, laid := [("relay/sha.begin", laid_relay_sha_begin), ("relay/sha.rounds", laid_relay_sha_rounds)], narrowed := true }
def HkdfBlocksUptoSaid : Prop := hkdfBlocksUptoRow.holds Tryd.pinned (OpenSpec.upto hkdfBlocksSpec)

end Rows
end Go.Proofs.YtmofcjjhgigkoaaDoor
