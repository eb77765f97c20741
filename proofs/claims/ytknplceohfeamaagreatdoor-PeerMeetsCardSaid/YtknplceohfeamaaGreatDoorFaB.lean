/- Closed facts of the row. -/
import Derived.Test.YtknplceohfeamaaGreatDoorBound
set_option linter.unusedVariables false
set_option linter.unusedSimpArgs false
namespace Go.Proofs.YtknplceohfeamaaGreatDoor.peerMeets
open Go.ChangeShapes Go.WideShapes Go.ChangeAt Go.WideMaps Go.WideElems Go.RowKit
set_option maxRecDepth 100000
theorem jf3 : (Rows.peerMeetsRow.recurses == Tryz.prog.recurses 5) = true := by kernel_rfl
theorem jf4 : (Rows.peerMeetsRow.named == Tryz.prog.varsNamed 5) = true := by kernel_rfl
end Go.Proofs.YtknplceohfeamaaGreatDoor.peerMeets
