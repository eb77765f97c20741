/- Closed facts of the row. -/
import Derived.Test.YtknplceohfeamaaGreatDoorBound
set_option linter.unusedVariables false
set_option linter.unusedSimpArgs false
namespace Go.Proofs.YtknplceohfeamaaGreatDoor.peerCloses
open Go.ChangeShapes Go.WideShapes Go.ChangeAt Go.WideMaps Go.WideElems Go.RowKit
set_option maxRecDepth 100000
theorem jf3 : (Rows.peerClosesRow.recurses == Tryz.prog.recurses 8) = true := by kernel_rfl
theorem jf4 : (Rows.peerClosesRow.named == Tryz.prog.varsNamed 8) = true := by kernel_rfl
end Go.Proofs.YtknplceohfeamaaGreatDoor.peerCloses
