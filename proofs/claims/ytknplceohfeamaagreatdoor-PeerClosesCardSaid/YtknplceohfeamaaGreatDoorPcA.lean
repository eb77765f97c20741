/- Closed facts of the row. -/
import Derived.Test.YtknplceohfeamaaGreatDoorBound
set_option linter.unusedVariables false
set_option linter.unusedSimpArgs false
namespace Go.Proofs.YtknplceohfeamaaGreatDoor.peerCloses
open Go.ChangeShapes Go.WideShapes Go.ChangeAt Go.WideMaps Go.WideElems Go.RowKit
set_option maxRecDepth 100000
theorem jf1 : (Rows.peerClosesRow.inPlace == Tryz.prog.inPlace 8) = true := by kernel_rfl
theorem jf2 : (Rows.peerClosesRow.unfollowed == Tryz.prog.unfollowed 8) = true := by kernel_rfl
end Go.Proofs.YtknplceohfeamaaGreatDoor.peerCloses
