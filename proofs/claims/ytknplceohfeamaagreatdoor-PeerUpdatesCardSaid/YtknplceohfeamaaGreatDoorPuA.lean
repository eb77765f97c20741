/- Closed facts of the row. -/
import Derived.Test.YtknplceohfeamaaGreatDoorBound
set_option linter.unusedVariables false
set_option linter.unusedSimpArgs false
namespace Go.Proofs.YtknplceohfeamaaGreatDoor.peerUpdates
open Go.ChangeShapes Go.WideShapes Go.ChangeAt Go.WideMaps Go.WideElems Go.RowKit
set_option maxRecDepth 100000
theorem jf1 : (Rows.peerUpdatesRow.inPlace == Tryz.prog.inPlace 7) = true := by kernel_rfl
theorem jf2 : (Rows.peerUpdatesRow.unfollowed == Tryz.prog.unfollowed 7) = true := by kernel_rfl
end Go.Proofs.YtknplceohfeamaaGreatDoor.peerUpdates
