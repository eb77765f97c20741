/- Closed facts of the row. -/
import Derived.Test.YtknplceohfeamaaGreatDoorBound
set_option linter.unusedVariables false
set_option linter.unusedSimpArgs false
namespace Go.Proofs.YtknplceohfeamaaGreatDoor.serverStates
open Go.ChangeShapes Go.WideShapes Go.ChangeAt Go.WideMaps Go.WideElems Go.RowKit
set_option maxRecDepth 100000
theorem jf3 : (Rows.serverStatesRow.recurses == Tryz.prog.recurses 3) = true := by kernel_rfl
theorem jf4 : (Rows.serverStatesRow.named == Tryz.prog.varsNamed 3) = true := by kernel_rfl
end Go.Proofs.YtknplceohfeamaaGreatDoor.serverStates
