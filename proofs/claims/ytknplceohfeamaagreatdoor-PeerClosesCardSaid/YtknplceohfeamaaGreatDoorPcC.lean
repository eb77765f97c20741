/- Closed facts of the program. -/
import Derived.Test.YtknplceohfeamaaGreatDoorBound
set_option linter.unusedVariables false
set_option linter.unusedSimpArgs false
namespace Go.Proofs.YtknplceohfeamaaGreatDoor.peerCloses
open Go.ChangeShapes Go.WideShapes Go.ChangeAt Go.WideMaps Go.WideElems Go.RowKit
set_option maxRecDepth 100000
theorem jf5 : Tryz.prog.stopsHeard = true := by kernel_rfl
theorem jf6 : Tryz.prog.mayEnter = true := by kernel_rfl
theorem jf7 : (Rows.peerClosesRow.lifted == Tryz.prog.liftsFinal) = true := by kernel_rfl
theorem jf8 : (Tryz.prog.make == some Rows.peerClosesRow.make) = true := by kernel_rfl
theorem jf9 : (Rows.peerClosesRow.plainKeys == Tryz.prog.plainKeys) = true := by kernel_rfl
theorem jf10 : mapsRowed Tryz.prog = true := by kernel_rfl
end Go.Proofs.YtknplceohfeamaaGreatDoor.peerCloses
