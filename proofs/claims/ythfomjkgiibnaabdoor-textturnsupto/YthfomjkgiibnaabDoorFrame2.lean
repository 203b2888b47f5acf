/- What rows about calls and requests take of the program's tables. -/
import Derived.Test.YthfomjkgiibnaabDoorFrame
import Derived.Test.YthfomjkgiibnaabDoorRead2
namespace Go.Proofs.YthfomjkgiibnaabDoor
open Go.RowKit Go.Mk

theorem Tryd.cellsCall : Tryd.prog.cellsOf 23 = 4 := by kernel_rfl
end Go.Proofs.YthfomjkgiibnaabDoor
