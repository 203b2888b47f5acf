/- What rows about calls and requests take of the program's tables. -/
import Derived.Test.YtmfocpmnnbhodabDoorFrame
import Derived.Test.YtmfocpmnnbhodabDoorRead2
namespace Go.Proofs.YtmfocpmnnbhodabDoor
open Go.RowKit Go.Mk

theorem Tryd.cellsCall : Tryd.prog.cellsOf 23 = 4 := by kernel_rfl
end Go.Proofs.YtmfocpmnnbhodabDoor
