/- What rows about calls and requests take of the program's tables. -/
import Derived.Test.YtdmipnnfoolelabDoorFrame
import Derived.Test.YtdmipnnfoolelabDoorRead2
namespace Go.Proofs.YtdmipnnfoolelabDoor
open Go.RowKit Go.Mk

theorem Tryd.cellsCall : Tryd.prog.cellsOf 23 = 4 := by kernel_rfl
end Go.Proofs.YtdmipnnfoolelabDoor
