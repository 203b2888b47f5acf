/- What rows about calls and requests take of the program's tables. -/
import Derived.Test.YtdmipnnfoolelabFrame
import Derived.Test.YtdmipnnfoolelabRead2
namespace Go.Proofs.Ytdmipnnfoolelab
open Go.RowKit Go.Mk

theorem Try.cellsCall : Try.prog.cellsOf 24 = 4 := by kernel_rfl
end Go.Proofs.Ytdmipnnfoolelab
