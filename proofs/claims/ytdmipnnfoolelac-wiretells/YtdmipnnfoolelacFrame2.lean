/- What rows about calls and requests take of the program's tables. -/
import Derived.Test.YtdmipnnfoolelacFrame
import Derived.Test.YtdmipnnfoolelacRead2
namespace Go.Proofs.Ytdmipnnfoolelac
open Go.RowKit Go.Mk

theorem Try.cellsCall : Try.prog.cellsOf 23 = 4 := by kernel_rfl
theorem Try.cellsRequest : Try.prog.cellsOf 25 = 6 := by kernel_rfl
theorem Try.bytesRequest : Try.prog.bytesOf 25 = 48 := by kernel_rfl

end Go.Proofs.Ytdmipnnfoolelac
