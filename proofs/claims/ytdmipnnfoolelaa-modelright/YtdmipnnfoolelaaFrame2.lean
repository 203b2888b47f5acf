/- What rows about calls and requests take of the program's tables. -/
import Derived.Test.YtdmipnnfoolelaaFrame
import Derived.Test.YtdmipnnfoolelaaRead2
namespace Go.Proofs.Ytdmipnnfoolelaa
open Go.RowKit Go.Mk

theorem Try.cellsCall : Try.prog.cellsOf 38 = 4 := by kernel_rfl
theorem Try.cellsRequest : Try.prog.cellsOf 48 = 6 := by kernel_rfl
theorem Try.bytesRequest : Try.prog.bytesOf 48 = 48 := by kernel_rfl

end Go.Proofs.Ytdmipnnfoolelaa
