/- What rows about requests, answers and bytes take of the program's tables. -/
import Derived.Test.YtdmipnnfoolelacFrame2
import Derived.Test.YtdmipnnfoolelacRead3
namespace Go.Proofs.Ytdmipnnfoolelac
open Go.RowKit Go.Mk

theorem Try.cellsReply : Try.prog.cellsOf 28 = 2 := by kernel_rfl
theorem Try.cellsErrno : Try.prog.cellsOf 26 = 1 := by kernel_rfl
theorem Try.cellsAnswer : Try.prog.cellsOf 30 = 4 := by kernel_rfl
theorem Try.cellsByte : Try.prog.cellsOf 5 = 1 := by kernel_rfl

end Go.Proofs.Ytdmipnnfoolelac
