/- What rows about calls and requests take of the program's tables. -/
import Derived.Test.YtoljpdpkocebnabFrame
import Derived.Test.YtoljpdpkocebnabRead2
namespace Go.Proofs.Ytoljpdpkocebnab
open Go.RowKit Go.Mk

theorem Try.cellsCall : Try.prog.cellsOf 24 = 4 := by kernel_rfl
end Go.Proofs.Ytoljpdpkocebnab
