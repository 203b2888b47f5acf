/- Walks over the functions of package cell that make memory. -/
import Derived.Test.YtoljpdpkocebnabW1
import Derived.Test.YtoljpdpkocebnabW1b
namespace Go.Proofs.Ytoljpdpkocebnab
open Go.RowKit Go.Mk

end Go.Proofs.Ytoljpdpkocebnab
