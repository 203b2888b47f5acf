/- Walks: the document's answers that make memory. -/
import Derived.Test.YtoljpdpkocebnabW3
import Derived.Test.YtoljpdpkocebnabD3
namespace Go.Proofs.Ytoljpdpkocebnab
open Go.RowKit Go.Mk

end Go.Proofs.Ytoljpdpkocebnab
