/- Walks: the document's answers that make memory. -/
import Derived.Test.YthfomjkgiibnaabW3
import Derived.Test.YthfomjkgiibnaabD3
namespace Go.Proofs.Ythfomjkgiibnaab
open Go.RowKit Go.Mk

end Go.Proofs.Ythfomjkgiibnaab
