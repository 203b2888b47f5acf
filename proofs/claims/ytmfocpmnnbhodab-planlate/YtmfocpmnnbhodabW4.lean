/- Walks: the document's answers that make memory. -/
import Derived.Test.YtmfocpmnnbhodabW3
import Derived.Test.YtmfocpmnnbhodabD3
namespace Go.Proofs.Ytmfocpmnnbhodab
open Go.RowKit Go.Mk

end Go.Proofs.Ytmfocpmnnbhodab
