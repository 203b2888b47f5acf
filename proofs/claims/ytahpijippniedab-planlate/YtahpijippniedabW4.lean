/- Walks: the document's answers that make memory. -/
import Derived.Test.YtahpijippniedabW3
import Derived.Test.YtahpijippniedabD3
namespace Go.Proofs.Ytahpijippniedab
open Go.RowKit Go.Mk

end Go.Proofs.Ytahpijippniedab
