/- Walks: what takes writes back. -/
import Derived.Test.YtahpijippniedabW2
import Derived.BigRegion
namespace Go.Proofs.Ytahpijippniedab
open Go.RowKit Go.Mk

end Go.Proofs.Ytahpijippniedab
