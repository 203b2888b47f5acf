/- Walks over the functions of package cell that make memory. -/
import Derived.Test.YtahpijippniedabW1
import Derived.Test.YtahpijippniedabW1b
namespace Go.Proofs.Ytahpijippniedab
open Go.RowKit Go.Mk

end Go.Proofs.Ytahpijippniedab
