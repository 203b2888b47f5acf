/- Walks over the functions of package cell that make memory. -/
import Derived.Test.YtmfocpmnnbhodabW1
import Derived.Test.YtmfocpmnnbhodabW1b
namespace Go.Proofs.Ytmfocpmnnbhodab
open Go.RowKit Go.Mk

end Go.Proofs.Ytmfocpmnnbhodab
