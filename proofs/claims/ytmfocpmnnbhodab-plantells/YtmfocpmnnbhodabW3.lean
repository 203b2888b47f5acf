/- Walks: what takes writes back. -/
import Derived.Test.YtmfocpmnnbhodabW2
import Derived.BigRegion
namespace Go.Proofs.Ytmfocpmnnbhodab
open Go.RowKit Go.Mk

end Go.Proofs.Ytmfocpmnnbhodab
