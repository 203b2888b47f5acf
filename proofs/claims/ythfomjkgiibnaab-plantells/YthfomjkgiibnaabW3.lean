/- Walks: what takes writes back. -/
import Derived.Test.YthfomjkgiibnaabW2
import Derived.BigRegion
namespace Go.Proofs.Ythfomjkgiibnaab
open Go.RowKit Go.Mk

end Go.Proofs.Ythfomjkgiibnaab
