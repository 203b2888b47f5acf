/- Walks: what takes writes back. -/
import Derived.Test.YtoljpdpkocebnabW2
import Derived.BigRegion
namespace Go.Proofs.Ytoljpdpkocebnab
open Go.RowKit Go.Mk

end Go.Proofs.Ytoljpdpkocebnab
