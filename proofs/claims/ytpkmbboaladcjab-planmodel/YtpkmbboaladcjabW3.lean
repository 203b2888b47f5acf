/- Walks: what takes writes back. -/
import Derived.Test.YtpkmbboaladcjabW2
import Derived.BigRegion
namespace Go.Proofs.Ytpkmbboaladcjab
open Go.RowKit Go.Mk

end Go.Proofs.Ytpkmbboaladcjab
