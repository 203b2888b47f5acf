/- Walks: the document's answers that make memory. -/
import Derived.Test.YtpkmbboaladcjabW3
import Derived.Test.YtpkmbboaladcjabD3
namespace Go.Proofs.Ytpkmbboaladcjab
open Go.RowKit Go.Mk

end Go.Proofs.Ytpkmbboaladcjab
