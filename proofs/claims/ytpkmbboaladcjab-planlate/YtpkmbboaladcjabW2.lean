/- Walks over the functions of package cell that make memory. -/
import Derived.Test.YtpkmbboaladcjabW1
import Derived.Test.YtpkmbboaladcjabW1b
namespace Go.Proofs.Ytpkmbboaladcjab
open Go.RowKit Go.Mk

end Go.Proofs.Ytpkmbboaladcjab
