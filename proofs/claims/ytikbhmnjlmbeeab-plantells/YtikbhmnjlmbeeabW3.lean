/- Walks: what takes writes back. -/
import Derived.Test.YtikbhmnjlmbeeabW2
import Derived.BigRegion
namespace Go.Proofs.Ytikbhmnjlmbeeab
open Go.RowKit Go.Mk

end Go.Proofs.Ytikbhmnjlmbeeab
