/- Walks over the functions of package cell that make memory. -/
import Derived.Test.YtikbhmnjlmbeeabW1
import Derived.Test.YtikbhmnjlmbeeabW1b
namespace Go.Proofs.Ytikbhmnjlmbeeab
open Go.RowKit Go.Mk

end Go.Proofs.Ytikbhmnjlmbeeab
