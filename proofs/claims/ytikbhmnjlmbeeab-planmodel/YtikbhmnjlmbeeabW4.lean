/- Walks: the document's answers that make memory. -/
import Derived.Test.YtikbhmnjlmbeeabW3
import Derived.Test.YtikbhmnjlmbeeabD3
namespace Go.Proofs.Ytikbhmnjlmbeeab
open Go.RowKit Go.Mk

end Go.Proofs.Ytikbhmnjlmbeeab
