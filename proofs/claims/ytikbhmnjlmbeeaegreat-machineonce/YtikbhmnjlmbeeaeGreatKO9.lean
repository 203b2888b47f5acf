/- Texts of the proof, merged: J5. -/
import Derived.Test.YtikbhmnjlmbeeaeGreatKO7
import Derived.Test.YtikbhmnjlmbeeaeGreatKOI
import Derived.Test.YtikbhmnjlmbeeaeGreatKO8
import Derived.Test.YtikbhmnjlmbeeaeGreatKOJ
set_option maxRecDepth 100000

namespace Go.Proofs.YtikbhmnjlmbeeaeGreat
open Go.RowKit Go.Mk

end Go.Proofs.YtikbhmnjlmbeeaeGreat
