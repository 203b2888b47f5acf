/- Texts of the proof, merged: N21. -/
import Derived.Test.YtikbhmnjlmbeeaeGreatKOU
import Derived.Test.YtikbhmnjlmbeeaeGreatKOR
import Derived.Test.YtikbhmnjlmbeeaeGreatKOF
import Derived.Test.YtikbhmnjlmbeeaeGreatKOG
set_option maxRecDepth 100000

namespace Go.Proofs.YtikbhmnjlmbeeaeGreat
open Go.RowKit Go.Mk

end Go.Proofs.YtikbhmnjlmbeeaeGreat
