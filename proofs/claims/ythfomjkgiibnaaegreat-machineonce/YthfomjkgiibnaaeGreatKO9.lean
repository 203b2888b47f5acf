/- Texts of the proof, merged: J5. -/
import Derived.Test.YthfomjkgiibnaaeGreatKO7
import Derived.Test.YthfomjkgiibnaaeGreatKOI
import Derived.Test.YthfomjkgiibnaaeGreatKO8
import Derived.Test.YthfomjkgiibnaaeGreatKOJ
set_option maxRecDepth 100000

namespace Go.Proofs.YthfomjkgiibnaaeGreat
open Go.RowKit Go.Mk

end Go.Proofs.YthfomjkgiibnaaeGreat
