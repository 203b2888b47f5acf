/- Texts of the proof, merged: N21. -/
import Derived.Test.YthfomjkgiibnaaeGreatKOU
import Derived.Test.YthfomjkgiibnaaeGreatKOR
import Derived.Test.YthfomjkgiibnaaeGreatKOF
import Derived.Test.YthfomjkgiibnaaeGreatKOG
set_option maxRecDepth 100000

namespace Go.Proofs.YthfomjkgiibnaaeGreat
open Go.RowKit Go.Mk

end Go.Proofs.YthfomjkgiibnaaeGreat
