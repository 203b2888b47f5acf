/- Texts of the proof, merged: U4. -/
import Derived.Test.YtdmipnnfoolelagGreatKT0
set_option maxRecDepth 100000

namespace Go.Proofs.YtdmipnnfoolelagGreat
open Go.RowKit Go.Mk

end Go.Proofs.YtdmipnnfoolelagGreat
