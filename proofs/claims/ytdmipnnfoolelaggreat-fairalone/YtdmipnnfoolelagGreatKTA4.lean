/- Texts of the proof, merged: UG. -/
import Derived.Test.YtdmipnnfoolelagGreatKT2
import Derived.Test.YtdmipnnfoolelagGreatKTA3
set_option maxRecDepth 100000

namespace Go.Proofs.YtdmipnnfoolelagGreat
open Go.RowKit Go.Mk

theorem zj7 (v0 v1:Value) (l:List Cl) (steps:List (Int×Int)) (w:World) (h0:zat 4 zdy w v0 l) (h1:zaw w v1 steps) :
  zaV Tryz.prog 3 #[v0,v1] w fun r _=>r=.bool true:=zlx zrF znI zp2 v0 v1 l steps w h0 h1

end Go.Proofs.YtdmipnnfoolelagGreat
