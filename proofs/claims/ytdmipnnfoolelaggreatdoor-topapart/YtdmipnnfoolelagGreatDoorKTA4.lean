/- zbb of the proof, merged: YE. -/
import Derived.Test.YtdmipnnfoolelagGreatDoorKTA3
import Derived.Test.YtdmipnnfoolelagGreatDoorKTV
import Derived.Test.YtdmipnnfoolelagGreatDoorKT6
set_option maxRecDepth 100000

namespace Go.Proofs.YtdmipnnfoolelagGreatDoor
open Go.RowKit Go.Mk

theorem zlR (v0 v1 v2:Value) (A C:List Cl) (steps:List (Int×Int)) (w:World) (hTV:zen w) (h0:zaj 4 zbX w v0 A) (h1:zaj 4 zbX w v1 C) (h2:zar w v2 steps) :
  zaw Tryz.prog 6 #[v0,v1,v2] w fun r _=>r=.bool true:=znF zln zl2 zhb zjd v0 v1 v2 A C steps w hTV h0 h1 h2

end Go.Proofs.YtdmipnnfoolelagGreatDoor
