/- zbb of the proof, merged: YB. -/
import Derived.Test.YtdmipnnfoolelagGreatDoorKTT
import Derived.Test.YtdmipnnfoolelagGreatDoorKTV
import Derived.Test.YtdmipnnfoolelagGreatDoorKT6
set_option maxRecDepth 100000

namespace Go.Proofs.YtdmipnnfoolelagGreatDoor
open Go.RowKit Go.Mk

theorem zlQ (v2:Value) (n0 n1:Int) (steps:List (Int×Int)) (w:World) (hTV:zen w) (h1:zar w v2 steps) :
  zaw Tryz.prog 3 #[I n0,I n1,v2] w fun r _=>r=.bool true:=zmD zln zl2 zhb zsC zjd v2 n0 n1 steps w hTV h1

end Go.Proofs.YtdmipnnfoolelagGreatDoor
