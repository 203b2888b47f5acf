/- zbb of the proof, merged: YD. -/
import Derived.Test.YtdmipnnfoolelagGreatDoorKTA0
import Derived.Test.YtdmipnnfoolelagGreatDoorKTV
import Derived.Test.YtdmipnnfoolelagGreatDoorKT6
set_option maxRecDepth 100000

namespace Go.Proofs.YtdmipnnfoolelagGreatDoor
open Go.RowKit Go.Mk

theorem zmy (v2:Value) (n m:Int) (steps:List (Int×Int)) (w:World) (hTV:zen w) (h1:zar w v2 steps) :
  zaw Tryz.prog 5 #[I n,I m,v2] w fun r _=>r=.bool true:=zol zln zl2 zhb zsC zjd v2 n m steps w hTV h1

end Go.Proofs.YtdmipnnfoolelagGreatDoor
