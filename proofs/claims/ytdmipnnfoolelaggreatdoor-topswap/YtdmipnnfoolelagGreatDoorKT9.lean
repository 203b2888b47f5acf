/- zbb of the proof, merged: YC. -/
import Derived.Test.YtdmipnnfoolelagGreatDoorKT8
import Derived.Test.YtdmipnnfoolelagGreatDoorKTV
import Derived.Test.YtdmipnnfoolelagGreatDoorKT6
set_option maxRecDepth 100000

namespace Go.Proofs.YtdmipnnfoolelagGreatDoor
open Go.RowKit Go.Mk

theorem zm3 (v3:Value) (a b n:Int) (steps:List (Int×Int)) (w:World) (hTV:zen w) (h1:zar w v3 steps) :
  zaw Tryz.prog 4 #[I a,I b,I n,v3] w fun r _=>r=.bool true:=zou zln zl2 zhb zsC zjd v3 a b n steps w hTV h1

end Go.Proofs.YtdmipnnfoolelagGreatDoor
