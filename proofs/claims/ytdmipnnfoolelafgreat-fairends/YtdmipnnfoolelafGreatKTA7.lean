/- Texts of the proof, merged: UF. -/
import Derived.Test.YtdmipnnfoolelafGreatKTA6
import Derived.Test.YtdmipnnfoolelafGreatKTA3
set_option maxRecDepth 100000

namespace Go.Proofs.YtdmipnnfoolelafGreat
open Go.RowKit Go.Mk

theorem zmg (v0 v1:Value) (l:List (List Cl)) (steps:List (Int×Int)) (w:World) (h0:zas 1 zdI w v0 l) (h1:zax w v1 steps) :
  zaT Tryz.prog 5 #[v0,v1] w fun r _=>r=.bool true:=zmR zqt zlz zmJ v0 v1 l steps w h0 h1

end Go.Proofs.YtdmipnnfoolelafGreat
