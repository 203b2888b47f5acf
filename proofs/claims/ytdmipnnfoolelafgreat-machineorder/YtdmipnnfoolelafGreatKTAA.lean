/- Texts of the proof, merged: JF. -/
import Derived.Test.YtdmipnnfoolelafGreatKTA9
import Derived.Test.YtdmipnnfoolelafGreatKTA3
set_option maxRecDepth 100000

namespace Go.Proofs.YtdmipnnfoolelafGreat
open Go.RowKit Go.Mk

theorem ziv (v0 v1 v2:Value) (l:List (List Cl)) (steps more:List (Int×Int)) (w:World) (h0:zas 1 zdI w v0 l) (h1:zax w v1 steps) (h2:zax w v2 more) :
  zaT Tryz.prog 3 #[v0,v1,v2] w fun r _=>r=.bool true:=zi7 zsg zs8 v0 v1 v2 l steps more w h0 h1 h2

end Go.Proofs.YtdmipnnfoolelafGreat
