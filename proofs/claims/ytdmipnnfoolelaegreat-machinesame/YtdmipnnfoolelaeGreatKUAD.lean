/- Texts of the proof, merged: JD. -/
import Derived.Test.YtdmipnnfoolelaeGreatKUAC
import Derived.Test.YtdmipnnfoolelaeGreatKUA8
set_option maxRecDepth 100000

namespace Go.Proofs.YtdmipnnfoolelaeGreat
open Go.RowKit Go.Mk

theorem ziw (v0 v1:Value) (l:List (List Cl)) (steps:List (Int×Int)) (sk sn:Int) (w:World) (h0:zar 1 zdL w v0 l) (h1:zax w v1 steps) :
  zaU Tryz.prog 4 #[v0,v1,.agg #[I sk,I sn]] w fun r _=>r=.bool true:=zjA zpE zqZ v0 v1 l steps sk sn w h0 h1

end Go.Proofs.YtdmipnnfoolelaeGreat
