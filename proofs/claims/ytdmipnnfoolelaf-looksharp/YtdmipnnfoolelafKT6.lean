/- Texts of the proof, merged: QH. -/
import Derived.Test.YtdmipnnfoolelafKT5
import Derived.Test.YtdmipnnfoolelafKT3

namespace Go.Proofs.Ytdmipnnfoolelaf
open Go.RowKit Go.Mk

theorem zhQ (v0 v1:Value) (l:List (List Cl)) (steps:List (Int×Int)) (kind n x:Int) (w:World) (h0:zaq 1 zdb w v0 l) (h1:zan w v1 steps) :
  zba Try.prog 5 #[v0,v1,I kind,I n,I x] w fun r _=>r=.bool true:=ziA zkV ziH zkO ziU v0 v1 l steps kind n x w h0 h1

end Go.Proofs.Ytdmipnnfoolelaf
