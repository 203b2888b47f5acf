/- Texts of the proof, merged: CA. -/
import Derived.Test.YtdmipnnfoolelaeKP
import Derived.Test.YtdmipnnfoolelaeKR

namespace Go.Proofs.Ytdmipnnfoolelae
open Go.RowKit Go.Mk

theorem ClientTells_any (v0 v1 v2 : Value) (l : List (List Cl)) (steps : List (Int × Int)) (bs : List UInt8) (me gen : Int) (up : Bool) (w : World) (h0 : RowOf 1 elCls w v0 l) (h1 : Writes w v1 steps) (h2 : Bytes w v2 bs) (hr : bs.length * 1 ≤ 140737488355328) :
  Gives Try.prog 3 #[v0,v1,v2,I me,I gen,.bool up] w fun r _=>r = .bool true:=ClientTells_of comeOk goOk v0 v1 v2 l steps bs me gen up w h0 h1 h2 hr

end Go.Proofs.Ytdmipnnfoolelae
