/- Texts of the proof, merged: CC. -/
import Derived.Test.YtdmipnnfoolelaeKW
import Derived.Test.YtdmipnnfoolelaeKR

namespace Go.Proofs.Ytdmipnnfoolelae
open Go.RowKit Go.Mk

theorem ClientDeaf_any (v0 v1 v2 : Value) (l : List (List Cl)) (steps : List (Int × Int)) (n : Int) (bs : List UInt8) (w : World) (h0 : RowOf 1 elCls w v0 l) (h1 : Writes w v1 steps) (h2 : Bytes w v2 bs) (hr : bs.length * 1 ≤ 140737488355328) :
  Gives Try.prog 5 #[v0,v1,I n,v2] w fun r _=>r = .bool true:=ClientDeaf_of comeOk goOk v0 v1 v2 l steps n bs w h0 h1 h2 hr

end Go.Proofs.Ytdmipnnfoolelae
