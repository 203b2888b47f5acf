/- Texts of the proof, merged: CB. -/
import Derived.Test.YtdmipnnfoolelaeKU
import Derived.Test.YtdmipnnfoolelaeKR

namespace Go.Proofs.Ytdmipnnfoolelae
open Go.RowKit Go.Mk

theorem ClientAgain_any (v0 v1 : Value) (l : List (List Cl)) (steps : List (Int × Int)) (n gen other : Int) (w : World) (h0 : RowOf 1 elCls w v0 l) (h1 : Writes w v1 steps) :
  Gives Try.prog 4 #[v0,v1,I n,I gen,I other] w fun r _=>r = .bool true:=ClientAgain_of comeOk goOk v0 v1 l steps n gen other w h0 h1

end Go.Proofs.Ytdmipnnfoolelae
