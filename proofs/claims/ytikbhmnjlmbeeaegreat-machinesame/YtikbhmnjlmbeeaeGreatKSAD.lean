/- Texts of the proof, merged: JD. -/
import Derived.Test.YtikbhmnjlmbeeaeGreatKSA0
import Derived.Test.YtikbhmnjlmbeeaeGreatKSAC
set_option maxRecDepth 100000

namespace Go.Proofs.YtikbhmnjlmbeeaeGreat
open Go.RowKit Go.Mk

theorem zh4 (v0 v1 : Value) (l : List (List Cl)) (steps : List (Int × Int)) (sk sn : Int) (w : World) (h0 : zax 1 zfa w v0 l) (h1 : zay w v1 steps) :
  za2 Tryz.prog 4 #[v0,v1,.agg #[I sk,I sn]] w fun r _=>r = .bool true:=zil zqe zqE v0 v1 l steps sk sn w h0 h1

end Go.Proofs.YtikbhmnjlmbeeaeGreat
