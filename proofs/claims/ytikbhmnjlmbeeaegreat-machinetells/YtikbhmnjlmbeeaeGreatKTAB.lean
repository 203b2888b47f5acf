/- Texts of the proof, merged: JC. -/
import Derived.Test.YtikbhmnjlmbeeaeGreatKT8
import Derived.Test.YtikbhmnjlmbeeaeGreatKTAA
set_option maxRecDepth 100000

namespace Go.Proofs.YtikbhmnjlmbeeaeGreat
open Go.RowKit Go.Mk

theorem zht (v0 v1 : Value) (l : List (List Cl)) (steps : List (Int × Int)) (sk sn : Int) (w : World) (h0 : zaw 1 zgz w v0 l) (h1 : zay w v1 steps) :
  za1 Tryz.prog 3 #[v0,v1,.agg #[I sk,I sn]] w fun r _=>r = .bool true:=zh4 zp6 zqi v0 v1 l steps sk sn w h0 h1

end Go.Proofs.YtikbhmnjlmbeeaeGreat
