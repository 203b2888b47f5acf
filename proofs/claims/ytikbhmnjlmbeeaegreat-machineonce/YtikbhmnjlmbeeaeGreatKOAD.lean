/- Texts of the proof, merged: JE. -/
import Derived.Test.YtikbhmnjlmbeeaeGreatKOA0
import Derived.Test.YtikbhmnjlmbeeaeGreatKOAC
set_option maxRecDepth 100000

namespace Go.Proofs.YtikbhmnjlmbeeaeGreat
open Go.RowKit Go.Mk

theorem zhV (v0 v1 : Value) (l : List (List Cl)) (steps : List (Int × Int)) (sk sn : Int) (w : World) (h0 : zax 1 zeK w v0 l) (h1 : zaC w v1 steps) :
  za3 Tryz.prog 5 #[v0,v1,.agg #[I sk,I sn]] w fun r _=>r = .bool true:=ziD zqj zqs v0 v1 l steps sk sn w h0 h1

end Go.Proofs.YtikbhmnjlmbeeaeGreat
