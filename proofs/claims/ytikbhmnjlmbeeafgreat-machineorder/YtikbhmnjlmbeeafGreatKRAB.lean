/- Texts of the proof, merged: JF. -/
import Derived.Test.YtikbhmnjlmbeeafGreatKR8
import Derived.Test.YtikbhmnjlmbeeafGreatKRAA
set_option maxRecDepth 100000

namespace Go.Proofs.YtikbhmnjlmbeeafGreat
open Go.RowKit Go.Mk

theorem zhA (v0 v1 v2 : Value) (l : List (List Cl)) (steps more : List (Int × Int)) (w : World) (h0 : zax 1 ze9 w v0 l) (h1 : zay w v1 steps) (h2 : zay w v2 more) :
  za3 Tryz.prog 3 #[v0,v1,v2] w fun r _=>r = .bool true:=zh2 zp8 zqo v0 v1 v2 l steps more w h0 h1 h2

end Go.Proofs.YtikbhmnjlmbeeafGreat
