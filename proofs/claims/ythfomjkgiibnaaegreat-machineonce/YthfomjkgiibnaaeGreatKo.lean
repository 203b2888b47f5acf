/- Texts of the proof, merged: JE. -/
import Derived.Test.YthfomjkgiibnaaeGreatKn
import Derived.Test.YthfomjkgiibnaaeGreatKh
set_option maxRecDepth 100000

namespace Go.Proofs.YthfomjkgiibnaaeGreat
open Go.RowKit Go.Mk

theorem ziw (v0 v1 : Value) (l : List (List Cl)) (steps : List (Int × Int)) (sk sn : Int) (w : World) (h0 : zav 1 zdO w v0 l) (h1 : zaz w v1 steps) :
  za1 Tryz.prog 5 #[v0,v1,.agg #[I sk,I sn]] w fun r _=>r = .bool true:=ziY zoN zqM v0 v1 l steps sk sn w h0 h1

end Go.Proofs.YthfomjkgiibnaaeGreat
