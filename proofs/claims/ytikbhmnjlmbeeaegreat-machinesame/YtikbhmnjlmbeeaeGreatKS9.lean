/- Texts of the proof, merged: N21. -/
import Derived.Test.YtikbhmnjlmbeeaeGreatKSU
import Derived.Test.YtikbhmnjlmbeeaeGreatKSR
import Derived.Test.YtikbhmnjlmbeeaeGreatKSF
import Derived.Test.YtikbhmnjlmbeeaeGreatKSG
set_option maxRecDepth 100000

namespace Go.Proofs.YtikbhmnjlmbeeaeGreat
open Go.RowKit Go.Mk

def zga (p : List (Rq × (Int × Int))) (n : Int) : List Rp:=(p.filter fun x=>decide (x.1.client = n)).map fun x=>⟨x.2.1,x.2.2⟩
theorem zl6 {p : List (Rq × (Int × Int))} {k : Nat} {x : Rq × (Int × Int)} (n : Int) (h : p[k]? = some x) : zga (p.take (k + 1)) n = if x.1.client = n then zga (p.take k) n ++ [⟨x.2.1,x.2.2⟩] else zga (p.take k) n:=by
 unfold zga
 rw [List.take_add_one,h,Option.toList_some,List.filter_append,List.map_append]
 by_cases e : x.1.client = n
 ·rw [if_pos e]; simp [e]
 ·rw [if_neg e]; simp [e]
theorem zno (p : List (Rq × (Int × Int))) (n : Int) : (zga p n).length <= p.length:=by
 unfold zga
 rw [List.length_map]
 exact List.length_filter_le _ _
end Go.Proofs.YtikbhmnjlmbeeaeGreat
