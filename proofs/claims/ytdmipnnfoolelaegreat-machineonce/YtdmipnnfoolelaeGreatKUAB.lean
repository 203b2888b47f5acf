/- Texts of the proof, merged: N21. -/
import Derived.Test.YtdmipnnfoolelaeGreatKUR
import Derived.Test.YtdmipnnfoolelaeGreatKUP
import Derived.Test.YtdmipnnfoolelaeGreatKUF
set_option maxRecDepth 100000

namespace Go.Proofs.YtdmipnnfoolelaeGreat
open Go.RowKit Go.Mk

def zgs (p:List (Rq×(Int×Int))) (n:Int):List Rp:=(p.filter fun x=>decide (x.1.client=n)).map fun x=>⟨x.2.1,x.2.2⟩
theorem zmI {p:List (Rq×(Int×Int))} {k:Nat} {x:Rq×(Int×Int)} (n:Int) (h:p[k]?=some x):zgs (p.take (k+1)) n=if x.1.client=n then zgs (p.take k) n++[⟨x.2.1,x.2.2⟩] else zgs (p.take k) n:=by
 unfold zgs
 rw [List.take_add_one,h,Option.toList_some,List.filter_append,List.map_append]
 by_cases e:x.1.client=n
 ·rw [if_pos e]; simp [e]
 ·rw [if_neg e]; simp [e]
theorem zog (p:List (Rq×(Int×Int))) (n:Int):(zgs p n).length<=p.length:=by
 unfold zgs
 rw [List.length_map]
 exact List.length_filter_le _ _
end Go.Proofs.YtdmipnnfoolelaeGreat
