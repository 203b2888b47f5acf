/- zbb of the proof, merged: Frame2 Frame6 Frame3. -/
import Derived.Test.YtdmipnnfoolelagGreatDoorKTK
import Derived.Test.YtdmipnnfoolelagGreatDoorKTC
import Derived.Test.YtdmipnnfoolelagGreatDoorKTD
set_option maxRecDepth 100000

namespace Go.Proofs.YtdmipnnfoolelagGreatDoor
open Go.RowKit Go.Mk

theorem Tryz.cellsCall:Tryz.prog.cellsOf 33=4:=by kernel_rfl
open Go.ChangeShapes Go.WideShapes Go.ChangeAt Go.RowKit Go.Mk

theorem zil {P:Program} {H:Type} {enc:TypeId×Value->H} {W:World} {t e:TypeId} {f0 f1 f2 f3:Field} {v:Value} {d:DataW H} {p:List MemPlace} (ht:P.underlying t=some (.slice e)) (he:P.underlying e=some (.struct #[f0,f1,f2,f3])) (hc:P.cellsOf e=4)
  (h0:P.underlying f0.type=some (.int .i64)) (h1:P.underlying f1.type=some (.int .i64)) (h2:P.underlying f2.type=some (.int .i64)) (h3:P.underlying f3.type=some (.int .i64))
  (o0:f0.offset=0) (o1:f1.offset=1) (o2:f2.offset=2) (o3:f3.offset=3) (c0:P.cellsOf f0.type=1) (c1:P.cellsOf f1.type=1) (c2:P.cellsOf f2.type=1) (c3:P.cellsOf f3.type=1)
  {b0:Nat} (hv:Value.okWide P W .any b0 t v) (h:DataW.Trod enc P W 0 (fun _=>true) true t v d p):∃ l:List Cl,zaj 4 zbX W v l:=by
 obtain ⟨a0,len,cap,rfl⟩:=okWide_slice ht hv
 obtain ⟨fuel,hf⟩:=h
 obtain ⟨xs,css,hr,hl,hq,hs⟩:=zjp (X:=Cl) (by decide) (fun cs c=>cs=[I c.kind,I c.name,I c.other,I c.n]) ht hc (fun fuel cs z hz _=>zqq he hc h0 h1 h2 h3 o0 o1 o2 o3 c0 c1 c2 c3 hz) rfl hf
 refine ⟨xs,?_⟩
 rw [ziH (f:=fun c:Cl=>[I c.kind,I c.name,I c.other,I c.n]) hl (fun i c x hc hx=>(hq i c x hc hx).2)] at hr
 exact (zcc (f:=fun (x:Cl)=>[I x.kind,I x.name,I x.other,I x.n]) (fun _=>rfl)).2 hr

open Go.RowKit Go.Mk

end Go.Proofs.YtdmipnnfoolelagGreatDoor
