/- Texts of the proof, merged: C8. -/
import Derived.Test.YtdmipnnfoolelaeGreatKUA
import Derived.Test.YtdmipnnfoolelaeGreatKU7
set_option maxHeartbeats 4000000
set_option maxRecDepth 100000

namespace Go.Proofs.YtdmipnnfoolelaeGreat
open Go.RowKit Go.Mk

theorem ziq {P:Program} (w:World) (base:Nat) (t ty e:TypeId) (i:TypeInfo) (z:Value) (size bytes:Nat) (ht:P.underlying t=some (.slice e)) (hi:P.info? e=some i) (hz:i.zero=some z)
  (hsize:i.size=size) (hby:i.bytes=bytes) (hzs:z.cells.size=size) (hsz:0 < size)
  (v:Value) (n:Nat) (xs:List Value) (hown:zdc base e size n xs v w) (u:Value) (m:Nat) (news:List Value) (hu:Row w size u m news)
  (hbytes:(n+m) * bytes<=140737488355328) (hpos:0 < bytes) (hm0:0 < m) :
  ∃ v' w',(Builtin.append_ #[t,t] ty #[v,u]).run P w=.ok v' w'/\w'.ownsRow w.heap.size e size v' (n+m) (xs++news)/\Ext w w':=by
 obtain ⟨g,rfl,hown⟩:=hown
 have h63:n+m<=maxLen:=by
  have:n+m<=(n+m) * bytes:=Nat.le_mul_of_pos_right _ hpos
  unfold maxLen
  omega
 obtain ⟨hl,ao,cap,rfl,hc,hm,h0,hcell⟩:=hu
 cases ao with
 | none=>have:=h0 rfl; omega
 | some ad =>
  obtain ⟨v',w',hrun,r1,r2⟩:=run_append_arg_grows (P:=P) w t ty e i z size bytes ht hi hz hsize hby hzs hsz ⟨g,0,none⟩ n n xs hown.1 (hown.cells (g:=g) rfl) ad m cap news hl (fun j u hj=>by
   obtain ⟨b,off,e',hc'⟩:=hcell j u hj
   simp only [Option.some.injEq] at e'
   subst e'
   rw [add_plain]; exact hc') (by omega) h63 hbytes
  exact ⟨v',w',hrun,r1,⟨r2.os,r2.tape,r2.output,r2.size,fun k hk=>r2.block k hk (by simp)⟩⟩
theorem zhm {P:Program} {ops:Array Oper} {rest:List Oper} {o:Oper} {a:Act} {w:World} {Q:Exit->Act->World->Prop} (hgd:o.guard=none) (s x:Operand) (t:TypeId) (ho:o.op=.call { callee:=.builtin .append,args:=#[s,x],argTypes:=#[t,t] })
  (base:Nat) (e:TypeId) (i:TypeInfo) (z:Value) (size bytes:Nat) (ht:P.underlying t=some (.slice e)) (hi:P.info? e=some i) (hz:i.zero=some z)
  (hsize:i.size=size) (hby:i.bytes=bytes) (hzs:z.cells.size=size) (hsz:0 < size)
  (v:Value) (n:Nat) (xs:List Value) (hs:a.eval s=v) (hown:zdc base e size n xs v w) (u:Value) (hx:a.eval x=u) (m:Nat) (news:List Value) (hu:Row w size u m news)
  (hbytes:(n+m) * bytes<=140737488355328) (hpos:0 < bytes) (hm0:0 < m)
  (h:∀ v' w',w'.ownsRow w.heap.size e size v' (n+m) (xs++news)->Ext w w'->wpList P ops Q rest (a.put o.dst v') w'):wpList P ops Q (o::rest) a w:=by
 refine wpList_plain hgd fun K hK=>?_
 obtain ⟨v',w',hrun,h2,h3⟩:=ziq (P:=P) w base t o.type e i z size bytes ht hi hz hsize hby hzs hsz v n xs hown u m news hu hbytes hpos hm0
 unfold Oper.wp
 simp [execOp,ho,resolve,invoke,builtin,hs,hx,hrun,Result.andThen]
 exact hK _ _ (h v' w' h2 h3)

def zjw (cl:List Cl) (at_:Int) (sent:Bool) (gen:Int) (b:List UInt8) (l:List (List UInt8)) (gl:List Rp) (me:Int):Cn :=
 if (readAn b).2=0/\(readAn b).1.client=me/\(readAn b).1.token=at_/\sent=true then ⟨cl,at_+1,false,gen,l,gl++[(readAn b).1.reply]⟩ else ⟨cl,at_,sent,gen,l,gl⟩
theorem zqk (cl:List Cl) (at_:Int) (sent:Bool) (gen:Int) (b:List UInt8) (l:List (List UInt8)) (gl:List Rp) (me gen2:Int) (up:Bool):zcM ⟨cl,at_,sent,gen,b::l,gl⟩ me gen2 up=(zjw cl at_ sent gen b l gl me,[],0):=by
 show (if (readAn b).2=0/\(readAn b).1.client=me/\(readAn b).1.token=at_/\sent=true then _ else _)=_
 unfold zjw
 split <;> rfl
def zgI (cl:List Cl) (at_:Int) (sent:Bool) (gen gen2:Int) (up:Bool):Int:=if (cl.length:Int)<=at_ then 11 else if ¬ up then 10 else if sent/\gen=gen2 then 12 else 0

theorem zjf (cl:List Cl) (ka:Option Addr) (kc:Nat) (at_:Int) (sent:Bool) (gen gen2:Int) (up:Bool) (box got:Value) (w:World) (h0:0<=at_) :
  Calls Tryz.prog 86 #[.agg #[.slice ka cl.length kc,I at_,.bool sent,I gen,box,got],I gen2,.bool up] w fun e w'=>e=.returned (I (zgI cl at_ sent gen gen2 up))/\Ext w w':=by
 have EW:=zhd (Ext.refl w);have hX0:zgI cl at_ sent gen gen2 up=if (cl.length:Int)<=at_ then 11 else if ¬ up then 10 else if sent/\gen=gen2 then 12 else 0:=rfl;by_cases hat:(cl.length:Int)<=at_
 case pos =>
  rw [hX0,if_pos hat];clear hX0;go_enter Tryz.func86,Tryz.ntmps86
  go_wp2_with (with_reducible refine zT ?_)
  refine zaj rfl 63 (.tmp 0) rfl #[.slice ka cl.length kc,I at_,.bool sent,I gen,box,got] rfl (fun b0 w1_ M1=>?_);have zab:=zmb M1;have c0:=zaa (i:=0) zab.o rfl;have c1:=zaa (i:=1) zab.o rfl;have c2:=zaa (i:=2) zab.o rfl;have c3:=zaa (i:=3) zab.o rfl;go_wp2
  go_ret
  replace EW:=zet EW M1;exact ⟨rfl,EW.o⟩
 rw [hX0,if_neg hat];cases up
 case false =>
  rw [if_pos (by simp)];clear hX0;go_enter Tryz.func86,Tryz.ntmps86
  go_wp2_with (with_reducible refine zT ?_)
  refine zaj rfl 63 (.tmp 0) rfl #[.slice ka cl.length kc,I at_,.bool sent,I gen,box,got] rfl (fun b0 w1_ M1=>?_);have zab:=zmb M1;have c0:=zaa (i:=0) zab.o rfl;have c1:=zaa (i:=1) zab.o rfl;have c2:=zaa (i:=2) zab.o rfl;have c3:=zaa (i:=3) zab.o rfl;go_wp2
  go_ret
  replace EW:=zet EW M1;exact ⟨rfl,EW.o⟩
 rw [if_neg (by simp)];by_cases hsg:sent=true/\gen=gen2
 case pos =>
  rw [if_pos hsg];obtain ⟨rfl,rfl⟩:=hsg;clear hX0;go_enter Tryz.func86,Tryz.ntmps86
  go_wp2_with (with_reducible refine zT ?_)
  refine zaj rfl 63 (.tmp 0) rfl #[.slice ka cl.length kc,I at_,.bool true,I gen,box,got] rfl (fun b0 w1_ M1=>?_);have zab:=zmb M1;have c0:=zaa (i:=0) zab.o rfl;have c1:=zaa (i:=1) zab.o rfl;have c2:=zaa (i:=2) zab.o rfl;have c3:=zaa (i:=3) zab.o rfl;go_wp2
  go_ret
  replace EW:=zet EW M1;exact ⟨rfl,EW.o⟩
 rw [if_neg hsg];clear hX0
 have hsel:(sent=false∨(sent=true/\(gen == gen2)=false)):=by
  cases sent
  ·exact .inl rfl
  ·exact .inr ⟨rfl,by simpa using hsg⟩
 clear hsg;rcases hsel with rfl | ⟨rfl,hgn⟩
 ·go_enter Tryz.func86,Tryz.ntmps86
  go_wp2_with (with_reducible refine zT ?_)
  refine zaj rfl 63 (.tmp 0) rfl #[.slice ka cl.length kc,I at_,.bool false,I gen,box,got] rfl (fun b0 w1_ M1=>?_);have zab:=zmb M1;have c0:=zaa (i:=0) zab.o rfl;have c1:=zaa (i:=1) zab.o rfl;have c2:=zaa (i:=2) zab.o rfl;have c3:=zaa (i:=3) zab.o rfl;go_wp2
  go_ret
  replace EW:=zet EW M1;exact ⟨rfl,EW.o⟩
 ·go_enter Tryz.func86,Tryz.ntmps86
  go_wp2_with (with_reducible refine zT ?_)
  refine zaj rfl 63 (.tmp 0) rfl #[.slice ka cl.length kc,I at_,.bool true,I gen,box,got] rfl (fun b0 w1_ M1=>?_);have zab:=zmb M1;have c0:=zaa (i:=0) zab.o rfl;have c1:=zaa (i:=1) zab.o rfl;have c2:=zaa (i:=2) zab.o rfl;have c3:=zaa (i:=3) zab.o rfl;go_wp2
  go_ret
  replace EW:=zet EW M1;exact ⟨rfl,EW.o⟩

theorem znd (cl:List Cl) (at_:Int) (sent:Bool) (gen:Int) (b:List UInt8) (l:List (List UInt8)) (gl:List Rp) (calls box:Value) (gg base:Nat) (me:Int) (w:World) (A:Nat->Prop)
  (hc:Rd A (fun w=>zar 4 zdk w calls cl) w) (hb:Rd A (fun w=>zar 1 zb0 w box (b::l)) w) (hg:Rd A (fun w=>zar 2 zdY w (.slice (some ⟨gg,0,none⟩) gl.length gl.length) gl) w) (ho:w.ownsRow base 39 2 (.slice (some ⟨gg,0,none⟩) gl.length gl.length) gl.length (zbI gl)) (h0:0<=at_) (h1:at_<=1000000) (hgl:gl.length<=1000) :
  zaQ Tryz.prog 85 #[.agg #[calls,I at_,.bool sent,I gen,box,.slice (some ⟨gg,0,none⟩) gl.length gl.length],I me] w A (fun r w'=>Agg zcx (zjw cl at_ sent gen b l gl me) r w'):=by
 unfold zaQ;obtain ⟨ca,cc,rfl⟩:=zaf hc.o;have EW:=zhd (Ext.refl w);obtain ⟨B,hB⟩:=zdh A w.heap.size 2;have HK:=zhd hB;clear hB;have HC:=zhd (hc.widen HK.o.1);have HG:=zhd (hg.widen HK.o.1);have OPg:=zhd ho;obtain ⟨xb,xo,xc,bv,rfl,hx1,hx2,hf,hrest⟩:=zgO (hb.widen HK.o.1);have HF:=zhd hf;have HB:=zhd hrest;have HGL:=zhd hgl;unfold maxLen at hx2;clear hc hb hg hf hrest hgl ho;obtain ⟨⟨ac,at2,⟨re,rn⟩⟩,ae,hRA⟩:∃ x y,readAn b=(x,y):=⟨_,_,rfl⟩;have HRA:=zhd hRA
 have hX0:zjw cl at_ sent gen b l gl me=if ae=0/\ac=me/\at2=at_/\sent=true then ⟨cl,at_+1,false,gen,l,gl++[⟨re,rn⟩]⟩ else ⟨cl,at_,sent,gen,l,gl⟩:=by
  unfold zjw;rw [hRA]
 clear hRA;obtain ⟨RC,hR⟩:∃ x,zjw cl at_ sent gen b l gl me=x:=⟨_,rfl⟩;rw [hR];rw [hR] at hX0;have HX:=zhd hX0;clear hX0 hR;go_enter Tryz.func85,Tryz.ntmps85
 go_wp2_with (with_reducible refine zT ?_)
 refine zaj rfl 63 (.tmp 0) rfl #[.slice ca cl.length cc,I at_,.bool sent,I gen,.slice (some ⟨xb,xo,none⟩) (l.length+1) xc,.slice (some ⟨gg,0,none⟩) gl.length gl.length] rfl (fun b0 w1_ M1=>?_);have zab:=zmb M1;go_wp2_with (with_reducible refine zT ?_)
 refine zae rfl 63 zC (by kernel_rfl) (fun b1 w2_ M2=>?_);have zay:=zld zab M2;have zad:=zmb M2;have zaY:=zA0 M1;have zaF:=znb HK zaY (by decide);have zbr:=zob zaY;have zaZ:=zA1 zaY M1 M2;have zau:=znb HK zaZ (by decide);have za4:=zob zaZ;replace zab:=zmo M2 zab;have c4:=zaa (i:=4) zab.o rfl;replace HF:=zme M2 (zme M1 HF);have cx:=HF.o.o.1;go_wp2_with (first | (with_reducible refine zT ?_) | ((with_reducible refine zsc ?_ ?_); exact rfl))
 unfold Hid;clear c4 cx;replace HC:=zme M2 (zme M1 HC);replace HB:=zme M2 (zme M1 HB);replace HG:=zme M2 (zme M1 HG);replace OPg:=zhd (zak (zhd (zak OPg.o M1.o.ext)).o M2.o.ext);replace EW:=zet (zet EW M1) M2;refine zfA rfl l.length (fun na nc=>Rd B (fun w=>zar 1 zb0 w (.slice na l.length nc) l) w2_) ?_ (fun na' nc' hn=>?_)
 ·by_cases hcap:xc=1
  ·have hl0:l=[]:=List.eq_nil_of_length_eq_zero (by omega);refine ⟨some ⟨xb,xo,none⟩,0,by rw [hl0]; exact Rd.all fun w=>zeW w xb xo 0 (by decide),?_⟩;rw [hl0];subst hcap;go_simp
  ·exact ⟨some ⟨xb,xo+1,none⟩,xc - 1,HB.o,by go_simp; intro h; omega⟩
 replace HB:=zhd hn;clear hn hx1 hx2;go_wp2_with (with_reducible refine zT ?_)
 refine zam rfl 32 (.tmp 15) (.tmp 14) rfl b0 4 rfl [(.slice na' l.length nc')] (rfl) zab rfl zkP rfl [.slice ca cl.length cc,I at_,.bool sent,I gen,(.slice na' l.length nc'),.slice (some ⟨gg,0,none⟩) gl.length gl.length] rfl (fun w3_ M3=>?_);replace OPg:=zhd (OPg.o.kept M3.o.grown (.inr (za5 OPg.o zab.o (by decide))));replace zab:=zwb M3;go_wp2_with fail
 replace HF:=zwr M3 HF zaF;have hl:=zeM bv b w3_ HF.o.o.2;rw [HRA.o] at hl;refine Calls.exts hl (fun wa ea=>?_);clear hl;go_wp2_with (with_reducible refine zT ?_)
 refine zae rfl 99 #[I 0,I 0,I 0,I 0] (by kernel_rfl) (fun b2 w4_ M4=>?_);replace zab:=zbx zab ea;have za2:=zld zab M4;replace zad:=zbx (zwg M3 zad zay) ea;have zaJ:=zld zad M4;obtain ⟨B1,HB1⟩:=zEx B b2;have zaT:=zNn HB1;have zfS:=zIn HB1;replace EW:=zhd ((zwe M3 EW zbr).o.trans ea);have zbu:=zOn M4 EW;have zal:=zmb M4;go_wp2_with (with_reducible refine zT ?_)
 refine zac rfl 99 (.tmp 6) (.tmp 19) rfl b2 rfl [I ac,I at2,I re,I rn] (rfl) zal rfl zmF rfl (fun w5_ M5=>?_);replace OPg:=zhd (zak (zhd (zak OPg.o ea)).o M4.o.ext);replace OPg:=zhd (OPg.o.kept M5.o.grown (.inr (za5 OPg.o zal.o (by decide))));replace zal:=zwb M5;replace HC:=zwr M5 (zme M4 (zmd HB1 M4 (zrx (zwr M3 HC zaF) ea))) zaT;replace HB:=zwr M5 (zme M4 (zmd HB1 M4 (zrx (zwr M3 HB zaF) ea))) zaT;replace HG:=zwr M5 (zme M4 (zmd HB1 M4 (zrx (zwr M3 HG zaF) ea))) zaT;replace HF:=zwr M5 (zme M4 (zmd HB1 M4 (zrx HF ea))) zaT;replace zaF:=znw HB1 zaF;replace zau:=znw HB1 zau;replace zab:=zwl M5 (zmo M4 zab) za2;replace zad:=zwl M5 (zmo M4 zad) zaJ;replace EW:=zwe M5 (zet EW M4) zbu;by_cases a1:ae=0
 case neg =>
  have hb_a1:(ae == 0)=false:=by simpa using a1
  have HA:=zhd a1;clear a1;have d0:=zaa (i:=0) zal.o rfl;have d1:=zaa (i:=1) zal.o rfl;have c1:=zaa (i:=1) zab.o rfl;have c2:=zaa (i:=2) zab.o rfl;go_wp2_with (with_reducible refine zT ?_)
  clear d0 d1 c1 c2;refine zah rfl 63 (.tmp 2) rfl b0 rfl zab zbG zbF (fun v41 H_v41=>?_);go_wp2_with (with_reducible refine zT ?_)
  refine zac rfl 63 (.tmp 4) (.tmp 41) rfl b1 rfl _ (zcv H_v41) zad rfl zbF rfl (fun w6_ M6=>?_);replace OPg:=zhd (OPg.o.kept M6.o.grown (.inr (za5 OPg.o zad.o (by decide))));replace zad:=zwb M6;go_wp2
  have z0:=zaq (P:=Tryz.prog) 63 zad.o zbG (by kernel_rfl);refine bodyPost_ret (by simp [results,Tryz.results85,asAddr,z0,Act.put]; rfl) rfl ?_;have hres:=HX.o;rw [if_neg (fun h=>HA.o h.1)] at hres;subst hres;replace HC:=zwr M6 HC zau;replace HB:=zwr M6 HB zau;replace HG:=zwr M6 HG zau;replace EW:=zwe M6 EW za4;exact ⟨_,rfl,EW.o,Rd.widen (A:=B1) (zbT (zcN (c:=⟨cl,at_,sent,gen,l,gl⟩) HC.o HB.o HG.o)) (fun k _ h=>HK.o.2.2.2 k (zfS.o k h))⟩
 subst a1;by_cases a2:ac=me
 case neg =>
  have hb_a2:(ac == me)=false:=by simpa using a2
  have HA:=zhd a2;clear a2;have d0:=zaa (i:=0) zal.o rfl;have d1:=zaa (i:=1) zal.o rfl;have c1:=zaa (i:=1) zab.o rfl;have c2:=zaa (i:=2) zab.o rfl;go_wp2_with (with_reducible refine zT ?_)
  clear d0 d1 c1 c2;refine zah rfl 63 (.tmp 2) rfl b0 rfl zab zbG zbF (fun v41 H_v41=>?_);go_wp2_with (with_reducible refine zT ?_)
  refine zac rfl 63 (.tmp 4) (.tmp 41) rfl b1 rfl _ (zcv H_v41) zad rfl zbF rfl (fun w6_ M6=>?_);replace OPg:=zhd (OPg.o.kept M6.o.grown (.inr (za5 OPg.o zad.o (by decide))));replace zad:=zwb M6;go_wp2
  have z0:=zaq (P:=Tryz.prog) 63 zad.o zbG (by kernel_rfl);refine bodyPost_ret (by simp [results,Tryz.results85,asAddr,z0,Act.put]; rfl) rfl ?_;have hres:=HX.o;rw [if_neg (fun h=>HA.o h.2.1)] at hres;subst hres;replace HC:=zwr M6 HC zau;replace HB:=zwr M6 HB zau;replace HG:=zwr M6 HG zau;replace EW:=zwe M6 EW za4;exact ⟨_,rfl,EW.o,Rd.widen (A:=B1) (zbT (zcN (c:=⟨cl,at_,sent,gen,l,gl⟩) HC.o HB.o HG.o)) (fun k _ h=>HK.o.2.2.2 k (zfS.o k h))⟩
 subst a2;by_cases a3:at2=at_
 case neg =>
  have hb_a3:(at2 == at_)=false:=by simpa using a3
  have HA:=zhd a3;clear a3;have d0:=zaa (i:=0) zal.o rfl;have d1:=zaa (i:=1) zal.o rfl;have c1:=zaa (i:=1) zab.o rfl;have c2:=zaa (i:=2) zab.o rfl;go_wp2_with (with_reducible refine zT ?_)
  clear d0 d1 c1 c2;refine zah rfl 63 (.tmp 2) rfl b0 rfl zab zbG zbF (fun v41 H_v41=>?_);go_wp2_with (with_reducible refine zT ?_)
  refine zac rfl 63 (.tmp 4) (.tmp 41) rfl b1 rfl _ (zcv H_v41) zad rfl zbF rfl (fun w6_ M6=>?_);replace OPg:=zhd (OPg.o.kept M6.o.grown (.inr (za5 OPg.o zad.o (by decide))));replace zad:=zwb M6;go_wp2
  have z0:=zaq (P:=Tryz.prog) 63 zad.o zbG (by kernel_rfl);refine bodyPost_ret (by simp [results,Tryz.results85,asAddr,z0,Act.put]; rfl) rfl ?_;have hres:=HX.o;rw [if_neg (fun h=>HA.o h.2.2.1)] at hres;subst hres;replace HC:=zwr M6 HC zau;replace HB:=zwr M6 HB zau;replace HG:=zwr M6 HG zau;replace EW:=zwe M6 EW za4;exact ⟨_,rfl,EW.o,Rd.widen (A:=B1) (zbT (zcN (c:=⟨cl,at_,sent,gen,l,gl⟩) HC.o HB.o HG.o)) (fun k _ h=>HK.o.2.2.2 k (zfS.o k h))⟩
 replace a3:=a3.symm;subst a3;cases sent
 case false =>
  have d0:=zaa (i:=0) zal.o rfl;have d1:=zaa (i:=1) zal.o rfl;have c1:=zaa (i:=1) zab.o rfl;have c2:=zaa (i:=2) zab.o rfl;go_wp2_with (with_reducible refine zT ?_)
  clear d0 d1 c1 c2;refine zah rfl 63 (.tmp 2) rfl b0 rfl zab zbG zbF (fun v41 H_v41=>?_);go_wp2_with (with_reducible refine zT ?_)
  refine zac rfl 63 (.tmp 4) (.tmp 41) rfl b1 rfl _ (zcv H_v41) zad rfl zbF rfl (fun w6_ M6=>?_);replace OPg:=zhd (OPg.o.kept M6.o.grown (.inr (za5 OPg.o zad.o (by decide))));replace zad:=zwb M6;go_wp2
  have z0:=zaq (P:=Tryz.prog) 63 zad.o zbG (by kernel_rfl);refine bodyPost_ret (by simp [results,Tryz.results85,asAddr,z0,Act.put]; rfl) rfl ?_;have hres:=HX.o;rw [if_neg (fun h=>by cases h.2.2.2)] at hres;subst hres;replace HC:=zwr M6 HC zau;replace HB:=zwr M6 HB zau;replace HG:=zwr M6 HG zau;replace EW:=zwe M6 EW za4;exact ⟨_,rfl,EW.o,Rd.widen (A:=B1) (zbT (zcN (c:=⟨cl,at_,false,gen,l,gl⟩) HC.o HB.o HG.o)) (fun k _ h=>HK.o.2.2.2 k (zfS.o k h))⟩
 have d0:=zaa (i:=0) zal.o rfl;have d1:=zaa (i:=1) zal.o rfl;have c1:=zaa (i:=1) zab.o rfl;have c2:=zaa (i:=2) zab.o rfl;have x5:=zaa (i:=5) zab.o rfl;have y2:=zaa (i:=2) zal.o rfl;have y3:=zaa (i:=3) zal.o rfl;go_wp2_with (with_reducible refine zT ?_)
 unfold Hid;clear d0 d1 c1 c2 x5 y2 y3;obtain ⟨i0,hi,hz0,hz1,hz2⟩:=info_parts Tryz.infoRp;have HI:=zhd hi;clear hi;refine zcU rfl 39 1 #[I re,I rn] (by kernel_rfl) (fun b3 w6_ M6=>?_);obtain ⟨B11,HB11⟩:=zEx B1 b3;have zjh:=zIn HB11;have zat:=zmb M6;go_wp2_with (first | (at_builtin; refine zbw ?_) | (with_reducible refine zT ?_))
 unfold Hid;replace OPg:=zhd (zak OPg.o M6.o.ext);refine zhm rfl (.tmp 43) (.tmp 46) 55 rfl base 39 i0 (.agg #[.int .i64 0,.int .i64 0]) 2 16 zlr HI.o hz0 hz1 hz2 rfl (by decide) _ gl.length (zbI gl) rfl ⟨gg,rfl,OPg.o⟩ (.slice (some ⟨b3,0,none⟩) 1 1) rfl 1 (zbI [⟨re,rn⟩]) (Row.of_owns (zeD (base:=0) (size:=2) M6.o (Nat.zero_le _) rfl (by decide))) (by have:=HGL.o; omega) (by decide) (by decide) ?_;intro v47 w9 ho9 e9;have hro:Rd (fun k=>w6_.heap.size<=k) (fun w=>zar 2 zdY w v47 (gl++[⟨re,rn⟩])) w9:=zgq (by rw [zeg]; exact ho9);obtain ⟨qa,qc,hqs⟩:=zaf hro.o;rw [show (gl++[(⟨re,rn⟩:Rp)]).length=gl.length+1 by simp] at hqs;subst hqs;replace zad:=zmo M6 zad;have hsz:w.heap.size+2<=w6_.heap.size:=by have q:=(zlt zad); have q2:=zaZ.o; omega
 replace zal:=zmo M6 zal;have hsz2:b2 < w6_.heap.size:=(zlt zal);have hsz3:b3 < w6_.heap.size:=(zlt zat);have HRO:=zhd (hro.widen (B:=B11) (fun k _ h=>(HB11.o k).2 ⟨(HB1.o k).2 ⟨HK.o.2.1 k (by omega),by omega⟩,by omega⟩));clear hro ho9 hsz hsz2 hsz3;replace HC:=zrx (zme M6 (zmd HB11 M6 HC)) e9;replace HB:=zrx (zme M6 (zmd HB11 M6 HB)) e9;replace HG:=zrx (zme M6 (zmd HB11 M6 HG)) e9;replace HF:=zrx (zme M6 (zmd HB11 M6 HF)) e9;replace zab:=zbx (zmo M6 zab) e9;replace EW:=zhd ((zet EW M6).o.trans e9);replace zad:=zbx zad e9;replace zal:=zbx zal e9;replace zat:=zbx zat e9;replace OPg:=zhd (zak OPg.o e9);clear e9;go_wp2_with (with_reducible refine zT ?_)
 refine zam rfl 55 (.tmp 48) (.tmp 47) rfl b0 5 rfl [.slice qa (gl.length+1) qc] (rfl) zab rfl zqC rfl [.slice ca cl.length cc,I at_,.bool true,I gen,(.slice na' l.length nc'),.slice qa (gl.length+1) qc] rfl (fun w7_ M7=>?_);replace OPg:=zhd (OPg.o.kept M7.o.grown (.inr (za5 OPg.o zab.o (by decide))));replace zab:=zwb M7;replace zaF:=znw HB11 zaF;have c1:=zaa (i:=1) zab.o rfl;go_wp2_with (with_reducible refine zT ?_)
 clear c1;refine zam rfl 3 (.tmp 52) (.tmp 51) rfl b0 1 rfl [I (at_+1)] (rfl) zab rfl zi3 rfl [.slice ca cl.length cc,I (at_+1),.bool true,I gen,(.slice na' l.length nc'),.slice qa (gl.length+1) qc] rfl (fun w8_ M8=>?_);replace OPg:=zhd (OPg.o.kept M8.o.grown (.inr (za5 OPg.o zab.o (by decide))));replace zab:=zwb M8;go_wp2_with (with_reducible refine zT ?_)
 refine zam rfl 4 (.tmp 53) (.const (.bool false)) rfl b0 2 rfl [.bool false] (rfl) zab rfl zi4 rfl [.slice ca cl.length cc,I (at_+1),.bool false,I gen,(.slice na' l.length nc'),.slice qa (gl.length+1) qc] rfl (fun w9_ M9=>?_);replace OPg:=zhd (OPg.o.kept M9.o.grown (.inr (za5 OPg.o zab.o (by decide))));replace zab:=zwb M9;go_wp2_with (with_reducible refine zT ?_)
 refine zah rfl 63 (.tmp 2) rfl b0 rfl zab zbG zbF (fun v54 H_v54=>?_);go_wp2_with (with_reducible refine zT ?_)
 replace zad:=zwg M9 (zwg M8 (zwg M7 zad zay) zay) zay;refine zac rfl 63 (.tmp 4) (.tmp 54) rfl b1 rfl _ (zcv H_v54) zad rfl zbF rfl (fun w10_ M10=>?_);replace OPg:=zhd (OPg.o.kept M10.o.grown (.inr (za5 OPg.o zad.o (by decide))));replace zad:=zwb M10;replace zau:=znw HB11 zau;go_wp2
 have z0:=zaq (P:=Tryz.prog) 63 zad.o zbG (by kernel_rfl);refine bodyPost_ret (by simp [results,Tryz.results85,asAddr,z0,Act.put]; rfl) rfl ?_;have hres:=HX.o;rw [if_pos (by simp)] at hres;subst hres;replace HC:=zwr M10 (zwr M9 (zwr M8 (zwr M7 HC zaF) zaF) zaF) zau;replace HB:=zwr M10 (zwr M9 (zwr M8 (zwr M7 HB zaF) zaF) zaF) zau;replace HRO:=zwr M10 (zwr M9 (zwr M8 (zwr M7 HRO zaF) zaF) zaF) zau;replace EW:=zwe M10 (zwe M9 (zwe M8 (zwe M7 EW zbr) zbr) zbr) za4;exact ⟨_,rfl,EW.o,Rd.widen (A:=B11) (zbT (zcN (c:=⟨cl,(at_+1),false,gen,l,(gl++[⟨re,rn⟩])⟩) HC.o HB.o HRO.o)) (fun k _ h=>HK.o.2.2.2 k (zfS.o k (zjh.o k h)))⟩

end Go.Proofs.YtdmipnnfoolelaeGreat
