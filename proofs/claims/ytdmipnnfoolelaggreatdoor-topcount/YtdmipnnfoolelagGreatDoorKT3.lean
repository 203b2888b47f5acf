/- zbb of the proof, merged: C8 C9. -/
import Derived.Test.YtdmipnnfoolelagGreatDoorKTA
import Derived.Test.YtdmipnnfoolelagGreatDoorKTX
set_option maxHeartbeats 4000000
set_option maxRecDepth 100000

namespace Go.Proofs.YtdmipnnfoolelagGreatDoor
open Go.RowKit Go.Mk

theorem ziz {P:Program} (w:World) (base:Nat) (t ty e:TypeId) (i:TypeInfo) (z:Value) (size bytes:Nat) (ht:P.underlying t=some (.slice e)) (hi:P.info? e=some i) (hz:i.zero=some z)
  (hsize:i.size=size) (hby:i.bytes=bytes) (hzs:z.cells.size=size) (hsz:0 < size)
  (v:Value) (n:Nat) (xs:List Value) (hown:zjz base e size n xs v w) (u:Value) (m:Nat) (news:List Value) (hu:Row w size u m news)
  (hbytes:(n+m) * bytes<=140737488355328) (hpos:0 < bytes) (hm0:0 < m) :
  ∃ v' w',(Builtin.append_ #[t,t] ty #[v,u]).run P w=.ok v' w'/\w'.ownsRow w.heap.size e size v' (n+m) (xs++news)/\Ext w w':=by
 obtain ⟨g,rfl,hown⟩:=hown
 have h63:n+m<=maxLen:=by
  have:n+m<=(n+m) * bytes:=Nat.le_mul_of_pos_right _ hpos
  unfold maxLen
  omega
 obtain ⟨hl,ao,cap,rfl,hc,hm,h0,hcell⟩:=hu
 cases ao with
 | none=>have:=h0 rfl; omega
 | some ad =>
  obtain ⟨v',w',hrun,r1,r2⟩:=run_append_arg_grows (P:=P) w t ty e i z size bytes ht hi hz hsize hby hzs hsz ⟨g,0,none⟩ n n xs hown.1 (hown.cells (g:=g) rfl) ad m cap news hl (fun j u hj=>by
   obtain ⟨b,off,e',hc'⟩:=hcell j u hj
   simp only [Option.some.injEq] at e'
   subst e'
   rw [add_plain]; exact hc') (by omega) h63 hbytes
  exact ⟨v',w',hrun,r1,⟨r2.os,r2.tape,r2.output,r2.size,fun k hk=>r2.block k hk (by simp)⟩⟩
theorem zgS {P:Program} {ops:Array Oper} {rest:List Oper} {o:Oper} {a:Act} {w:World} {Q:Exit->Act->World->Prop} (hgd:o.guard=none) (s x:Operand) (t:TypeId) (ho:o.op=.call { callee:=.builtin .append,args:=#[s,x],argTypes:=#[t,t] })
  (base:Nat) (e:TypeId) (i:TypeInfo) (z:Value) (size bytes:Nat) (ht:P.underlying t=some (.slice e)) (hi:P.info? e=some i) (hz:i.zero=some z)
  (hsize:i.size=size) (hby:i.bytes=bytes) (hzs:z.cells.size=size) (hsz:0 < size)
  (v:Value) (n:Nat) (xs:List Value) (hs:a.eval s=v) (hown:zjz base e size n xs v w) (u:Value) (hx:a.eval x=u) (m:Nat) (news:List Value) (hu:Row w size u m news)
  (hbytes:(n+m) * bytes<=140737488355328) (hpos:0 < bytes) (hm0:0 < m)
  (h:∀ v' w',w'.ownsRow w.heap.size e size v' (n+m) (xs++news)->Ext w w'->wpList P ops Q rest (a.put o.dst v') w'):wpList P ops Q (o::rest) a w:=by
 refine wpList_plain hgd fun K hK=>?_
 obtain ⟨v',w',hrun,h2,h3⟩:=ziz (P:=P) w base t o.type e i z size bytes ht hi hz hsize hby hzs hsz v n xs hown u m news hu hbytes hpos hm0
 unfold Oper.wp
 simp [execOp,ho,resolve,invoke,builtin,hs,hx,hrun,Result.andThen]
 exact hK _ _ (h v' w' h2 h3)

def ziP (cl:List Cl) (at_:Int) (sent:Bool) (gen:Int) (b:List UInt8) (l:List (List UInt8)) (gl:List Rp) (me:Int):Cn :=
 if (readAn b).2=0/\(readAn b).1.client=me/\(readAn b).1.token=at_/\sent=true then ⟨cl,at_+1,false,gen,l,gl++[(readAn b).1.reply]⟩ else ⟨cl,at_,sent,gen,l,gl⟩
theorem zs6 (cl:List Cl) (at_:Int) (sent:Bool) (gen:Int) (b:List UInt8) (l:List (List UInt8)) (gl:List Rp) (me gen2:Int) (up:Bool):zde ⟨cl,at_,sent,gen,b::l,gl⟩ me gen2 up=(ziP cl at_ sent gen b l gl me,[],0):=by
 show (if (readAn b).2=0/\(readAn b).1.client=me/\(readAn b).1.token=at_/\sent=true then _ else _)=_
 unfold ziP
 split <;> rfl
def zgm (cl:List Cl) (at_:Int) (sent:Bool) (gen gen2:Int) (up:Bool):Int:=if (cl.length:Int)<=at_ then 11 else if ¬ up then 10 else if sent/\gen=gen2 then 12 else 0

theorem ziX (cl:List Cl) (ka:Option Addr) (kc:Nat) (at_:Int) (sent:Bool) (gen gen2:Int) (up:Bool) (box got:Value) (w:World) (h0:0<=at_) :
  Calls Tryz.prog 118 #[.agg #[.slice ka cl.length kc,I at_,.bool sent,I gen,box,got],I gen2,.bool up] w fun e w'=>e=.returned (I (zgm cl at_ sent gen gen2 up))/\Ext w w':=by
 have EW:=zhd (Ext.refl w);have hX0:zgm cl at_ sent gen gen2 up=if (cl.length:Int)<=at_ then 11 else if ¬ up then 10 else if sent/\gen=gen2 then 12 else 0:=rfl;by_cases hat:(cl.length:Int)<=at_
 case pos =>
  rw [hX0,if_pos hat];clear hX0;go_enter Tryz.func118,Tryz.ntmps118
  go_wp2_with (with_reducible refine zT ?_)
  refine zam rfl 49 (.tmp 0) rfl #[.slice ka cl.length kc,I at_,.bool sent,I gen,box,got] rfl (fun b0 w1_ M1=>?_);have zab:=zmb M1;have c0:=zae (i:=0) zab.o rfl;have c1:=zae (i:=1) zab.o rfl;have c2:=zae (i:=2) zab.o rfl;have c3:=zae (i:=3) zab.o rfl;go_wp2
  go_ret
  replace EW:=zet EW M1;exact ⟨rfl,EW.o⟩
 rw [hX0,if_neg hat];cases up
 case false =>
  rw [if_pos (by simp)];clear hX0;go_enter Tryz.func118,Tryz.ntmps118
  go_wp2_with (with_reducible refine zT ?_)
  refine zam rfl 49 (.tmp 0) rfl #[.slice ka cl.length kc,I at_,.bool sent,I gen,box,got] rfl (fun b0 w1_ M1=>?_);have zab:=zmb M1;have c0:=zae (i:=0) zab.o rfl;have c1:=zae (i:=1) zab.o rfl;have c2:=zae (i:=2) zab.o rfl;have c3:=zae (i:=3) zab.o rfl;go_wp2
  go_ret
  replace EW:=zet EW M1;exact ⟨rfl,EW.o⟩
 rw [if_neg (by simp)];by_cases hsg:sent=true/\gen=gen2
 case pos =>
  rw [if_pos hsg];obtain ⟨rfl,rfl⟩:=hsg;clear hX0;go_enter Tryz.func118,Tryz.ntmps118
  go_wp2_with (with_reducible refine zT ?_)
  refine zam rfl 49 (.tmp 0) rfl #[.slice ka cl.length kc,I at_,.bool true,I gen,box,got] rfl (fun b0 w1_ M1=>?_);have zab:=zmb M1;have c0:=zae (i:=0) zab.o rfl;have c1:=zae (i:=1) zab.o rfl;have c2:=zae (i:=2) zab.o rfl;have c3:=zae (i:=3) zab.o rfl;go_wp2
  go_ret
  replace EW:=zet EW M1;exact ⟨rfl,EW.o⟩
 rw [if_neg hsg];clear hX0
 have hsel:(sent=false∨(sent=true/\(gen == gen2)=false)):=by
  cases sent
  ·exact .inl rfl
  ·exact .inr ⟨rfl,by simpa using hsg⟩
 clear hsg;rcases hsel with rfl | ⟨rfl,hgn⟩
 ·go_enter Tryz.func118,Tryz.ntmps118
  go_wp2_with (with_reducible refine zT ?_)
  refine zam rfl 49 (.tmp 0) rfl #[.slice ka cl.length kc,I at_,.bool false,I gen,box,got] rfl (fun b0 w1_ M1=>?_);have zab:=zmb M1;have c0:=zae (i:=0) zab.o rfl;have c1:=zae (i:=1) zab.o rfl;have c2:=zae (i:=2) zab.o rfl;have c3:=zae (i:=3) zab.o rfl;go_wp2
  go_ret
  replace EW:=zet EW M1;exact ⟨rfl,EW.o⟩
 ·go_enter Tryz.func118,Tryz.ntmps118
  go_wp2_with (with_reducible refine zT ?_)
  refine zam rfl 49 (.tmp 0) rfl #[.slice ka cl.length kc,I at_,.bool true,I gen,box,got] rfl (fun b0 w1_ M1=>?_);have zab:=zmb M1;have c0:=zae (i:=0) zab.o rfl;have c1:=zae (i:=1) zab.o rfl;have c2:=zae (i:=2) zab.o rfl;have c3:=zae (i:=3) zab.o rfl;go_wp2
  go_ret
  replace EW:=zet EW M1;exact ⟨rfl,EW.o⟩

theorem zog (cl:List Cl) (at_:Int) (sent:Bool) (gen:Int) (b:List UInt8) (l:List (List UInt8)) (gl:List Rp) (calls box:Value) (gg base:Nat) (me:Int) (w:World) (A:Nat->Prop)
  (hc:Rd A (fun w=>zaj 4 zbX w calls cl) w) (hb:Rd A (fun w=>zaj 1 zcI w box (b::l)) w) (hg:Rd A (fun w=>zaj 2 zeT w (.slice (some ⟨gg,0,none⟩) gl.length gl.length) gl) w) (ho:w.ownsRow base 38 2 (.slice (some ⟨gg,0,none⟩) gl.length gl.length) gl.length (zcj gl)) (h0:0<=at_) (h1:at_<=1000000) (hgl:gl.length<=1000) :
  za3 Tryz.prog 117 #[.agg #[calls,I at_,.bool sent,I gen,box,.slice (some ⟨gg,0,none⟩) gl.length gl.length],I me] w A (fun r w'=>Agg zcG (ziP cl at_ sent gen b l gl me) r w'):=by
 unfold za3;obtain ⟨ca,cc,rfl⟩:=zaf hc.o;have EW:=zhd (Ext.refl w);obtain ⟨B,hB⟩:=zhZ A w.heap.size 2;have HK:=zhd hB;clear hB;have HC:=zhd (hc.widen HK.o.1);have HG:=zhd (hg.widen HK.o.1);have OPg:=zhd ho;obtain ⟨xb,xo,xc,bv,rfl,hx1,hx2,hf,hrest⟩:=zk7 (hb.widen HK.o.1);have HF:=zhd hf;have HB:=zhd hrest;have HGL:=zhd hgl;unfold maxLen at hx2;clear hc hb hg hf hrest hgl ho;obtain ⟨⟨ac,at2,⟨re,rn⟩⟩,ae,hRA⟩:∃ x y,readAn b=(x,y):=⟨_,_,rfl⟩;have HRA:=zhd hRA
 have hX0:ziP cl at_ sent gen b l gl me=if ae=0/\ac=me/\at2=at_/\sent=true then ⟨cl,at_+1,false,gen,l,gl++[⟨re,rn⟩]⟩ else ⟨cl,at_,sent,gen,l,gl⟩:=by
  unfold ziP;rw [hRA]
 clear hRA;obtain ⟨RC,hR⟩:∃ x,ziP cl at_ sent gen b l gl me=x:=⟨_,rfl⟩;rw [hR];rw [hR] at hX0;have HX:=zhd hX0;clear hX0 hR;go_enter Tryz.func117,Tryz.ntmps117
 go_wp2_with (with_reducible refine zT ?_)
 refine zam rfl 49 (.tmp 0) rfl #[.slice ca cl.length cc,I at_,.bool sent,I gen,.slice (some ⟨xb,xo,none⟩) (l.length+1) xc,.slice (some ⟨gg,0,none⟩) gl.length gl.length] rfl (fun b0 w1_ M1=>?_);have zab:=zmb M1;go_wp2_with (with_reducible refine zT ?_)
 refine zac rfl 49 zC (by kernel_rfl) (fun b1 w2_ M2=>?_);have zaQ:=zld zab M2;have zad:=zmb M2;have zbD:=zA0 M1;have zbc:=znb HK zbD (by decide);have zcO:=zob zbD;have zbz:=zA1 zbD M1 M2;have zaB:=znb HK zbz (by decide);have za9:=zob zbz;replace zab:=zmo M2 zab;have c4:=zae (i:=4) zab.o rfl;replace HF:=zme M2 (zme M1 HF);have cx:=HF.o.o.1;go_wp2_with (first | (with_reducible refine zT ?_) | ((with_reducible refine zsc ?_ ?_); exact rfl))
 unfold Hid;clear c4 cx;replace HC:=zme M2 (zme M1 HC);replace HB:=zme M2 (zme M1 HB);replace HG:=zme M2 (zme M1 HG);replace OPg:=zhd (zai (zhd (zai OPg.o M1.o.ext)).o M2.o.ext);replace EW:=zet (zet EW M1) M2;refine zg4 rfl l.length (fun na nc=>Rd B (fun w=>zaj 1 zcI w (.slice na l.length nc) l) w2_) ?_ (fun na' nc' hn=>?_)
 ·by_cases hcap:xc=1
  ·have hl0:l=[]:=List.eq_nil_of_length_eq_zero (by omega);refine ⟨some ⟨xb,xo,none⟩,0,by rw [hl0]; exact Rd.all fun w=>zij w xb xo 0 (by decide),?_⟩;rw [hl0];subst hcap;go_simp
  ·exact ⟨some ⟨xb,xo+1,none⟩,xc - 1,HB.o,by go_simp; intro h; omega⟩
 replace HB:=zhd hn;clear hn hx1 hx2;go_wp2_with (with_reducible refine zT ?_)
 refine zaq rfl 31 (.tmp 15) (.tmp 14) rfl b0 4 rfl [(.slice na' l.length nc')] (rfl) zab rfl zqR rfl [.slice ca cl.length cc,I at_,.bool sent,I gen,(.slice na' l.length nc'),.slice (some ⟨gg,0,none⟩) gl.length gl.length] rfl (fun w3_ M3=>?_);replace OPg:=zhd (OPg.o.kept M3.o.grown (.inr (zaH OPg.o zab.o (by decide))));replace zab:=zwb M3;go_wp2_with fail
 replace HF:=zwr M3 HF zbc;have hl:=zep bv b w3_ HF.o.o.2;rw [HRA.o] at hl;refine Calls.exts hl (fun wa ea=>?_);clear hl;go_wp2_with (with_reducible refine zT ?_)
 refine zac rfl 118 #[I 0,I 0,I 0,I 0] (by kernel_rfl) (fun b2 w4_ M4=>?_);replace zab:=zbx zab ea;have zbt:=zld zab M4;replace zad:=zbx (zwg M3 zad zaQ) ea;have zaW:=zld zad M4;obtain ⟨B1,HB1⟩:=zEx B b2;have zbC:=zNn HB1;have zhS:=zIn HB1;replace EW:=zhd ((zwe M3 EW zcO).o.trans ea);have zcg:=zOn M4 EW;have zal:=zmb M4;go_wp2_with (with_reducible refine zT ?_)
 refine zaa rfl 118 (.tmp 6) (.tmp 19) rfl b2 rfl [I ac,I at2,I re,I rn] (rfl) zal rfl zpm rfl (fun w5_ M5=>?_);replace OPg:=zhd (zai (zhd (zai OPg.o ea)).o M4.o.ext);replace OPg:=zhd (OPg.o.kept M5.o.grown (.inr (zaH OPg.o zal.o (by decide))));replace zal:=zwb M5;replace HC:=zwr M5 (zme M4 (zmd HB1 M4 (zrx (zwr M3 HC zbc) ea))) zbC;replace HB:=zwr M5 (zme M4 (zmd HB1 M4 (zrx (zwr M3 HB zbc) ea))) zbC;replace HG:=zwr M5 (zme M4 (zmd HB1 M4 (zrx (zwr M3 HG zbc) ea))) zbC;replace HF:=zwr M5 (zme M4 (zmd HB1 M4 (zrx HF ea))) zbC;replace zbc:=znw HB1 zbc;replace zaB:=znw HB1 zaB;replace zab:=zwl M5 (zmo M4 zab) zbt;replace zad:=zwl M5 (zmo M4 zad) zaW;replace EW:=zwe M5 (zet EW M4) zcg;by_cases a1:ae=0
 case neg =>
  have hb_a1:(ae == 0)=false:=by simpa using a1
  have HA:=zhd a1;clear a1;have d0:=zae (i:=0) zal.o rfl;have d1:=zae (i:=1) zal.o rfl;have c1:=zae (i:=1) zab.o rfl;have c2:=zae (i:=2) zab.o rfl;go_wp2_with (with_reducible refine zT ?_)
  clear d0 d1 c1 c2;refine zah rfl 49 (.tmp 2) rfl b0 rfl zab zcK zcm (fun v41 H_v41=>?_);go_wp2_with (with_reducible refine zT ?_)
  refine zaa rfl 49 (.tmp 4) (.tmp 41) rfl b1 rfl _ (zcv H_v41) zad rfl zcm rfl (fun w6_ M6=>?_);replace OPg:=zhd (OPg.o.kept M6.o.grown (.inr (zaH OPg.o zad.o (by decide))));replace zad:=zwb M6;go_wp2
  have z0:=zau (P:=Tryz.prog) 49 zad.o zcK (by kernel_rfl);refine bodyPost_ret (by simp [results,Tryz.results117,asAddr,z0,Act.put]; rfl) rfl ?_;have hres:=HX.o;rw [if_neg (fun h=>HA.o h.1)] at hres;subst hres;replace HC:=zwr M6 HC zaB;replace HB:=zwr M6 HB zaB;replace HG:=zwr M6 HG zaB;replace EW:=zwe M6 EW za9;exact ⟨_,rfl,EW.o,Rd.widen (A:=B1) (zcM (zgA (c:=⟨cl,at_,sent,gen,l,gl⟩) HC.o HB.o HG.o)) (fun k _ h=>HK.o.2.2.2 k (zhS.o k h))⟩
 subst a1;by_cases a2:ac=me
 case neg =>
  have hb_a2:(ac == me)=false:=by simpa using a2
  have HA:=zhd a2;clear a2;have d0:=zae (i:=0) zal.o rfl;have d1:=zae (i:=1) zal.o rfl;have c1:=zae (i:=1) zab.o rfl;have c2:=zae (i:=2) zab.o rfl;go_wp2_with (with_reducible refine zT ?_)
  clear d0 d1 c1 c2;refine zah rfl 49 (.tmp 2) rfl b0 rfl zab zcK zcm (fun v41 H_v41=>?_);go_wp2_with (with_reducible refine zT ?_)
  refine zaa rfl 49 (.tmp 4) (.tmp 41) rfl b1 rfl _ (zcv H_v41) zad rfl zcm rfl (fun w6_ M6=>?_);replace OPg:=zhd (OPg.o.kept M6.o.grown (.inr (zaH OPg.o zad.o (by decide))));replace zad:=zwb M6;go_wp2
  have z0:=zau (P:=Tryz.prog) 49 zad.o zcK (by kernel_rfl);refine bodyPost_ret (by simp [results,Tryz.results117,asAddr,z0,Act.put]; rfl) rfl ?_;have hres:=HX.o;rw [if_neg (fun h=>HA.o h.2.1)] at hres;subst hres;replace HC:=zwr M6 HC zaB;replace HB:=zwr M6 HB zaB;replace HG:=zwr M6 HG zaB;replace EW:=zwe M6 EW za9;exact ⟨_,rfl,EW.o,Rd.widen (A:=B1) (zcM (zgA (c:=⟨cl,at_,sent,gen,l,gl⟩) HC.o HB.o HG.o)) (fun k _ h=>HK.o.2.2.2 k (zhS.o k h))⟩
 subst a2;by_cases a3:at2=at_
 case neg =>
  have hb_a3:(at2 == at_)=false:=by simpa using a3
  have HA:=zhd a3;clear a3;have d0:=zae (i:=0) zal.o rfl;have d1:=zae (i:=1) zal.o rfl;have c1:=zae (i:=1) zab.o rfl;have c2:=zae (i:=2) zab.o rfl;go_wp2_with (with_reducible refine zT ?_)
  clear d0 d1 c1 c2;refine zah rfl 49 (.tmp 2) rfl b0 rfl zab zcK zcm (fun v41 H_v41=>?_);go_wp2_with (with_reducible refine zT ?_)
  refine zaa rfl 49 (.tmp 4) (.tmp 41) rfl b1 rfl _ (zcv H_v41) zad rfl zcm rfl (fun w6_ M6=>?_);replace OPg:=zhd (OPg.o.kept M6.o.grown (.inr (zaH OPg.o zad.o (by decide))));replace zad:=zwb M6;go_wp2
  have z0:=zau (P:=Tryz.prog) 49 zad.o zcK (by kernel_rfl);refine bodyPost_ret (by simp [results,Tryz.results117,asAddr,z0,Act.put]; rfl) rfl ?_;have hres:=HX.o;rw [if_neg (fun h=>HA.o h.2.2.1)] at hres;subst hres;replace HC:=zwr M6 HC zaB;replace HB:=zwr M6 HB zaB;replace HG:=zwr M6 HG zaB;replace EW:=zwe M6 EW za9;exact ⟨_,rfl,EW.o,Rd.widen (A:=B1) (zcM (zgA (c:=⟨cl,at_,sent,gen,l,gl⟩) HC.o HB.o HG.o)) (fun k _ h=>HK.o.2.2.2 k (zhS.o k h))⟩
 replace a3:=a3.symm;subst a3;cases sent
 case false =>
  have d0:=zae (i:=0) zal.o rfl;have d1:=zae (i:=1) zal.o rfl;have c1:=zae (i:=1) zab.o rfl;have c2:=zae (i:=2) zab.o rfl;go_wp2_with (with_reducible refine zT ?_)
  clear d0 d1 c1 c2;refine zah rfl 49 (.tmp 2) rfl b0 rfl zab zcK zcm (fun v41 H_v41=>?_);go_wp2_with (with_reducible refine zT ?_)
  refine zaa rfl 49 (.tmp 4) (.tmp 41) rfl b1 rfl _ (zcv H_v41) zad rfl zcm rfl (fun w6_ M6=>?_);replace OPg:=zhd (OPg.o.kept M6.o.grown (.inr (zaH OPg.o zad.o (by decide))));replace zad:=zwb M6;go_wp2
  have z0:=zau (P:=Tryz.prog) 49 zad.o zcK (by kernel_rfl);refine bodyPost_ret (by simp [results,Tryz.results117,asAddr,z0,Act.put]; rfl) rfl ?_;have hres:=HX.o;rw [if_neg (fun h=>by cases h.2.2.2)] at hres;subst hres;replace HC:=zwr M6 HC zaB;replace HB:=zwr M6 HB zaB;replace HG:=zwr M6 HG zaB;replace EW:=zwe M6 EW za9;exact ⟨_,rfl,EW.o,Rd.widen (A:=B1) (zcM (zgA (c:=⟨cl,at_,false,gen,l,gl⟩) HC.o HB.o HG.o)) (fun k _ h=>HK.o.2.2.2 k (zhS.o k h))⟩
 have d0:=zae (i:=0) zal.o rfl;have d1:=zae (i:=1) zal.o rfl;have c1:=zae (i:=1) zab.o rfl;have c2:=zae (i:=2) zab.o rfl;have x5:=zae (i:=5) zab.o rfl;have y2:=zae (i:=2) zal.o rfl;have y3:=zae (i:=3) zal.o rfl;go_wp2_with (with_reducible refine zT ?_)
 unfold Hid;clear d0 d1 c1 c2 x5 y2 y3;obtain ⟨i0,hi,hz0,hz1,hz2⟩:=info_parts Tryz.infoRp;have HI:=zhd hi;clear hi;refine zbe rfl 38 1 #[I re,I rn] (by kernel_rfl) (fun b3 w6_ M6=>?_);obtain ⟨B11,HB11⟩:=zEx B1 b3;have zsf:=zIn HB11;have zaN:=zmb M6;go_wp2_with (first | (at_builtin; refine zb7 ?_) | (with_reducible refine zT ?_))
 unfold Hid;replace OPg:=zhd (zai OPg.o M6.o.ext);refine zgS rfl (.tmp 43) (.tmp 46) 47 rfl base 38 i0 (.agg #[.int .i64 0,.int .i64 0]) 2 16 zuJ HI.o hz0 hz1 hz2 rfl (by decide) _ gl.length (zcj gl) rfl ⟨gg,rfl,OPg.o⟩ (.slice (some ⟨b3,0,none⟩) 1 1) rfl 1 (zcj [⟨re,rn⟩]) (Row.of_owns (zbB (base:=0) (size:=2) M6.o (Nat.zero_le _) rfl (by decide))) (by have:=HGL.o; omega) (by decide) (by decide) ?_;intro v47 w9 ho9 e9;have hro:Rd (fun k=>w6_.heap.size<=k) (fun w=>zaj 2 zeT w v47 (gl++[⟨re,rn⟩])) w9:=zhQ (by rw [zjZ]; exact ho9);obtain ⟨qa,qc,hqs⟩:=zaf hro.o;rw [show (gl++[(⟨re,rn⟩:Rp)]).length=gl.length+1 by simp] at hqs;subst hqs;replace zad:=zmo M6 zad;have hsz:w.heap.size+2<=w6_.heap.size:=by have q:=(zlt zad); have q2:=zbz.o; omega
 replace zal:=zmo M6 zal;have hsz2:b2 < w6_.heap.size:=(zlt zal);have hsz3:b3 < w6_.heap.size:=(zlt zaN);have HRO:=zhd (hro.widen (B:=B11) (fun k _ h=>(HB11.o k).2 ⟨(HB1.o k).2 ⟨HK.o.2.1 k (by omega),by omega⟩,by omega⟩));clear hro ho9 hsz hsz2 hsz3;replace HC:=zrx (zme M6 (zmd HB11 M6 HC)) e9;replace HB:=zrx (zme M6 (zmd HB11 M6 HB)) e9;replace HG:=zrx (zme M6 (zmd HB11 M6 HG)) e9;replace HF:=zrx (zme M6 (zmd HB11 M6 HF)) e9;replace zab:=zbx (zmo M6 zab) e9;replace EW:=zhd ((zet EW M6).o.trans e9);replace zad:=zbx zad e9;replace zal:=zbx zal e9;replace zaN:=zbx zaN e9;replace OPg:=zhd (zai OPg.o e9);clear e9;go_wp2_with (with_reducible refine zT ?_)
 refine zaq rfl 47 (.tmp 48) (.tmp 47) rfl b0 5 rfl [.slice qa (gl.length+1) qc] (rfl) zab rfl zvj rfl [.slice ca cl.length cc,I at_,.bool true,I gen,(.slice na' l.length nc'),.slice qa (gl.length+1) qc] rfl (fun w7_ M7=>?_);replace OPg:=zhd (OPg.o.kept M7.o.grown (.inr (zaH OPg.o zab.o (by decide))));replace zab:=zwb M7;replace zbc:=znw HB11 zbc;have c1:=zae (i:=1) zab.o rfl;go_wp2_with (with_reducible refine zT ?_)
 clear c1;refine zaq rfl 3 (.tmp 52) (.tmp 51) rfl b0 1 rfl [I (at_+1)] (rfl) zab rfl zi3 rfl [.slice ca cl.length cc,I (at_+1),.bool true,I gen,(.slice na' l.length nc'),.slice qa (gl.length+1) qc] rfl (fun w8_ M8=>?_);replace OPg:=zhd (OPg.o.kept M8.o.grown (.inr (zaH OPg.o zab.o (by decide))));replace zab:=zwb M8;go_wp2_with (with_reducible refine zT ?_)
 refine zaq rfl 4 (.tmp 53) (.const (.bool false)) rfl b0 2 rfl [.bool false] (rfl) zab rfl zi4 rfl [.slice ca cl.length cc,I (at_+1),.bool false,I gen,(.slice na' l.length nc'),.slice qa (gl.length+1) qc] rfl (fun w9_ M9=>?_);replace OPg:=zhd (OPg.o.kept M9.o.grown (.inr (zaH OPg.o zab.o (by decide))));replace zab:=zwb M9;go_wp2_with (with_reducible refine zT ?_)
 refine zah rfl 49 (.tmp 2) rfl b0 rfl zab zcK zcm (fun v54 H_v54=>?_);go_wp2_with (with_reducible refine zT ?_)
 replace zad:=zwg M9 (zwg M8 (zwg M7 zad zaQ) zaQ) zaQ;refine zaa rfl 49 (.tmp 4) (.tmp 54) rfl b1 rfl _ (zcv H_v54) zad rfl zcm rfl (fun w10_ M10=>?_);replace OPg:=zhd (OPg.o.kept M10.o.grown (.inr (zaH OPg.o zad.o (by decide))));replace zad:=zwb M10;replace zaB:=znw HB11 zaB;go_wp2
 have z0:=zau (P:=Tryz.prog) 49 zad.o zcK (by kernel_rfl);refine bodyPost_ret (by simp [results,Tryz.results117,asAddr,z0,Act.put]; rfl) rfl ?_;have hres:=HX.o;rw [if_pos (by simp)] at hres;subst hres;replace HC:=zwr M10 (zwr M9 (zwr M8 (zwr M7 HC zbc) zbc) zbc) zaB;replace HB:=zwr M10 (zwr M9 (zwr M8 (zwr M7 HB zbc) zbc) zbc) zaB;replace HRO:=zwr M10 (zwr M9 (zwr M8 (zwr M7 HRO zbc) zbc) zbc) zaB;replace EW:=zwe M10 (zwe M9 (zwe M8 (zwe M7 EW zcO) zcO) zcO) za9;exact ⟨_,rfl,EW.o,Rd.widen (A:=B11) (zcM (zgA (c:=⟨cl,(at_+1),false,gen,l,(gl++[⟨re,rn⟩])⟩) HC.o HB.o HRO.o)) (fun k _ h=>HK.o.2.2.2 k (zhS.o k (zsf.o k h)))⟩

open Go.RowKit Go.Mk

theorem zsE (cl:List Cl) (at_:Int) (sent:Bool) (gen:Int) (b:List UInt8) (l:List (List UInt8)) (gl:List Rp) (calls box got:Value) (me gen2:Int) (up:Bool) (w:World) (A:Nat->Prop) (hc:Rd A (fun w=>zaj 4 zbX w calls cl) w) (hb:Rd A (fun w=>zaj 1 zcI w box (b::l)) w) (hg:Rd A (fun w=>zaj 2 zeT w got gl) w) (hgd:GoodC ⟨cl,at_,sent,gen,(b::l),gl⟩) :
  za3 Tryz.prog 100 #[.agg #[calls,I at_,.bool sent,I gen,box,got],I me,I gen2,.bool up] w A (fun r w'=>zpA zcG (zde ⟨cl,at_,sent,gen,(b::l),gl⟩ me gen2 up).1 (zde ⟨cl,at_,sent,gen,(b::l),gl⟩ me gen2 up).2.1 (zde ⟨cl,at_,sent,gen,(b::l),gl⟩ me gen2 up).2.2 r w'):=by
 unfold za3;have HS:=zhd hgd.small;have h0:0<=at_:=hgd.at0;have h1:at_<=900:=hgd.at1;have hgl:gl.length<=900:=hgd.got;have HGL:=zhd hgl;clear hgd hgl;obtain ⟨xa,xc,hbx⟩:=zaf hb.o;replace hbx:box=.slice xa (l.length+1) xc:=hbx;subst hbx;obtain ⟨ka,kc,rfl⟩:=zaf hc.o;obtain ⟨ga,gc,rfl⟩:=zaf hg.o;have H1:=zhd hc.o;have H2:=zhd hb.o;have H3:=zhd hg.o;clear hb hc hg;have EW:=zhd (Ext.refl w);obtain ⟨B,hB⟩:=zhZ A w.heap.size 2;have HK:=zhd hB;clear hB;obtain ⟨c',hc'⟩:∃ c',ziP cl at_ sent gen b l gl me=c':=⟨_,rfl⟩;rw [zs6,hc'];have HC':=zhd hc';clear hc';obtain ⟨cl',at',sent',gen',bl',gl'⟩:=c';go_enter Tryz.func100,Tryz.ntmps100
 go_wp2_with (with_reducible refine zT ?_)
 refine zam rfl 49 (.tmp 0) rfl #[.slice ka cl.length kc,I at_,.bool sent,I gen,.slice xa (l.length+1) xc,.slice ga gl.length gc] rfl (fun b0 w1_ M1=>?_);have zab:=zmb M1;go_wp2_with (with_reducible refine zT ?_)
 refine zac rfl 49 zC (by kernel_rfl) (fun b1 w2_ M2=>?_);have zad:=zmb M2;have zbD:=zA0 M1;have zbz:=zA1 zbD M1 M2;have zaB:=znb HK zbz (by decide);have za9:=zob zbz;go_wp2_with (with_reducible refine zT ?_)
 replace zab:=zmo M2 zab;refine zah rfl 49 (.tmp 4) rfl b0 rfl zab zcK zcm (fun v14 H_v14=>?_);go_wp2_with fail
 rw [show _=Value.agg #[.slice ka cl.length kc,I at_,.bool sent,I gen,.slice xa (l.length+1) xc,.slice ga gl.length gc] from H_v14.o];clear H_v14;have hin:∀ k,w2_.heap.size<=k->B k:=fun k h=>HK.o.2.1 k (by have q:=(zlt zad); have q2:=zbz.o; omega);replace EW:=zet (zet EW M1) M2;refine (zcB ⟨cl,at_,sent,gen,(b::l),gl⟩ _ _ _ w2_ (H1.o.ext zbl EW.o) (H2.o.ext zdK EW.o) (H3.o.ext zf9 EW.o) HS.o).to fun r wo eo hr=>?_;obtain ⟨kg,xg,gg,er,ho⟩:=hr;replace er:r=.agg #[.slice (some ⟨kg,0,none⟩) cl.length cl.length,I at_,.bool sent,I gen,.slice (some ⟨xg,0,none⟩) (l.length+1) (l.length+1),.slice (some ⟨gg,0,none⟩) gl.length gl.length]:=er;subst er;have HC:Hid (Rd B (fun w=>zaj 4 zbX w (.slice (some ⟨kg,0,none⟩) cl.length cl.length) cl) wo):=zhd ((zfV ho.calls).widen fun k _ h=>hin k h);have HB:Hid (Rd B (fun w=>zaj 1 zcI w (.slice (some ⟨xg,0,none⟩) (l.length+1) (l.length+1)) (b::l)) wo):=zhd (ho.box.rd fun k h _=>hin k h);have HG:Hid (Rd B (fun w=>zaj 2 zeT w (.slice (some ⟨gg,0,none⟩) gl.length gl.length) gl) wo):=zhd ((zhQ ho.got).widen fun k _ h=>hin k h);have OPg:Hid (wo.ownsRow w2_.heap.size 38 2 (.slice (some ⟨gg,0,none⟩) gl.length gl.length) gl.length (zcj gl)):=zhd ho.got;clear ho hin;replace zab:=zbx zab eo;replace zad:=zbx zad eo;replace EW:=zhd (EW.o.trans eo);clear eo;go_wp2_with (with_reducible refine zT ?_)
 refine zac rfl 49 zC (by kernel_rfl) (fun b3 w3_ M3=>?_);have zb1:=zld zab M3;have zbK:=zld zad M3;obtain ⟨B1,HB1⟩:=zEx B b3;have zb0:=zNn HB1;have zhS:=zIn HB1;have zeo:=zOn M3 EW;have zaN:=zmb M3;go_wp2_with (with_reducible refine zT ?_)
 refine zaa rfl 49 (.tmp 11) (.tmp 15) rfl b3 rfl [.slice (some ⟨kg,0,none⟩) cl.length cl.length,I at_,.bool sent,I gen,.slice (some ⟨xg,0,none⟩) (l.length+1) (l.length+1),.slice (some ⟨gg,0,none⟩) gl.length gl.length] (rfl) zaN rfl zcm rfl (fun w4_ M4=>?_);replace OPg:=zhd (zai OPg.o M3.o.ext);replace OPg:=zhd (OPg.o.kept M4.o.grown (.inr (zaH OPg.o zaN.o (by decide))));replace zaN:=zwb M4;replace zab:=zwl M4 (zmo M3 zab) zb1;have c4:=zae (i:=4) zab.o rfl;go_wp2_with (with_reducible refine zT ?_)
 clear c4;refine zah rfl 49 (.tmp 11) rfl b3 rfl zaN zcK zcm (fun v20 H_v20=>?_);go_wp2_with fail
 rw [show _=Value.agg #[.slice (some ⟨kg,0,none⟩) cl.length cl.length,I at_,.bool sent,I gen,.slice (some ⟨xg,0,none⟩) (l.length+1) (l.length+1),.slice (some ⟨gg,0,none⟩) gl.length gl.length] from H_v20.o];clear H_v20;replace HC:=zwr M4 (zme M3 (zmd HB1 M3 HC)) zb0;replace HB:=zwr M4 (zme M3 (zmd HB1 M3 HB)) zb0;replace HG:=zwr M4 (zme M3 (zmd HB1 M3 HG)) zb0;refine (zog cl at_ sent gen b l gl _ _ gg w2_.heap.size me w4_ B1 HC.o HB.o HG.o OPg.o h0 (by omega) (by have:=HGL.o; omega)).to fun r wh eh hr=>?_;rw [HC'.o] at hr;obtain ⟨cs,rfl,hcs⟩:=zcb hr;obtain ⟨x1,x2,x3,rfl,r1,r2,r3⟩:=zd2 hcs;obtain ⟨ya,yc,rfl⟩:=zaf r1.o;obtain ⟨za,zc,rfl⟩:=zaf r2.o;obtain ⟨ta,tc,rfl⟩:=zaf r3.o;replace zad:=zwl M4 (zmo M3 zad) zbK
 have hin2:∀ k,k < wh.heap.size->(B1 k∨w4_.heap.size<=k)->B1 k:=fun k _ h=>by
  rcases h with h | h
  ·exact h
  ·have q:=(zlt zad);have q2:=zbz.o;have q3:=(zlt zaN);exact (HB1.o k).2 ⟨HK.o.2.1 k (by omega),by omega⟩
 have R1:=zhd (r1.widen hin2);have R2:=zhd (r2.widen hin2);have R3:=zhd (r3.widen hin2);clear hr hcs r1 r2 r3 hin2;replace EW:=zhd ((zwe M4 (zet EW M3) zeo).o.trans eh);replace zab:=zbx zab eh;replace zad:=zbx zad eh;replace zaN:=zbx zaN eh;replace HC:=zrx HC eh;replace HB:=zrx HB eh;replace HG:=zrx HG eh;replace OPg:=zhd (zai OPg.o eh);clear eh;go_wp2_with (with_reducible refine zT ?_)
 refine zaa rfl 49 (.tmp 8) (.tmp 22) rfl b1 rfl [(.slice ya cl'.length yc),I at',.bool sent',I gen',(.slice za bl'.length zc),(.slice ta gl'.length tc)] (rfl) zad rfl zcm rfl (fun w5_ M5=>?_);replace zad:=zwb M5;replace zaB:=znw HB1 zaB;go_wp2
 have z0:=zau (P:=Tryz.prog) 49 zad.o zcK (by kernel_rfl);refine bodyPost_ret (by simp [results,Tryz.results100,asAddr,z0]; rfl) rfl ?_;replace R1:=zwr M5 R1 zaB;replace R2:=zwr M5 R2 zaB;replace R3:=zwr M5 R3 zaB;replace EW:=zwe M5 EW za9;exact ⟨_,rfl,EW.o,Rd.widen (A:=B1) (zlh (zgA (c:=⟨cl',at',sent',gen',bl',gl'⟩) R1.o R2.o R3.o) (Rd.all fun w=>zdl w)) (fun k _ h=>HK.o.2.2.2 k (zhS.o k h))⟩

theorem zrH (cl:List Cl) (at_:Int) (sent:Bool) (gen:Int) (gl:List Rp) (calls box got:Value) (me gen2:Int) (up:Bool) (w:World) (A:Nat->Prop) (hc:Rd A (fun w=>zaj 4 zbX w calls cl) w) (hb:Rd A (fun w=>zaj 1 zcI w box []) w) (hg:Rd A (fun w=>zaj 2 zeT w got gl) w) (hgd:GoodC ⟨cl,at_,sent,gen,[],gl⟩) :
  za3 Tryz.prog 100 #[.agg #[calls,I at_,.bool sent,I gen,box,got],I me,I gen2,.bool up] w A (fun r w'=>zpA zcG (zde ⟨cl,at_,sent,gen,[],gl⟩ me gen2 up).1 (zde ⟨cl,at_,sent,gen,[],gl⟩ me gen2 up).2.1 (zde ⟨cl,at_,sent,gen,[],gl⟩ me gen2 up).2.2 r w'):=by
 unfold za3;have HS:=zhd hgd.small;have h0:0<=at_:=hgd.at0;have h1:at_<=900:=hgd.at1;have hgl:gl.length<=900:=hgd.got;have HGL:=zhd hgl;clear hgd hgl;obtain ⟨xa,xc,hbx⟩:=zaf hb.o;replace hbx:box=.slice xa 0 xc:=hbx;subst hbx;obtain ⟨ka,kc,rfl⟩:=zaf hc.o;obtain ⟨ga,gc,rfl⟩:=zaf hg.o;have H1:=zhd hc.o;have H2:=zhd hb.o;have H3:=zhd hg.o;clear hb hc hg;have EW:=zhd (Ext.refl w);obtain ⟨B,hB⟩:=zhZ A w.heap.size 2;have HK:=zhd hB;clear hB;have hX0:zde ⟨cl,at_,sent,gen,[],gl⟩ me gen2 up=if (cl.length:Int)<=at_ then (⟨cl,at_,sent,gen,[],gl⟩,[],11) else if ¬ up then (⟨cl,at_,sent,gen,[],gl⟩,[],10) else if sent/\gen=gen2 then (⟨cl,at_,sent,gen,[],gl⟩,[],12) else (⟨cl,at_,true,gen2,[],gl⟩,zbv ⟨me,at_,cl.getD at_.toNat ⟨0,0,0,0⟩⟩,0):=rfl;obtain ⟨E,hE⟩:∃ e,zgm cl at_ sent gen gen2 up=e:=⟨_,rfl⟩;have HE:=zhd hE;by_cases hz:E=0
 case neg =>
  have hX:zde ⟨cl,at_,sent,gen,[],gl⟩ me gen2 up=(⟨cl,at_,sent,gen,[],gl⟩,[],E):=by
   rw [hX0,<- hE];unfold zgm at hE ⊢;repeat' split
   all_goals first | rfl | (exfalso; simp_all)
  rw [hX];have hEb:(E == 0)=false:=by simpa using hz
  clear hX hX0 hE hz;go_enter Tryz.func100,Tryz.ntmps100
  go_wp2_with (with_reducible refine zT ?_)
  refine zam rfl 49 (.tmp 0) rfl #[.slice ka cl.length kc,I at_,.bool sent,I gen,.slice xa 0 xc,.slice ga gl.length gc] rfl (fun b0 w1_ M1=>?_);have zab:=zmb M1;go_wp2_with (with_reducible refine zT ?_)
  refine zac rfl 49 zC (by kernel_rfl) (fun b1 w2_ M2=>?_);have zad:=zmb M2;have zbD:=zA0 M1;have zbz:=zA1 zbD M1 M2;have zaB:=znb HK zbz (by decide);have za9:=zob zbz;go_wp2_with (with_reducible refine zT ?_)
  replace zab:=zmo M2 zab;refine zah rfl 49 (.tmp 4) rfl b0 rfl zab zcK zcm (fun v14 H_v14=>?_);go_wp2_with fail
  rw [show _=Value.agg #[.slice ka cl.length kc,I at_,.bool sent,I gen,.slice xa 0 xc,.slice ga gl.length gc] from H_v14.o];clear H_v14;have hin:∀ k,w2_.heap.size<=k->B k:=fun k h=>HK.o.2.1 k (by have q:=(zlt zad); have q2:=zbz.o; omega);replace EW:=zet (zet EW M1) M2;refine (zcB ⟨cl,at_,sent,gen,[],gl⟩ _ _ _ w2_ (H1.o.ext zbl EW.o) (H2.o.ext zdK EW.o) (H3.o.ext zf9 EW.o) HS.o).to fun r wo eo hr=>?_;obtain ⟨kg,xg,gg,er,ho⟩:=hr;replace er:r=.agg #[.slice (some ⟨kg,0,none⟩) cl.length cl.length,I at_,.bool sent,I gen,.slice (some ⟨xg,0,none⟩) 0 0,.slice (some ⟨gg,0,none⟩) gl.length gl.length]:=er;subst er;have HC:Hid (Rd B (fun w=>zaj 4 zbX w (.slice (some ⟨kg,0,none⟩) cl.length cl.length) cl) wo):=zhd ((zfV ho.calls).widen fun k _ h=>hin k h);have HB:Hid (Rd B (fun w=>zaj 1 zcI w (.slice (some ⟨xg,0,none⟩) 0 0) []) wo):=zhd (ho.box.rd fun k h _=>hin k h);have HG:Hid (Rd B (fun w=>zaj 2 zeT w (.slice (some ⟨gg,0,none⟩) gl.length gl.length) gl) wo):=zhd ((zhQ ho.got).widen fun k _ h=>hin k h);have OPg:Hid (wo.ownsRow w2_.heap.size 38 2 (.slice (some ⟨gg,0,none⟩) gl.length gl.length) gl.length (zcj gl)):=zhd ho.got;clear ho hin;replace zab:=zbx zab eo;replace zad:=zbx zad eo;replace EW:=zhd (EW.o.trans eo);clear eo;go_wp2_with (with_reducible refine zT ?_)
  refine zac rfl 49 zC (by kernel_rfl) (fun b3 w3_ M3=>?_);have zb1:=zld zab M3;have zbK:=zld zad M3;obtain ⟨B1,HB1⟩:=zEx B b3;have zb0:=zNn HB1;have zhS:=zIn HB1;have zeo:=zOn M3 EW;have zaN:=zmb M3;go_wp2_with (with_reducible refine zT ?_)
  refine zaa rfl 49 (.tmp 11) (.tmp 15) rfl b3 rfl [.slice (some ⟨kg,0,none⟩) cl.length cl.length,I at_,.bool sent,I gen,.slice (some ⟨xg,0,none⟩) 0 0,.slice (some ⟨gg,0,none⟩) gl.length gl.length] (rfl) zaN rfl zcm rfl (fun w4_ M4=>?_);replace OPg:=zhd (zai OPg.o M3.o.ext);replace OPg:=zhd (OPg.o.kept M4.o.grown (.inr (zaH OPg.o zaN.o (by decide))));replace zaN:=zwb M4;replace zab:=zwl M4 (zmo M3 zab) zb1;have c4:=zae (i:=4) zab.o rfl;go_wp2_with (with_reducible refine zT ?_)
  clear c4;refine zah rfl 49 (.tmp 4) rfl b0 rfl zab zcK zcm (fun v23 H_v23=>?_);go_wp2_with fail
  rw [show _=Value.agg #[.slice ka cl.length kc,I at_,.bool sent,I gen,.slice xa 0 xc,.slice ga gl.length gc] from H_v23.o];clear H_v23;have hl:=ziX cl ka kc at_ sent gen gen2 up (.slice xa 0 xc) (.slice ga gl.length gc) w4_ h0;rw [HE.o] at hl;refine Calls.exts hl (fun ws es=>?_);clear hl;replace HC:=zrx (zwr M4 (zme M3 (zmd HB1 M3 HC)) zb0) es;replace HB:=zrx (zwr M4 (zme M3 (zmd HB1 M3 HB)) zb0) es;replace HG:=zrx (zwr M4 (zme M3 (zmd HB1 M3 HG)) zb0) es;replace zad:=zbx (zwl M4 (zmo M3 zad) zbK) es;replace EW:=zhd ((zwe M4 (zet EW M3) zeo).o.trans es);replace zab:=zbx zab es;replace zaN:=zbx zaN es;replace OPg:=zhd (zai OPg.o es);clear es;go_wp2_with (with_reducible refine zT ?_)
  clear hEb;refine zah rfl 49 (.tmp 11) rfl b3 rfl zaN zcK zcm (fun v29 H_v29=>?_);go_wp2_with (with_reducible refine zT ?_)
  refine zaa rfl 49 (.tmp 8) (.tmp 29) rfl b1 rfl _ (zcv H_v29) zad rfl zcm rfl (fun w5_ M5=>?_);replace OPg:=zhd (OPg.o.kept M5.o.grown (.inr (zaH OPg.o zad.o (by decide))));replace zad:=zwb M5;replace zaB:=znw HB1 zaB;go_wp2
  have z0:=zau (P:=Tryz.prog) 49 zad.o zcK (by kernel_rfl);refine bodyPost_ret (by simp [results,Tryz.results100,asAddr,z0]; rfl) rfl ?_;replace HC:=zwr M5 HC zaB;replace HB:=zwr M5 HB zaB;replace HG:=zwr M5 HG zaB;replace EW:=zwe M5 EW za9;exact ⟨_,rfl,EW.o,Rd.widen (A:=B1) (zlh (zgA (c:=⟨cl,at_,sent,gen,[],gl⟩) HC.o HB.o HG.o) (Rd.all fun w=>zdl w)) (fun k _ h=>HK.o.2.2.2 k (zhS.o k h))⟩
 subst hz
 have hlt:at_ < (cl.length:Int):=by
  unfold zgm at hE;by_cases h:(cl.length:Int)<=at_
  ·rw [if_pos h] at hE; cases hE
  ·omega
 have hX:zde ⟨cl,at_,sent,gen,[],gl⟩ me gen2 up=(⟨cl,at_,true,gen2,[],gl⟩,zbv ⟨me,at_,cl.getD at_.toNat ⟨0,0,0,0⟩⟩,0):=by
  rw [hX0];unfold zgm at hE;by_cases h1:(cl.length:Int)<=at_
  ·omega
  rw [if_neg h1] at hE ⊢;by_cases h2:¬ up
  ·rw [if_pos h2] at hE; cases hE
  rw [if_neg h2] at hE ⊢;by_cases h3:sent/\gen=gen2
  ·rw [if_pos h3] at hE; cases hE
  rw [if_neg h3]
 rw [hX];clear hX hX0 hE;obtain ⟨cx,hcx⟩:∃ x,cl[at_.toNat]?=some x:=⟨_,List.getElem?_eq_getElem (by omega)⟩;have hgd:cl.getD at_.toNat ⟨0,0,0,0⟩=cx:=by simp [hcx]
 rw [hgd];clear hgd;obtain ⟨ao,cap,e1,-,-,-,hform⟩:=H1.o.form (by decide);simp only [Value.slice.injEq,true_and] at e1;obtain ⟨rfl,rfl⟩:=e1;obtain ⟨xk,xa2,xo,xn⟩:=cx;obtain ⟨cb,co,c4,rfl,-,hc4,hcell⟩:=hform _ _ hcx;have hc4:c4=[I xk,I xa2,I xo,I xn]:=hc4;subst hc4;have HCELL:=zhd hcell;clear hcell hform hcx;obtain ⟨j,rfl⟩:∃ j:Nat,at_=(j:Int):=⟨at_.toNat,by omega⟩;simp only [Int.toNat_natCast] at HCELL;go_enter Tryz.func100,Tryz.ntmps100
 go_wp2_with (with_reducible refine zT ?_)
 refine zam rfl 49 (.tmp 0) rfl #[.slice (some ⟨cb,co,none⟩) cl.length kc,I j,.bool sent,I gen,.slice xa 0 xc,.slice ga gl.length gc] rfl (fun b0 w1_ M1=>?_);have zab:=zmb M1;go_wp2_with (with_reducible refine zT ?_)
 refine zac rfl 49 zC (by kernel_rfl) (fun b1 w2_ M2=>?_);have zad:=zmb M2;have zbD:=zA0 M1;have zbc:=znb HK zbD (by decide);have zbz:=zA1 zbD M1 M2;have zaB:=znb HK zbz (by decide);have za9:=zob zbz;go_wp2_with (with_reducible refine zT ?_)
 replace zab:=zmo M2 zab;refine zah rfl 49 (.tmp 4) rfl b0 rfl zab zcK zcm (fun v14 H_v14=>?_);go_wp2_with fail
 rw [show _=Value.agg #[.slice (some ⟨cb,co,none⟩) cl.length kc,I j,.bool sent,I gen,.slice xa 0 xc,.slice ga gl.length gc] from H_v14.o];clear H_v14;have hin:∀ k,w2_.heap.size<=k->B k:=fun k h=>HK.o.2.1 k (by have q:=(zlt zad); have q2:=zbz.o; omega);replace EW:=zet (zet EW M1) M2;refine (zcB ⟨cl,j,sent,gen,[],gl⟩ _ _ _ w2_ (H1.o.ext zbl EW.o) (H2.o.ext zdK EW.o) (H3.o.ext zf9 EW.o) HS.o).to fun r wo eo hr=>?_;obtain ⟨kg,xg,gg,er,ho⟩:=hr;replace er:r=.agg #[.slice (some ⟨kg,0,none⟩) cl.length cl.length,I j,.bool sent,I gen,.slice (some ⟨xg,0,none⟩) 0 0,.slice (some ⟨gg,0,none⟩) gl.length gl.length]:=er;subst er;have HC:Hid (Rd B (fun w=>zaj 4 zbX w (.slice (some ⟨kg,0,none⟩) cl.length cl.length) cl) wo):=zhd ((zfV ho.calls).widen fun k _ h=>hin k h);have HB:Hid (Rd B (fun w=>zaj 1 zcI w (.slice (some ⟨xg,0,none⟩) 0 0) []) wo):=zhd (ho.box.rd fun k h _=>hin k h);have HG:Hid (Rd B (fun w=>zaj 2 zeT w (.slice (some ⟨gg,0,none⟩) gl.length gl.length) gl) wo):=zhd ((zhQ ho.got).widen fun k _ h=>hin k h);have OPg:Hid (wo.ownsRow w2_.heap.size 38 2 (.slice (some ⟨gg,0,none⟩) gl.length gl.length) gl.length (zcj gl)):=zhd ho.got;clear ho hin;replace zab:=zbx zab eo;replace zad:=zbx zad eo;replace EW:=zhd (EW.o.trans eo);clear eo;go_wp2_with (with_reducible refine zT ?_)
 refine zac rfl 49 zC (by kernel_rfl) (fun b3 w3_ M3=>?_);have zb1:=zld zab M3;have zbK:=zld zad M3;obtain ⟨B1,HB1⟩:=zEx B b3;have zb0:=zNn HB1;have zhS:=zIn HB1;have zeo:=zOn M3 EW;have zaN:=zmb M3;go_wp2_with (with_reducible refine zT ?_)
 refine zaa rfl 49 (.tmp 11) (.tmp 15) rfl b3 rfl [.slice (some ⟨kg,0,none⟩) cl.length cl.length,I j,.bool sent,I gen,.slice (some ⟨xg,0,none⟩) 0 0,.slice (some ⟨gg,0,none⟩) gl.length gl.length] (rfl) zaN rfl zcm rfl (fun w4_ M4=>?_);replace OPg:=zhd (zai OPg.o M3.o.ext);replace OPg:=zhd (OPg.o.kept M4.o.grown (.inr (zaH OPg.o zaN.o (by decide))));replace zaN:=zwb M4;replace zab:=zwl M4 (zmo M3 zab) zb1;have c4:=zae (i:=4) zab.o rfl;go_wp2_with (with_reducible refine zT ?_)
 clear c4;refine zah rfl 49 (.tmp 4) rfl b0 rfl zab zcK zcm (fun v23 H_v23=>?_);go_wp2_with fail
 rw [show _=Value.agg #[.slice (some ⟨cb,co,none⟩) cl.length kc,I j,.bool sent,I gen,.slice xa 0 xc,.slice ga gl.length gc] from H_v23.o];clear H_v23;have hl:=ziX cl (some ⟨cb,co,none⟩) kc j sent gen gen2 up (.slice xa 0 xc) (.slice ga gl.length gc) w4_ h0;rw [HE.o] at hl;refine Calls.exts hl (fun ws es=>?_);clear hl;replace HC:=zrx (zwr M4 (zme M3 (zmd HB1 M3 HC)) zb0) es;replace HB:=zrx (zwr M4 (zme M3 (zmd HB1 M3 HB)) zb0) es;replace HG:=zrx (zwr M4 (zme M3 (zmd HB1 M3 HG)) zb0) es;replace zad:=zbx (zwl M4 (zmo M3 zad) zbK) es;replace EW:=zhd ((zwe M4 (zet EW M3) zeo).o.trans es);replace zab:=zbx zab es;replace zaN:=zbx zaN es;replace OPg:=zhd (zai OPg.o es);clear es;go_wp2_with (with_reducible refine zT ?_)
 refine zaq rfl 4 (.tmp 32) (.const (.bool true)) rfl b3 2 rfl [.bool true] (rfl) zaN rfl zi4 rfl [.slice (some ⟨kg,0,none⟩) cl.length cl.length,I j,.bool true,I gen,.slice (some ⟨xg,0,none⟩) 0 0,.slice (some ⟨gg,0,none⟩) gl.length gl.length] rfl (fun w5_ M5=>?_);replace OPg:=zhd (OPg.o.kept M5.o.grown (.inr (zaH OPg.o zaN.o (by decide))));replace zaN:=zwb M5;go_wp2_with (with_reducible refine zT ?_)
 refine zaq rfl 3 (.tmp 33) (.tmp 31) rfl b3 3 rfl [I gen2] (rfl) zaN rfl zi3 rfl [.slice (some ⟨kg,0,none⟩) cl.length cl.length,I j,.bool true,I gen2,.slice (some ⟨xg,0,none⟩) 0 0,.slice (some ⟨gg,0,none⟩) gl.length gl.length] rfl (fun w6_ M6=>?_);replace OPg:=zhd (OPg.o.kept M6.o.grown (.inr (zaH OPg.o zaN.o (by decide))));replace zaN:=zwb M6;go_wp2_with fail
 replace zab:=zwl M6 (zwl M5 zab zb1) zb1;have x0:=zae (i:=0) zab.o rfl;have x1:=zae (i:=1) zab.o rfl;replace EW:=zwe M6 (zwe M5 EW zeo) zeo;have y0:=EW.o.cell (HCELL.o 0 _ rfl);have y1:=EW.o.cell (HCELL.o 1 _ rfl);have y2:=EW.o.cell (HCELL.o 2 _ rfl);have y3:=EW.o.cell (HCELL.o 3 _ rfl);simp only [Nat.add_zero,<- Nat.add_assoc] at y0 y1 y2 y3;replace zbc:=znw HB1 zbc;replace zaB:=znw HB1 zaB;replace zad:=zwl M6 (zwl M5 zad zbK) zbK;replace HC:=zwr M6 (zwr M5 HC zb0) zb0;replace HB:=zwr M6 (zwr M5 HB zb0) zb0;replace HG:=zwr M6 (zwr M5 HG zb0) zb0;refine zap 11 [none,none,none,none,none,none,none,none,none,none,some (.inr (zgu w6_.heap.size 35 #[I 0,I 0,I 0,I 0,I 0,I 0]))] (by kernel_rfl) (by kernel_rfl) ?_ ?_
 ·exact ⟨trivial,trivial,trivial,trivial,trivial,trivial,trivial,trivial,trivial,trivial,zeq _ _ _,trivial⟩
 iterate 2 (refine zat (fun K hK=>?_); go_simp; first | refine hK _ ?_ | refine ⟨(fun h=>by cases h),hK _ ?_⟩; clear hK K)
 refine zaK (I j) rfl (fun w' hw'=>by have q0:=hw'.cell x1; go_simp) ?_;refine zan fun K h=>?_; go_simp; refine h _ ?_; clear h K;(refine zat (fun K hK=>?_); go_simp; first | refine hK _ ?_ | refine ⟨(fun h=>by cases h),hK _ ?_⟩; clear hK K)
 refine zaK (.slice (some ⟨cb,co,none⟩) cl.length kc) rfl (fun w' hw'=>by have q0:=hw'.cell x0; go_simp) ?_;refine zan fun K h=>?_; go_simp; refine h _ ?_; clear h K;(refine zat (fun K hK=>?_); go_simp; first | refine hK _ ?_ | refine ⟨(fun h=>by cases h),hK _ ?_⟩; clear hK K)
 refine zaK (I j) rfl (fun w' hw'=>by have q0:=hw'.cell x1; go_simp) ?_;refine zan fun K h=>?_; go_simp; refine h _ ?_; clear h K;(refine zat (fun K hK=>?_); go_simp; first | refine hK _ ?_ | refine ⟨(fun h=>by cases h),hK _ ?_⟩; clear hK K)
 refine zaK (.agg #[I xk,I xa2,I xo,I xn]) rfl (fun w' hw'=>by have q0:=hw'.cell y0; have q1:=hw'.cell y1; have q2:=hw'.cell y2; have q3:=hw'.cell y3; go_simp) ?_;refine zan fun K h=>?_; go_simp; refine h _ ?_; clear h K;(refine zat (fun K hK=>?_); go_simp; first | refine hK _ ?_ | refine ⟨(fun h=>by cases h),hK _ ?_⟩; clear hK K)
 refine zbq _ rfl (fun w' hw' hk=>?_) (fun v13=>?_)
 ·have hsz:=hw'.size;clear hk;unfold za0;go_simp
  exact ⟨(Ext.refl _).alloc _,zek hsz⟩
 refine zan fun K h=>?_; go_simp; refine h _ ?_; clear h K;refine za5 ?_;intro w9 e9 hF;obtain ⟨b13,rfl,hb13,hB13⟩:zgu w6_.heap.size 35 #[I 0,I 0,I 0,I 0,I 0,I 0] v13 w9:=hF 13;clear hF x0 x1 y0 y1 y2 y3;have zsx:Hid (b0 < b13):=Nat.lt_of_lt_of_le (zlt zab) hb13;have zq0:Hid (b1 < b13):=Nat.lt_of_lt_of_le (zlt zad) hb13;have zsy:Hid (b3 < b13):=Nat.lt_of_lt_of_le (zlt zaN) hb13;obtain ⟨B11,HB11⟩:=zEx B1 b13;have hnar:∀ k,k < w6_.heap.size->B1 k->B11 k:=fun k hk h=>(HB11.o k).2 ⟨h,by omega⟩;replace zbc:Hid (¬ B11 b0):=fun h=>zbc.o ((HB11.o _).1 h).1;replace zaB:Hid (¬ B11 b1):=fun h=>zaB.o ((HB11.o _).1 h).1;replace zb0:Hid (¬ B11 b3):=fun h=>zb0.o ((HB11.o _).1 h).1;have znD:=zNn HB11;have zsf:=zIn HB11;replace HC:=zhd (HC.o.widen (B:=B11) hnar);replace HB:=zhd (HB.o.widen (B:=B11) hnar);replace HG:=zhd (HG.o.widen (B:=B11) hnar);clear hnar;have zr0:Hid (w.heap.size<=b13):=Nat.le_trans EW.o.size hb13;replace zab:=zbx zab e9;replace zad:=zbx zad e9;replace zaN:=zbx zaN e9;replace HC:=zrx HC e9;replace HB:=zrx HB e9;replace HG:=zrx HG e9;replace OPg:=zhd (zai OPg.o e9);replace EW:=zhd (EW.o.trans e9);clear e9;have zdN:=zhd hB13;clear hB13 hb13;show wpList _ _ _ [_] _ _
 go_wp2_with (with_reducible refine zT ?_)
 refine zaa rfl 35 (.tmp 13) (.tmp 43) rfl b13 rfl [I me,I j,I xk,I xa2,I xo,I xn] (rfl) zdN rfl zvl rfl (fun w7_ M7=>?_);replace OPg:=zhd (OPg.o.kept M7.o.grown (.inr (zaH OPg.o zdN.o (by decide))));replace zdN:=zwb M7;go_wp2_with fail
 replace zab:=zwl M7 zab zsx;replace zad:=zwl M7 zad zq0;replace zaN:=zwl M7 zaN zsy;replace HC:=zwr M7 HC znD;replace HB:=zwr M7 HB znD;replace HG:=zwr M7 HG znD;replace EW:=zwe M7 EW zr0;refine zap 3 [none,none,some (.inr (fun (v:Value) (wx:World)=>wx.ownsRow w7_.heap.size 5 1 v 10 ((zbv ⟨me,j,⟨xk,xa2,xo,xn⟩⟩).map U)))] (by kernel_rfl) (by kernel_rfl) ?_ ?_
 ·exact ⟨trivial,trivial,zev _ _ _ _ _,trivial⟩
 refine zaK (.agg #[.slice (some ⟨kg,0,none⟩) cl.length cl.length,I j,.bool true,I gen2,.slice (some ⟨xg,0,none⟩) 0 0,.slice (some ⟨gg,0,none⟩) gl.length gl.length]) rfl (fun w' hw'=>zcz 49 (.tmp 11) rfl b3 0 rfl (zd4 zaN.o hw') [.slice (some ⟨kg,0,none⟩) cl.length cl.length,I j,.bool true,I gen2,.slice (some ⟨xg,0,none⟩) 0 0,.slice (some ⟨gg,0,none⟩) gl.length gl.length] rfl zcK (by kernel_rfl)) ?_;refine zan fun K h=>?_; go_simp; refine h _ ?_; clear h K;refine zaK (.agg #[I me,I j,I xk,I xa2,I xo,I xn]) rfl (fun w' hw'=>zcz 35 (.tmp 13) rfl b13 0 rfl (zd4 zdN.o hw') [I me,I j,I xk,I xa2,I xo,I xn] rfl zub (by kernel_rfl)) ?_;refine zan fun K h=>?_; go_simp; refine h _ ?_; clear h K;refine zbq _ rfl (fun w' hw' hk=>?_) (fun v46=>?_)
 ·have hg:zaw Tryz.prog 119 #[RQ ⟨me,j,⟨xk,xa2,xo,xn⟩⟩] w' (fun (v:Value) (wx:World)=>wx.ownsRow w7_.heap.size 5 1 v 10 ((zbv ⟨me,j,⟨xk,xa2,xo,xn⟩⟩).map U)):=Calls.mono (zmJ me j xk xa2 xo xn w') fun e wx ⟨v',he,ho,hx⟩=>⟨v',he,hx,zaL (b2:=w7_.heap.size) ho hw'.size⟩;clear hk;unfold za0;go_simp
  exact ⟨Ext.refl _,hg⟩
 refine zan fun K h=>?_; go_simp; refine h _ ?_; clear h K;refine za5 ?_;intro w8 e8 hF;have hby:w8.ownsRow w7_.heap.size 5 1 v46 10 ((zbv ⟨me,j,⟨xk,xa2,xo,xn⟩⟩).map U):=hF 46;have hby2:Rd (fun k=>w7_.heap.size<=k) (fun w=>za4 w v46 (zbv ⟨me,j,⟨xk,xa2,xo,xn⟩⟩)) w8:=zdy hby;have q1:=(zlt zad);have q2:=zbz.o;have q3:=(zlt zaN);have q4:=(zlt zdN);have HBY:=zhd (hby2.widen (B:=B11) (fun k _ h=>(HB11.o k).2 ⟨(HB1.o k).2 ⟨HK.o.2.1 k (by omega),by omega⟩,by omega⟩));clear hF hby hby2 q1 q2 q3 q4;replace zab:=zbx zab e8;replace zad:=zbx zad e8;replace zaN:=zbx zaN e8;replace zdN:=zbx zdN e8;replace HC:=zrx HC e8;replace HB:=zrx HB e8;replace HG:=zrx HG e8;replace OPg:=zhd (zai OPg.o e8);replace EW:=zhd (EW.o.trans e8);clear e8;show wpList _ _ _ [_,_,_] _ _
 go_wp2_with (with_reducible refine zT ?_)
 refine zaa rfl 49 (.tmp 8) (.tmp 44) rfl b1 rfl [.slice (some ⟨kg,0,none⟩) cl.length cl.length,I j,.bool true,I gen2,.slice (some ⟨xg,0,none⟩) 0 0,.slice (some ⟨gg,0,none⟩) gl.length gl.length] (rfl) zad rfl zcm rfl (fun w8_ M8=>?_);replace OPg:=zhd (OPg.o.kept M8.o.grown (.inr (zaH OPg.o zad.o (by decide))));replace zad:=zwb M8;go_wp2
 have z0:=zau (P:=Tryz.prog) 49 zad.o zcK (by kernel_rfl);refine bodyPost_ret (by simp [results,Tryz.results100,asAddr,z0]; rfl) rfl ?_;replace HC:=zwr M8 HC zaB;replace HB:=zwr M8 HB zaB;replace HG:=zwr M8 HG zaB;replace HBY:=zwr M8 HBY zaB;replace EW:=zwe M8 EW za9;exact ⟨_,rfl,EW.o,Rd.widen (A:=B11) (zlh (zgA (c:=⟨cl,j,true,gen2,[],gl⟩) HC.o HB.o HG.o) HBY.o) (fun k _ h=>HK.o.2.2.2 k (zhS.o k (zsf.o k h)))⟩

theorem zuX:zvD:=fun c calls box got me gen2 up w A h1 h2 h3 h4 _ _=>by
 obtain ⟨cl,at_,sent,gen,bl,gl⟩:=c
 cases bl with
 | nil=>exact zrH cl at_ sent gen gl calls box got me gen2 up w A h1 h2 h3 h4
 | cons b l=>exact zsE cl at_ sent gen b l gl calls box got me gen2 up w A h1 h2 h3 h4

end Go.Proofs.YtdmipnnfoolelagGreatDoor
