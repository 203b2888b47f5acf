/- Texts of the proof, merged: N3 N4a N4. -/
import Derived.Test.YtdmipnnfoolelaeGreatKUA
import Derived.Test.YtdmipnnfoolelaeGreatKUF
import Derived.Test.YtdmipnnfoolelaeGreatKUM
import Derived.Test.YtdmipnnfoolelaeGreatKUL
set_option maxHeartbeats 400000
set_option maxRecDepth 100000

namespace Go.Proofs.YtdmipnnfoolelaeGreat
open Go.RowKit Go.Mk

theorem Tryz.infoClient:(Tryz.prog.info? 63).map (fun i=>(i.zero,i.size,i.bytes))=some (some (.agg zC),6,96):=by kernel_rfl

theorem ze5 (m:Mc) (c u a p box plan cl:Value) (n:Nat) (ol:List Cl) (oat:Int) (osent:Bool) (ogen:Int) (xl:List (List UInt8)) (gl:List Rp) (calls ob2 got:Value) (w:World) (A:Nat->Prop) (h:RdM A w m c u a p box plan cl)
  (hc1:Rd A (fun w=>zar 4 zdk w calls ol) w) (hc2:Rd A (fun w=>zar 1 zb0 w ob2 xl) w) (hc3:Rd A (fun w=>zar 2 zdY w got gl) w) (hn:n < m.clients.length) (hl:m.clients.length<=1000) :
  zaQ Tryz.prog 30 #[.agg (zaW m c u a p box plan cl).toArray,I n,.agg #[calls,I oat,.bool osent,I ogen,ob2,got]] w A (fun r w'=>Agg zd1 { m with clients:=m.clients.set n ⟨ol,oat,osent,ogen,xl,gl⟩ } r w'):=by
 unfold zaQ;obtain ⟨ca,cc,ua,uc,aa,ac,pa,pc,xa,xc,la,lc,ka,kc,rfl,rfl,rfl,rfl,rfl,rfl,rfl⟩:=h.slices;obtain ⟨oa,oc,rfl⟩:=zaf hc1.o;obtain ⟨ob,od,rfl⟩:=zaf hc2.o;obtain ⟨og,oh,rfl⟩:=zaf hc3.o;obtain ⟨⟨sc,su,sa,sp⟩,⟨gen,bl,busy,⟨nc,nt,⟨nk,na,no,nn⟩⟩,pl,⟨se,sn⟩⟩,up,pause,falls,cls⟩:=m;simp only [zaW] at *;have EW:=zhd (Ext.refl w);obtain ⟨B,hB⟩:=zdh A w.heap.size 3;have HK:=zhd hB;clear hB;have H:=zhd (h.widen HK.o.1);have C1:=zhd (hc1.widen HK.o.1);have C2:=zhd (hc2.widen HK.o.1);have C3:=zhd (hc3.widen HK.o.1);clear h hc1 hc2 hc3;obtain ⟨css,hcs⟩:=zdg (by decide) H.o.clients;have HCS:=zhd hcs.left;have HRW:=zhd hcs.right;clear hcs;have HN:=zhd hn;have HL:=zhd hl;clear hn hl;obtain ⟨i0,hi,hz0,hz1,hz2⟩:=info_parts Tryz.infoClient;have HI:=zhd hi;clear hi;go_enter Tryz.func30,Tryz.ntmps30
 go_wp2_with (with_reducible refine zT ?_)
 refine zaj rfl 44 (.tmp 0) rfl #[.slice ca sc.length cc,.slice ua su.length uc,.slice aa sa.length ac,.slice pa sp.length pc,I gen,.slice xa bl.length xc,.bool busy,I nc,I nt,I nk,I na,I no,I nn,.slice la pl.length lc,I se,I sn,.bool up,I pause,I falls,.slice ka cls.length kc] rfl (fun b0 w1_ M1=>?_);have zab:=zmb M1;go_wp2_with (with_reducible refine zT ?_)
 refine zaj rfl 63 (.tmp 2) rfl #[.slice oa ol.length oc,I oat,.bool osent,I ogen,.slice ob xl.length od,.slice og gl.length oh] rfl (fun b1 w2_ M2=>?_);have zay:=zld zab M2;have zad:=zmb M2;go_wp2_with (with_reducible refine zT ?_)
 refine zae rfl 44 zM (by kernel_rfl) (fun b2 w3_ M3=>?_);replace zab:=zmo M2 zab;have za2:=zld zab M3;have zal:=zmb M3;have zaY:=zA0 M1;have zaF:=znb HK zaY (by decide);have zbr:=zob zaY;have zaZ:=zA1 zaY M1 M2;have zbX:=zA1 zaZ M2 M3;have zaT:=znb HK zbX (by decide);have zbu:=zob zbX;go_wp2_with (with_reducible refine zT ?_)
 unfold Hid;refine zcU rfl 63 0 #[] (by kernel_rfl) (fun b3 w4_ M4=>?_);replace zab:=zmo M3 zab;have za7:=zld zab M4;replace zad:=zmo M3 zad;have zbf:=zld zal M4;obtain ⟨B1,HB1⟩:=zEx B b3;have zfS:=zIn HB1;replace EW:=zet (zet (zet EW M1) M2) M3;have zcA:=zOn M4 EW;replace zab:=zmo M4 zab;have c19:=zaa (i:=19) zab.o rfl;go_wp2_with (first | (at_builtin; refine zbw ?_) | (with_reducible refine zT ?_))
 unfold Hid;clear c19;replace HCS:=zme M4 (zmd HB1 M4 (zme M3 (zme M2 (zme M1 HCS))));have hones:=HCS.o.o.ones zqO;have hfull:zdc b3 63 6 0 [] (.slice (some ⟨b3,0,none⟩) 0 0) w4_:=⟨b3,rfl,zeD M4.o (Nat.le_refl _) rfl (by decide)⟩;replace HRW:=zme M4 (zmd HB1 M4 (zme M3 (zme M2 (zme M1 HRW))));refine zeK rfl (.tmp 7) (.tmp 9) 42 rfl b3 63 i0 (.agg zC) 6 96 zpn HI.o hz0 hz1 hz2 rfl (by decide) _ 0 [] rfl hfull (.slice ka cls.length kc) rfl cls.length css.flatten HRW.o.o hones (by have:=HL.o; omega) (by decide) (by have:=M4.o.size; omega) ?_;intro v10 w5 ho5 e5;simp only [Nat.zero_add,List.nil_append] at ho5;clear hfull hones
 obtain ⟨g,cap,rfl⟩:∃ g cap,v10=.slice (some ⟨g,0,none⟩) cls.length cap:=by
  rcases ho5.2 with ⟨_,e1⟩ | ⟨g,cap,cur,e1,_⟩
  ·have q:n < cls.length:=HN.o; omega
  ·exact ⟨g,cap,e1⟩
 have hbg:b3<=g:=(ho5.lt g rfl).1;obtain ⟨B11,HB11⟩:=zEx B1 g;have hnar:∀ k,k < w4_.heap.size->B1 k->B11 k:=fun k hk h=>(HB11.o k).2 ⟨h,by have q2:=M4.o.size; have q3:=((HB1.o k).1 h).2; omega⟩;have N_g:=zNn HB11;have zjh:=zIn HB11;replace H:=zhd ((zhd ((zMD HB1 M4 (zhd ((zhd ((zhd (H.o.ext M1.o.ext)).o.ext M2.o.ext)).o.ext M3.o.ext))).o.ext M4.o.ext)).o.widen (B:=B11) hnar);replace C1:=zhd ((zme M4 (zmd HB1 M4 (zme M3 (zme M2 (zme M1 C1))))).o.widen (B:=B11) hnar);replace C2:=zhd ((zme M4 (zmd HB1 M4 (zme M3 (zme M2 (zme M1 C2))))).o.widen (B:=B11) hnar);replace C3:=zhd ((zme M4 (zmd HB1 M4 (zme M3 (zme M2 (zme M1 C3))))).o.widen (B:=B11) hnar);replace HCS:=zhd (HCS.o.widen (B:=B11) hnar);replace HRW:=zhd (HRW.o.widen (B:=B11) hnar);clear hnar;have O_g:Hid (w.heap.size<=g):=by unfold Hid; have q:=zcA.o; omega
 have HO:=zhd ho5;have HBG:=zhd hbg;clear ho5 hbg;have zo3:Hid (b0 < g):=Nat.lt_of_lt_of_le za7.o HBG.o;have zre:Hid (b2 < g):=Nat.lt_of_lt_of_le zbf.o HBG.o;go_wp2_with (with_reducible refine zT ?_)
 replace zab:=zbx zab e5;refine zam rfl 42 (.tmp 11) (.tmp 10) rfl b0 19 rfl [.slice (some ⟨g,0,none⟩) cls.length cap] (rfl) zab rfl zqK rfl [.slice ca sc.length cc,.slice ua su.length uc,.slice aa sa.length ac,.slice pa sp.length pc,I gen,.slice xa bl.length xc,.bool busy,I nc,I nt,I nk,I na,I no,I nn,.slice la pl.length lc,I se,I sn,.bool up,I pause,I falls,.slice (some ⟨g,0,none⟩) cls.length cap] rfl (fun w5_ M5=>?_);replace zab:=zwb M5;replace zaF:=znw HB11 (znw HB1 zaF);have c19:=zaa (i:=19) zab.o rfl;go_wp2_with (with_reducible refine zT ?_)
 clear c19;replace zad:=zwg M5 (zbx (zmo M4 zad) e5) zay;refine zah rfl 63 (.tmp 5) rfl b1 rfl zad zbG zbF (fun v15 H_v15=>?_);have hn0:(0:Int)<=(n:Int):=by omega
 have hn1:(n:Int) < (cls.length:Int):=by have q:n < cls.length:=HN.o; omega
 go_wp2_with (with_reducible refine zT ?_)
 unfold Hid;clear hn0 hn1;replace HO:=zhd (M5.o.owns HO.o (zfd zo3.o));obtain ⟨cur,hgb,hbb,hcsz,htk,hncap,hmax⟩:=zgF HO.o;have hnl:n < cls.length:=HN.o;refine zcH rfl 63 (.tmp 16) (.tmp 15) rfl g (n * 6) rfl [.slice oa ol.length oc,I oat,.bool osent,I ogen,.slice ob xl.length od,.slice og gl.length oh] (by rw [show _=Value.agg #[.slice oa ol.length oc,I oat,.bool osent,I ogen,.slice ob xl.length od,.slice og gl.length oh] from H_v15.o]; rfl) hgb (by rw [hcsz]; simp only [List.length_cons,List.length_nil]; omega) (by kernel_rfl) (zbJ rfl) _ rfl (fun w6_ M6=>?_);have hO2:=zeV hbb hcsz htk hncap hmax M6.o (by simp only [List.length_cons,List.length_nil]; omega);replace HCS:=zwr M5 (zrx HCS e5) zaF;rw [<- zeR (size:=6) (by decide) HCS.o.o.sizes (by rw [HCS.o.o.1]; exact hnl) rfl] at hO2;replace HO:=zhd hO2;clear hO2 hgb hbb hcsz htk hncap hmax;clear HRW;go_wp2_with (with_reducible refine zT ?_)
 replace zab:=zwl M6 zab zo3;refine zah rfl 44 (.tmp 3) rfl b0 rfl zab za3 zaO (fun v17 H_v17=>?_);go_wp2_with (with_reducible refine zT ?_)
 replace zal:=zwl M6 (zwg M5 (zbx (zmo M4 zal) e5) za2) zre;refine zac rfl 44 (.tmp 6) (.tmp 17) rfl b2 rfl _ (zcv H_v17) zal rfl zaO rfl (fun w7_ M7=>?_);replace zal:=zwb M7;replace zaT:=znw HB11 (znw HB1 zaT);go_wp2
 have z0:=zaq (P:=Tryz.prog) 44 zal.o za3 (by kernel_rfl);refine bodyPost_ret (by simp [results,Tryz.results30,asAddr,z0,Act.put]; rfl) rfl ?_;have hin:∀ k,B11 k->B k:=fun k h=>zfS.o k (zjh.o k h);have hnew:∀ k,b3<=k->B k:=fun k h=>HK.o.2.1 k (by have q:=zbf.o; have q2:=zbX.o; omega);replace C1:=zwr M7 (zwr M6 (zwr M5 (zrx C1 e5) zaF) N_g) zaT;replace C2:=zwr M7 (zwr M6 (zwr M5 (zrx C2 e5) zaF) N_g) zaT;replace C3:=zwr M7 (zwr M6 (zwr M5 (zrx C3 e5) zaF) N_g) zaT;replace HCS:=zwr M7 (zwr M6 HCS N_g) zaT;replace HO:=zhd (M7.o.owns HO.o (zfd zre.o));have hcl:Rd B (fun w=>zar 6 zcx w (.slice (some ⟨g,0,none⟩) cls.length cap) (cls.set n ⟨ol,oat,osent,ogen,xl,gl⟩)) w7_:=zfm (fun k h _=>hnew k h) (Rd.setE (HCS.o.widen fun k _ h=>hin k h) (zcN (c:=⟨ol,oat,osent,ogen,xl,gl⟩) (C1.o.widen fun k _ h=>hin k h) (C2.o.widen fun k _ h=>hin k h) (C3.o.widen fun k _ h=>hin k h)) rfl n) HO.o (by decide);replace H:=zHw M7 (zHw M6 (zHw M5 (zhd (H.o.ext e5)) zaF) N_g) zaT;have H2:=H.o.widen (B:=B) (fun k _ h=>hin k h);replace EW:=zwe M7 (zwe M6 (zwe M5 (zhd ((zet EW M4).o.trans e5)) zbr) O_g) zbu;exact ⟨_,rfl,EW.o,Rd.widen (A:=B) (zbT (RdM.mc (m:=⟨⟨sc,su,sa,sp⟩,⟨gen,bl,busy,⟨nc,nt,⟨nk,na,no,nn⟩⟩,pl,⟨se,sn⟩⟩,up,pause,falls,(cls.set n ⟨ol,oat,osent,ogen,xl,gl⟩)⟩) ⟨H2.cells,H2.undo,H2.answers,H2.past,H2.box,H2.plan,hcl⟩)) (fun k _ h=>HK.o.2.2.2 k h)⟩

open Go.RowKit Go.Mk

def zbI (l:List Rp):List Value:=l.flatMap fun x=>[I x.err,I x.n]
theorem zjV (l:List Rp):(zbI l).length=l.length * 2:=by
 unfold zbI
 induction l with
 | nil=>rfl
 | cons p l ih=>simp [List.flatMap_cons,ih]; omega
theorem zeg (l m:List Rp):zbI (l++m)=zbI l++zbI m:=by simp [zbI]
theorem zeN (l:List Rp):∀ u ∈ zbI l,u.oneCell'=true:=by
 intro u hu
 unfold zbI at hu
 rw [List.mem_flatMap] at hu
 obtain ⟨p,_,hp⟩:=hu
 simp at hp
 rcases hp with rfl | rfl <;> rfl
theorem zfa {w:World} {v:Value} {l:List Rp}:zar 2 zdY w v l↔Row w 2 v l.length (zbI l):=zdz (f:=fun (x:Rp)=>[I x.err,I x.n]) (fun _=>rfl)
theorem zgq {base e n:Nat} {v:Value} {l:List Rp} {w:World} (h:w.ownsRow base e 2 v n (zbI l)):Rd (fun k=>base<=k) (fun w=>zar 2 zdY w v l) w:=by
 have hl:l.length=n:=by have:=h.1; rw [zjV] at this; omega
 subst hl
 exact (zdP h).imp fun w h=>zfa.2 h

def zll {X:Type} (R:El X) (x:X) (b:List UInt8) (e:Int) (r:Value) (w:World):Prop:=∃ (cs:List Value) (bv:Value),r=.tuple #[.agg cs.toArray,bv,I e]/\R w cs x/\zbb w bv b
theorem ziD {X:Type} {R:El X} {x:X} {b:List UInt8} {e:Int} {r:Value} {A:Nat->Prop} {w:World} (h:Rd A (zll R x b e r) w):∃ (cs:List Value) (bv:Value),r=.tuple #[.agg cs.toArray,bv,I e]/\Rd A (fun w=>R w cs x) w/\Rd A (fun w=>zbb w bv b) w:=by
 obtain ⟨cs,bv,e1,_⟩:=h.o
 have key:∀ w',zll R x b e r w'->R w' cs x/\zbb w' bv b:=fun w' ⟨cs2,bv2,e2,h3⟩=>by
  rw [e1] at e2
  have:cs=cs2/\bv=bv2:=by simpa using e2
  obtain ⟨rfl,rfl⟩:=this
  exact h3
 exact ⟨cs,bv,e1,h.imp fun w' hw=>(key w' hw).1,h.imp fun w' hw=>(key w' hw).2⟩
theorem zcw {X:Type} {R:El X} {x:X} {b:List UInt8} {e:Int} {cs:List Value} {bv:Value} {A:Nat->Prop} {w:World} (h:Rd A (fun w=>R w cs x) w) (h2:Rd A (fun w=>zbb w bv b) w):Rd A (zll R x b e (.tuple #[.agg cs.toArray,bv,I e])) w:=(h.and h2).imp fun _ h=>⟨cs,bv,rfl,h.1,h.2⟩

theorem zgO {A:Nat->Prop} {w:World} {v:Value} {b:List UInt8} {l:List (List UInt8)} (h:Rd A (fun w=>zar 1 zb0 w v (b::l)) w):∃ xb xo xc bv,v=.slice (some ⟨xb,xo,none⟩) (l.length+1) xc/\l.length+1<=xc/\xc<=maxLen/\Rd A (fun w=>w.cell? ⟨xb,xo,none⟩=some bv/\zbb w bv b) w/\Rd A (fun w=>zar 1 zb0 w (.slice (some ⟨xb,xo+1,none⟩) l.length (xc - 1)) l) w:=by
 obtain ⟨css,h2⟩:=zdg (by decide) h
 obtain ⟨he,hl,ao,xc,e,h3,h4,h0,h5⟩:=h2.o
 obtain ⟨c,css',rfl⟩:∃ c css',css=c::css':=by
  cases css with
  | nil=>have:=he.1; simp at this
  | cons c css'=>exact ⟨c,css',rfl⟩
 obtain ⟨hc,bv,rfl,hb⟩:=he.2 0 c b rfl rfl
 obtain ⟨xb,xo,rfl,hcell⟩:=h5 0 bv rfl
 refine ⟨xb,xo,xc,bv,e,by simpa using h3,h4,h2.imp fun w' hw=>?_,h.imp fun w' hw=>?_⟩
 ·obtain ⟨he',hl',ao',xc',e',_,_,_,h5'⟩:=hw
  obtain ⟨_,bv',e1,hb'⟩:=he'.2 0 _ b rfl rfl
  simp at e1
  subst e1
  obtain ⟨xb',xo',ea,hcell'⟩:=h5' 0 bv rfl
  rw [e,ea] at e'
  simp only [Value.slice.injEq,Option.some.injEq,Addr.mk.injEq,and_true] at e'
  obtain ⟨⟨rfl,rfl⟩,_⟩:=e'
  exact ⟨hcell',hb'⟩
 ·rw [e] at hw
  have:=zar.drop (by decide) hw 1 (by simp)
  simpa using this

open Go.RowKit Go.Mk

theorem zh2 (cl:List Cl) (at_:Int) (sent:Bool) (gen:Int) (gl:List Rp) (calls box got:Value) (me gen2:Int) (up:Bool) (w:World) (A:Nat->Prop)
  (hc:Rd A (fun w=>zar 4 zdk w calls cl) w) (hb:Rd A (fun w=>zar 1 zb0 w box []) w) (hg:Rd A (fun w=>zar 2 zdY w got gl) w) (h0:0<=at_) :
  zaQ Tryz.prog 28 #[.agg #[calls,I at_,.bool sent,I gen,box,got],I me,I gen2,.bool up] w A (fun r w'=>zll zcx (zcM ⟨cl,at_,sent,gen,[],gl⟩ me gen2 up).1 (zcM ⟨cl,at_,sent,gen,[],gl⟩ me gen2 up).2.1 (zcM ⟨cl,at_,sent,gen,[],gl⟩ me gen2 up).2.2 r w'):=by
 unfold zaQ;obtain ⟨ca,cc,rfl⟩:=zaf hc.o;obtain ⟨ga,gc,rfl⟩:=zaf hg.o;have EW:=zhd (Ext.refl w);obtain ⟨B,hB⟩:=zdh A w.heap.size 2;have HK:=zhd hB;clear hB;have HC:=zhd (hc.widen HK.o.1);have HB:=zhd (hb.widen HK.o.1);have HG:=zhd (hg.widen HK.o.1);clear hc hb hg;obtain ⟨ba,bc,rfl⟩:=zaf HB.o.o;have hX0:zcM ⟨cl,at_,sent,gen,[],gl⟩ me gen2 up=if (cl.length:Int)<=at_ then (⟨cl,at_,sent,gen,[],gl⟩,[],11) else if ¬ up then (⟨cl,at_,sent,gen,[],gl⟩,[],10) else if sent/\gen=gen2 then (⟨cl,at_,sent,gen,[],gl⟩,[],12) else (⟨cl,at_,true,gen2,[],gl⟩,zcq ⟨me,at_,cl.getD at_.toNat ⟨0,0,0,0⟩⟩,0):=rfl;by_cases hat:(cl.length:Int)<=at_
 case pos =>
  rw [hX0,if_pos hat];clear hX0;go_enter Tryz.func28,Tryz.ntmps28
  go_wp2_with (with_reducible refine zT ?_)
  refine zaj rfl 63 (.tmp 0) rfl #[.slice ca cl.length cc,I at_,.bool sent,I gen,.slice ba 0 bc,.slice ga gl.length gc] rfl (fun b0 w1_ M1=>?_);have zab:=zmb M1;go_wp2_with (with_reducible refine zT ?_)
  refine zae rfl 63 zC (by kernel_rfl) (fun b1 w2_ M2=>?_);have zad:=zmb M2;have zaY:=zA0 M1;have zaZ:=zA1 zaY M1 M2;have zau:=znb HK zaZ (by decide);have za4:=zob zaZ;replace zab:=zmo M2 zab;have c0:=zaa (i:=0) zab.o rfl;have c1:=zaa (i:=1) zab.o rfl;have c2:=zaa (i:=2) zab.o rfl;have c3:=zaa (i:=3) zab.o rfl;have c4:=zaa (i:=4) zab.o rfl;go_wp2_with (with_reducible refine zT ?_)
  clear c0 c1 c2 c3 c4;refine zah rfl 63 (.tmp 4) rfl b0 rfl zab zbG zbF (fun v69 H_v69=>?_);go_wp2_with (with_reducible refine zT ?_)
  refine zac rfl 63 (.tmp 8) (.tmp 69) rfl b1 rfl _ (zcv H_v69) zad rfl zbF rfl (fun w3_ M3=>?_);replace zad:=zwb M3;go_wp2
  have z0:=zaq (P:=Tryz.prog) 63 zad.o zbG (by kernel_rfl);refine bodyPost_ret (by simp [results,Tryz.results28,asAddr,z0]; rfl) rfl ?_;replace HC:=zwr M3 (zme M2 (zme M1 HC)) zau;replace HB:=zwr M3 (zme M2 (zme M1 HB)) zau;replace HG:=zwr M3 (zme M2 (zme M1 HG)) zau;replace EW:=zwe M3 (zet (zet EW M1) M2) za4;exact ⟨_,rfl,EW.o,Rd.widen (A:=B) (zcw (zcN (c:=⟨cl,at_,sent,gen,[],gl⟩) (HC.o) (HB.o) (HG.o)) (Rd.all fun w=>zbc w)) (fun k _ h=>HK.o.2.2.2 k h)⟩
 rw [hX0,if_neg hat];cases up
 case false =>
  rw [if_pos (by simp)];clear hX0;go_enter Tryz.func28,Tryz.ntmps28
  go_wp2_with (with_reducible refine zT ?_)
  refine zaj rfl 63 (.tmp 0) rfl #[.slice ca cl.length cc,I at_,.bool sent,I gen,.slice ba 0 bc,.slice ga gl.length gc] rfl (fun b0 w1_ M1=>?_);have zab:=zmb M1;go_wp2_with (with_reducible refine zT ?_)
  refine zae rfl 63 zC (by kernel_rfl) (fun b1 w2_ M2=>?_);have zad:=zmb M2;have zaY:=zA0 M1;have zaZ:=zA1 zaY M1 M2;have zau:=znb HK zaZ (by decide);have za4:=zob zaZ;replace zab:=zmo M2 zab;have c0:=zaa (i:=0) zab.o rfl;have c1:=zaa (i:=1) zab.o rfl;have c2:=zaa (i:=2) zab.o rfl;have c3:=zaa (i:=3) zab.o rfl;have c4:=zaa (i:=4) zab.o rfl;go_wp2_with (with_reducible refine zT ?_)
  clear c0 c1 c2 c3 c4;refine zah rfl 63 (.tmp 4) rfl b0 rfl zab zbG zbF (fun v72 H_v72=>?_);go_wp2_with (with_reducible refine zT ?_)
  refine zac rfl 63 (.tmp 8) (.tmp 72) rfl b1 rfl _ (zcv H_v72) zad rfl zbF rfl (fun w3_ M3=>?_);replace zad:=zwb M3;go_wp2
  have z0:=zaq (P:=Tryz.prog) 63 zad.o zbG (by kernel_rfl);refine bodyPost_ret (by simp [results,Tryz.results28,asAddr,z0]; rfl) rfl ?_;replace HC:=zwr M3 (zme M2 (zme M1 HC)) zau;replace HB:=zwr M3 (zme M2 (zme M1 HB)) zau;replace HG:=zwr M3 (zme M2 (zme M1 HG)) zau;replace EW:=zwe M3 (zet (zet EW M1) M2) za4;exact ⟨_,rfl,EW.o,Rd.widen (A:=B) (zcw (zcN (c:=⟨cl,at_,sent,gen,[],gl⟩) (HC.o) (HB.o) (HG.o)) (Rd.all fun w=>zbc w)) (fun k _ h=>HK.o.2.2.2 k h)⟩
 rw [if_neg (by simp)];by_cases hsg:sent=true/\gen=gen2
 case pos =>
  rw [if_pos hsg];obtain ⟨rfl,rfl⟩:=hsg;clear hX0;go_enter Tryz.func28,Tryz.ntmps28
  go_wp2_with (with_reducible refine zT ?_)
  refine zaj rfl 63 (.tmp 0) rfl #[.slice ca cl.length cc,I at_,.bool true,I gen,.slice ba 0 bc,.slice ga gl.length gc] rfl (fun b0 w1_ M1=>?_);have zab:=zmb M1;go_wp2_with (with_reducible refine zT ?_)
  refine zae rfl 63 zC (by kernel_rfl) (fun b1 w2_ M2=>?_);have zad:=zmb M2;have zaY:=zA0 M1;have zaZ:=zA1 zaY M1 M2;have zau:=znb HK zaZ (by decide);have za4:=zob zaZ;replace zab:=zmo M2 zab;have c0:=zaa (i:=0) zab.o rfl;have c1:=zaa (i:=1) zab.o rfl;have c2:=zaa (i:=2) zab.o rfl;have c3:=zaa (i:=3) zab.o rfl;have c4:=zaa (i:=4) zab.o rfl;go_wp2_with (with_reducible refine zT ?_)
  clear c0 c1 c2 c3 c4;refine zah rfl 63 (.tmp 4) rfl b0 rfl zab zbG zbF (fun v81 H_v81=>?_);go_wp2_with (with_reducible refine zT ?_)
  refine zac rfl 63 (.tmp 8) (.tmp 81) rfl b1 rfl _ (zcv H_v81) zad rfl zbF rfl (fun w3_ M3=>?_);replace zad:=zwb M3;go_wp2
  have z0:=zaq (P:=Tryz.prog) 63 zad.o zbG (by kernel_rfl);refine bodyPost_ret (by simp [results,Tryz.results28,asAddr,z0]; rfl) rfl ?_;replace HC:=zwr M3 (zme M2 (zme M1 HC)) zau;replace HB:=zwr M3 (zme M2 (zme M1 HB)) zau;replace HG:=zwr M3 (zme M2 (zme M1 HG)) zau;replace EW:=zwe M3 (zet (zet EW M1) M2) za4;exact ⟨_,rfl,EW.o,Rd.widen (A:=B) (zcw (zcN (c:=⟨cl,at_,true,gen,[],gl⟩) (HC.o) (HB.o) (HG.o)) (Rd.all fun w=>zbc w)) (fun k _ h=>HK.o.2.2.2 k h)⟩
 rw [if_neg hsg];clear hX0
 have hsel:(sent=false∨(sent=true/\(gen == gen2)=false)):=by
  cases sent
  ·exact .inl rfl
  ·exact .inr ⟨rfl,by simpa using hsg⟩
 clear hsg;obtain ⟨cx,hcx⟩:∃ x,cl[at_.toNat]?=some x:=⟨_,List.getElem?_eq_getElem (by omega)⟩;have hgd:cl.getD at_.toNat ⟨0,0,0,0⟩=cx:=by simp [hcx]
 rw [hgd];clear hgd;obtain ⟨ao,cap,e1,-,-,-,hform⟩:=HC.o.o.form (by decide);simp only [Value.slice.injEq,true_and] at e1;obtain ⟨rfl,rfl⟩:=e1;obtain ⟨xk,xa,xo,xn⟩:=cx;obtain ⟨cb,co,c4,rfl,-,hc4,hcell⟩:=hform _ _ hcx;have hc4:c4=[I xk,I xa,I xo,I xn]:=hc4;subst hc4;have HCELL:=zhd hcell;have hlt:at_ < (cl.length:Int):=by omega
 clear hcell hform hcx hat;obtain ⟨j,rfl⟩:∃ j:Nat,at_=(j:Int):=⟨at_.toNat,by omega⟩;simp only [Int.toNat_natCast] at HCELL;rcases hsel with rfl | ⟨rfl,hgn⟩
 ·go_enter Tryz.func28,Tryz.ntmps28
  go_wp2_with (with_reducible refine zT ?_)
  refine zaj rfl 63 (.tmp 0) rfl #[.slice (some ⟨cb,co,none⟩) cl.length cc,I j,.bool false,I gen,.slice ba 0 bc,.slice ga gl.length gc] rfl (fun b0 w1_ M1=>?_);have zab:=zmb M1;go_wp2_with (with_reducible refine zT ?_)
  refine zae rfl 63 zC (by kernel_rfl) (fun b1 w2_ M2=>?_);have zay:=zld zab M2;have zad:=zmb M2;have zaY:=zA0 M1;have zaF:=znb HK zaY (by decide);have zbr:=zob zaY;have zaZ:=zA1 zaY M1 M2;have zau:=znb HK zaZ (by decide);have za4:=zob zaZ;replace zab:=zmo M2 zab;have c0:=zaa (i:=0) zab.o rfl;have c1:=zaa (i:=1) zab.o rfl;have c2:=zaa (i:=2) zab.o rfl;have c3:=zaa (i:=3) zab.o rfl;have c4:=zaa (i:=4) zab.o rfl;go_wp2_with (with_reducible refine zT ?_)
  clear c0 c1 c2 c3 c4;refine zam rfl 4 (.tmp 83) (.const (.bool true)) rfl b0 2 rfl [.bool true] (rfl) zab rfl zi4 rfl [.slice (some ⟨cb,co,none⟩) cl.length cc,I j,.bool true,I gen,.slice ba 0 bc,.slice ga gl.length gc] rfl (fun w3_ M3=>?_);replace zab:=zwb M3;go_wp2_with (with_reducible refine zT ?_)
  refine zam rfl 3 (.tmp 84) (.tmp 82) rfl b0 3 rfl [I gen2] (rfl) zab rfl zi3 rfl [.slice (some ⟨cb,co,none⟩) cl.length cc,I j,.bool true,I gen2,.slice ba 0 bc,.slice ga gl.length gc] rfl (fun w4_ M4=>?_);replace zab:=zwb M4;go_wp2_with fail
  have hbx:=zab.o;have x0:=zaa (i:=0) hbx rfl;have x1:=zaa (i:=1) hbx rfl;replace EW:=zwe M4 (zwe M3 (zet (zet EW M1) M2) zbr) zbr;have y0:=EW.o.cell (HCELL.o 0 _ rfl);have y1:=EW.o.cell (HCELL.o 1 _ rfl);have y2:=EW.o.cell (HCELL.o 2 _ rfl);have y3:=EW.o.cell (HCELL.o 3 _ rfl);simp only [Nat.add_zero,<- Nat.add_assoc] at y0 y1 y2 y3;replace HC:=zwr M4 (zwr M3 (zme M2 (zme M1 HC)) zaF) zaF;replace HB:=zwr M4 (zwr M3 (zme M2 (zme M1 HB)) zaF) zaF;replace HG:=zwr M4 (zwr M3 (zme M2 (zme M1 HG)) zaF) zaF;replace zad:=zwg M4 (zwg M3 zad zay) zay;refine zan 12 [none,none,none,none,none,none,none,none,none,none,none,some (.inr fun v wx=>zdd w4_.heap.size wx v (zcq ⟨me,j,⟨xk,xa,xo,xn⟩⟩))] (by kernel_rfl) (by kernel_rfl) ?_ ?_
  ·exact ⟨trivial,trivial,trivial,trivial,trivial,trivial,trivial,trivial,trivial,trivial,trivial,zeQ _ _,trivial⟩
  refine zav (.agg #[.slice (some ⟨cb,co,none⟩) cl.length cc,I j,.bool true,I gen2,.slice ba 0 bc,.slice ga gl.length gc]) rfl (fun w' hw'=>zbQ 63 (.tmp 4) rfl b0 0 rfl (zbS hbx hw') [.slice (some ⟨cb,co,none⟩) cl.length cc,I j,.bool true,I gen2,.slice ba 0 bc,.slice ga gl.length gc] rfl zbG (by kernel_rfl)) ?_;refine zai fun K h=>?_; go_simp; refine h _ ?_; clear h K;(refine zap (fun K hK=>?_); go_simp; first | refine hK _ ?_ | refine ⟨(fun h=>by cases h),hK _ ?_⟩; clear hK K)
  (refine zap (fun K hK=>?_); go_simp; first | refine hK _ ?_ | refine ⟨(fun h=>by cases h),hK _ ?_⟩; clear hK K)
  refine zav (I j) rfl (fun w' hw'=>by have q0:=hw'.cell x1; go_simp) ?_;refine zai fun K h=>?_; go_simp; refine h _ ?_; clear h K;(refine zap (fun K hK=>?_); go_simp; first | refine hK _ ?_ | refine ⟨(fun h=>by cases h),hK _ ?_⟩; clear hK K)
  refine zav (.slice (some ⟨cb,co,none⟩) cl.length cc) rfl (fun w' hw'=>by have q0:=hw'.cell x0; go_simp) ?_;refine zai fun K h=>?_; go_simp; refine h _ ?_; clear h K;(refine zap (fun K hK=>?_); go_simp; first | refine hK _ ?_ | refine ⟨(fun h=>by cases h),hK _ ?_⟩; clear hK K)
  refine zav (I j) rfl (fun w' hw'=>by have q0:=hw'.cell x1; go_simp) ?_;refine zai fun K h=>?_; go_simp; refine h _ ?_; clear h K;(refine zap (fun K hK=>?_); go_simp; first | refine hK _ ?_ | refine ⟨(fun h=>by cases h),hK _ ?_⟩; clear hK K)
  refine zav (.agg #[I xk,I xa,I xo,I xn]) rfl (fun w' hw'=>by have q0:=hw'.cell y0; have q1:=hw'.cell y1; have q2:=hw'.cell y2; have q3:=hw'.cell y3; go_simp) ?_;refine zai fun K h=>?_; go_simp; refine h _ ?_; clear h K;(refine zap (fun K hK=>?_); go_simp; first | refine hK _ ?_ | refine ⟨(fun h=>by cases h),hK _ ?_⟩; clear hK K)
  refine za9 _ rfl (fun w' hw' hk=>?_) (fun v96=>?_)
  ·have hg:=zfu me j xk xa xo xn w';have hle:=hw'.size;clear hk;unfold zaL;go_simp
   exact ⟨Ext.refl _,hg.mono fun _ _ _ ⟨b,o,n,c,e,hb,h⟩=>⟨b,o,n,c,e,Nat.le_trans hle hb,h⟩⟩
  refine zai fun K h=>?_; go_simp; refine h _ ?_; clear h K;refine zaM ?_;intro w9 e9 hX;have hby:zdd w4_.heap.size w9 v96 (zcq ⟨me,j,⟨xk,xa,xo,xn⟩⟩):=hX 96;clear hX x0 x1 y0 y1 y2 y3 hbx;have hsz:w.heap.size+2<=w4_.heap.size:=by have q:=(zlt zad); have q2:=zaZ.o; omega
  have HBY:=zhd (hby.rd.widen (B:=B) (fun k _ h=>HK.o.2.1 k (by omega)));clear hby hsz;show wpList _ _ _ [_,_,_] _ _
  go_wp2_with (with_reducible refine zT ?_)
  replace zad:=zbx zad e9;refine zac rfl 63 (.tmp 8) (.tmp 85) rfl b1 rfl [.slice (some ⟨cb,co,none⟩) cl.length cc,I j,.bool true,I gen2,.slice ba 0 bc,.slice ga gl.length gc] (rfl) zad rfl zbF rfl (fun w5_ M5=>?_);replace zad:=zwb M5;go_wp2
  have z0:=zaq (P:=Tryz.prog) 63 zad.o zbG (by kernel_rfl);refine bodyPost_ret (by simp [results,Tryz.results28,asAddr,z0]; rfl) rfl ?_;replace HC:=zwr M5 (zrx HC e9) zau;replace HB:=zwr M5 (zrx HB e9) zau;replace HG:=zwr M5 (zrx HG e9) zau;replace EW:=zwe M5 (zhd (EW.o.trans e9)) za4;replace HBY:=zwr M5 HBY zau;exact ⟨_,rfl,EW.o,Rd.widen (A:=B) (zcw (zcN (c:=⟨cl,j,true,gen2,[],gl⟩) HC.o HB.o HG.o) HBY.o) (fun k _ h=>HK.o.2.2.2 k h)⟩
 ·go_enter Tryz.func28,Tryz.ntmps28
  go_wp2_with (with_reducible refine zT ?_)
  refine zaj rfl 63 (.tmp 0) rfl #[.slice (some ⟨cb,co,none⟩) cl.length cc,I j,.bool true,I gen,.slice ba 0 bc,.slice ga gl.length gc] rfl (fun b0 w1_ M1=>?_);have zab:=zmb M1;go_wp2_with (with_reducible refine zT ?_)
  refine zae rfl 63 zC (by kernel_rfl) (fun b1 w2_ M2=>?_);have zay:=zld zab M2;have zad:=zmb M2;have zaY:=zA0 M1;have zaF:=znb HK zaY (by decide);have zbr:=zob zaY;have zaZ:=zA1 zaY M1 M2;have zau:=znb HK zaZ (by decide);have za4:=zob zaZ;replace zab:=zmo M2 zab;have c0:=zaa (i:=0) zab.o rfl;have c1:=zaa (i:=1) zab.o rfl;have c2:=zaa (i:=2) zab.o rfl;have c3:=zaa (i:=3) zab.o rfl;have c4:=zaa (i:=4) zab.o rfl;go_wp2_with (with_reducible refine zT ?_)
  clear c0 c1 c2 c3 c4;refine zam rfl 4 (.tmp 83) (.const (.bool true)) rfl b0 2 rfl [.bool true] (rfl) zab rfl zi4 rfl [.slice (some ⟨cb,co,none⟩) cl.length cc,I j,.bool true,I gen,.slice ba 0 bc,.slice ga gl.length gc] rfl (fun w3_ M3=>?_);replace zab:=zwb M3;go_wp2_with (with_reducible refine zT ?_)
  refine zam rfl 3 (.tmp 84) (.tmp 82) rfl b0 3 rfl [I gen2] (rfl) zab rfl zi3 rfl [.slice (some ⟨cb,co,none⟩) cl.length cc,I j,.bool true,I gen2,.slice ba 0 bc,.slice ga gl.length gc] rfl (fun w4_ M4=>?_);replace zab:=zwb M4;go_wp2_with fail
  have hbx:=zab.o;have x0:=zaa (i:=0) hbx rfl;have x1:=zaa (i:=1) hbx rfl;replace EW:=zwe M4 (zwe M3 (zet (zet EW M1) M2) zbr) zbr;have y0:=EW.o.cell (HCELL.o 0 _ rfl);have y1:=EW.o.cell (HCELL.o 1 _ rfl);have y2:=EW.o.cell (HCELL.o 2 _ rfl);have y3:=EW.o.cell (HCELL.o 3 _ rfl);simp only [Nat.add_zero,<- Nat.add_assoc] at y0 y1 y2 y3;replace HC:=zwr M4 (zwr M3 (zme M2 (zme M1 HC)) zaF) zaF;replace HB:=zwr M4 (zwr M3 (zme M2 (zme M1 HB)) zaF) zaF;replace HG:=zwr M4 (zwr M3 (zme M2 (zme M1 HG)) zaF) zaF;replace zad:=zwg M4 (zwg M3 zad zay) zay;refine zan 12 [none,none,none,none,none,none,none,none,none,none,none,some (.inr fun v wx=>zdd w4_.heap.size wx v (zcq ⟨me,j,⟨xk,xa,xo,xn⟩⟩))] (by kernel_rfl) (by kernel_rfl) ?_ ?_
  ·exact ⟨trivial,trivial,trivial,trivial,trivial,trivial,trivial,trivial,trivial,trivial,trivial,zeQ _ _,trivial⟩
  refine zav (.agg #[.slice (some ⟨cb,co,none⟩) cl.length cc,I j,.bool true,I gen2,.slice ba 0 bc,.slice ga gl.length gc]) rfl (fun w' hw'=>zbQ 63 (.tmp 4) rfl b0 0 rfl (zbS hbx hw') [.slice (some ⟨cb,co,none⟩) cl.length cc,I j,.bool true,I gen2,.slice ba 0 bc,.slice ga gl.length gc] rfl zbG (by kernel_rfl)) ?_;refine zai fun K h=>?_; go_simp; refine h _ ?_; clear h K;(refine zap (fun K hK=>?_); go_simp; first | refine hK _ ?_ | refine ⟨(fun h=>by cases h),hK _ ?_⟩; clear hK K)
  (refine zap (fun K hK=>?_); go_simp; first | refine hK _ ?_ | refine ⟨(fun h=>by cases h),hK _ ?_⟩; clear hK K)
  refine zav (I j) rfl (fun w' hw'=>by have q0:=hw'.cell x1; go_simp) ?_;refine zai fun K h=>?_; go_simp; refine h _ ?_; clear h K;(refine zap (fun K hK=>?_); go_simp; first | refine hK _ ?_ | refine ⟨(fun h=>by cases h),hK _ ?_⟩; clear hK K)
  refine zav (.slice (some ⟨cb,co,none⟩) cl.length cc) rfl (fun w' hw'=>by have q0:=hw'.cell x0; go_simp) ?_;refine zai fun K h=>?_; go_simp; refine h _ ?_; clear h K;(refine zap (fun K hK=>?_); go_simp; first | refine hK _ ?_ | refine ⟨(fun h=>by cases h),hK _ ?_⟩; clear hK K)
  refine zav (I j) rfl (fun w' hw'=>by have q0:=hw'.cell x1; go_simp) ?_;refine zai fun K h=>?_; go_simp; refine h _ ?_; clear h K;(refine zap (fun K hK=>?_); go_simp; first | refine hK _ ?_ | refine ⟨(fun h=>by cases h),hK _ ?_⟩; clear hK K)
  refine zav (.agg #[I xk,I xa,I xo,I xn]) rfl (fun w' hw'=>by have q0:=hw'.cell y0; have q1:=hw'.cell y1; have q2:=hw'.cell y2; have q3:=hw'.cell y3; go_simp) ?_;refine zai fun K h=>?_; go_simp; refine h _ ?_; clear h K;(refine zap (fun K hK=>?_); go_simp; first | refine hK _ ?_ | refine ⟨(fun h=>by cases h),hK _ ?_⟩; clear hK K)
  refine za9 _ rfl (fun w' hw' hk=>?_) (fun v96=>?_)
  ·have hg:=zfu me j xk xa xo xn w';have hle:=hw'.size;clear hk;unfold zaL;go_simp
   exact ⟨Ext.refl _,hg.mono fun _ _ _ ⟨b,o,n,c,e,hb,h⟩=>⟨b,o,n,c,e,Nat.le_trans hle hb,h⟩⟩
  refine zai fun K h=>?_; go_simp; refine h _ ?_; clear h K;refine zaM ?_;intro w9 e9 hX;have hby:zdd w4_.heap.size w9 v96 (zcq ⟨me,j,⟨xk,xa,xo,xn⟩⟩):=hX 96;clear hX x0 x1 y0 y1 y2 y3 hbx;have hsz:w.heap.size+2<=w4_.heap.size:=by have q:=(zlt zad); have q2:=zaZ.o; omega
  have HBY:=zhd (hby.rd.widen (B:=B) (fun k _ h=>HK.o.2.1 k (by omega)));clear hby hsz;show wpList _ _ _ [_,_,_] _ _
  go_wp2_with (with_reducible refine zT ?_)
  replace zad:=zbx zad e9;refine zac rfl 63 (.tmp 8) (.tmp 85) rfl b1 rfl [.slice (some ⟨cb,co,none⟩) cl.length cc,I j,.bool true,I gen2,.slice ba 0 bc,.slice ga gl.length gc] (rfl) zad rfl zbF rfl (fun w5_ M5=>?_);replace zad:=zwb M5;go_wp2
  have z0:=zaq (P:=Tryz.prog) 63 zad.o zbG (by kernel_rfl);refine bodyPost_ret (by simp [results,Tryz.results28,asAddr,z0]; rfl) rfl ?_;replace HC:=zwr M5 (zrx HC e9) zau;replace HB:=zwr M5 (zrx HB e9) zau;replace HG:=zwr M5 (zrx HG e9) zau;replace EW:=zwe M5 (zhd (EW.o.trans e9)) za4;replace HBY:=zwr M5 HBY zau;exact ⟨_,rfl,EW.o,Rd.widen (A:=B) (zcw (zcN (c:=⟨cl,j,true,gen2,[],gl⟩) HC.o HB.o HG.o) HBY.o) (fun k _ h=>HK.o.2.2.2 k h)⟩

end Go.Proofs.YtdmipnnfoolelaeGreat
