/- Texts of the proof, merged: N5 R1. -/
import Derived.Test.YtdmipnnfoolelaeGreatKUA
import Derived.Test.YtdmipnnfoolelaeGreatKUP
import Derived.Test.YtdmipnnfoolelaeGreatKUE
import Derived.Test.YtdmipnnfoolelaeGreatKUI
set_option maxHeartbeats 4000000
set_option maxRecDepth 100000

namespace Go.Proofs.YtdmipnnfoolelaeGreat
open Go.RowKit Go.Mk

theorem Tryz.infoRp:(Tryz.prog.info? 39).map (fun i=>(i.zero,i.size,i.bytes))=some (some (.agg #[.int .i64 0,.int .i64 0]),2,16):=by kernel_rfl

theorem zh0 (cl:List Cl) (at_:Int) (sent:Bool) (gen:Int) (b:List UInt8) (l:List (List UInt8)) (gl:List Rp) (calls box got:Value) (me gen2:Int) (up:Bool) (w:World) (A:Nat->Prop)
  (hc:Rd A (fun w=>zar 4 zdk w calls cl) w) (hb:Rd A (fun w=>zar 1 zb0 w box (b::l)) w) (hg:Rd A (fun w=>zar 2 zdY w got gl) w) (h0:0<=at_) (h1:at_<=1000000) (hgl:gl.length<=1000) :
  zaQ Tryz.prog 28 #[.agg #[calls,I at_,.bool sent,I gen,box,got],I me,I gen2,.bool up] w A (fun r w'=>zll zcx (zcM ⟨cl,at_,sent,gen,(b::l),gl⟩ me gen2 up).1 (zcM ⟨cl,at_,sent,gen,(b::l),gl⟩ me gen2 up).2.1 (zcM ⟨cl,at_,sent,gen,(b::l),gl⟩ me gen2 up).2.2 r w'):=by
 unfold zaQ;obtain ⟨ca,cc,rfl⟩:=zaf hc.o;obtain ⟨ga,gc,rfl⟩:=zaf hg.o;have EW:=zhd (Ext.refl w);obtain ⟨B,hB⟩:=zdh A w.heap.size 2;have HK:=zhd hB;clear hB;have HC:=zhd (hc.widen HK.o.1);have HG:=zhd (hg.widen HK.o.1);obtain ⟨xb,xo,xc,bv,rfl,hx1,hx2,hf,hrest⟩:=zgO (hb.widen HK.o.1);have HF:=zhd hf;have HB:=zhd hrest;have HGL:=zhd hgl;unfold maxLen at hx2;clear hc hb hg hf hrest hgl;obtain ⟨⟨ac,at2,⟨re,rn⟩⟩,ae,hRA⟩:∃ x y,readAn b=(x,y):=⟨_,_,rfl⟩;have HRA:=zhd hRA
 have hX0:zcM ⟨cl,at_,sent,gen,(b::l),gl⟩ me gen2 up=if ae=0/\ac=me/\at2=at_/\sent=true then (⟨cl,at_+1,false,gen,l,gl++[⟨re,rn⟩]⟩,[],0) else (⟨cl,at_,sent,gen,l,gl⟩,[],0):=by
  show (if (readAn b).2=0/\(readAn b).1.client=me/\(readAn b).1.token=at_/\sent=true then _ else _)=_
  rw [hRA]
 clear hRA;obtain ⟨RC,RB,RE,hR⟩:∃ x y z,zcM ⟨cl,at_,sent,gen,(b::l),gl⟩ me gen2 up=(x,y,z):=⟨_,_,_,rfl⟩;rw [hR];rw [hR] at hX0;have HX:=zhd hX0;clear hX0 hR;by_cases hcap:xc=1
 case pos =>
  obtain rfl:l=[]:=List.eq_nil_of_length_eq_zero (by omega);subst hcap;simp only [List.length_nil,Nat.zero_add] at *;replace HB:=zhd (Rd.all (A:=B) (w:=w) fun w=>zeW (size:=1) (R:=zb0) w xb xo 0 (by decide));go_enter Tryz.func28,Tryz.ntmps28
  go_wp2_with (with_reducible refine zT ?_)
  refine zaj rfl 63 (.tmp 0) rfl #[.slice ca cl.length cc,I at_,.bool sent,I gen,.slice (some ⟨xb,xo,none⟩) 1 1,.slice ga gl.length gc] rfl (fun b0 w1_ M1=>?_);have zab:=zmb M1;go_wp2_with (with_reducible refine zT ?_)
  refine zae rfl 63 zC (by kernel_rfl) (fun b1 w2_ M2=>?_);have zay:=zld zab M2;have zad:=zmb M2;have zaY:=zA0 M1;have zaF:=znb HK zaY (by decide);have zbr:=zob zaY;have zaZ:=zA1 zaY M1 M2;have zau:=znb HK zaZ (by decide);have za4:=zob zaZ;replace zab:=zmo M2 zab;have c4:=zaa (i:=4) zab.o rfl;replace HF:=zme M2 (zme M1 HF);have cx:=HF.o.o.1;go_wp2_with fail
  clear c4 cx;have hl:=zeT bv b w2_ HF.o.o.2;rw [HRA.o] at hl;refine Calls.exts hl (fun wa ea=>?_);clear hl;go_wp2_with (with_reducible refine zT ?_)
  refine zae rfl 99 #[I 0,I 0,I 0,I 0] (by kernel_rfl) (fun b2 w3_ M3=>?_);replace zab:=zbx zab ea;have za2:=zld zab M3;replace zad:=zbx zad ea;have zaJ:=zld zad M3;obtain ⟨B1,HB1⟩:=zEx B b2;have zaT:=zNn HB1;have zfS:=zIn HB1;replace EW:=zhd ((zet (zet EW M1) M2).o.trans ea);have zbu:=zOn M3 EW;have zal:=zmb M3;go_wp2_with (with_reducible refine zT ?_)
  refine zac rfl 99 (.tmp 11) (.tmp 23) rfl b2 rfl [I ac,I at2,I re,I rn] (rfl) zal rfl zmF rfl (fun w4_ M4=>?_);replace zal:=zwb M4;replace zab:=zwl M4 (zmo M3 zab) za2;have c4:=zaa (i:=4) zab.o rfl;go_wp2_with (with_reducible refine zT ?_)
  clear c4;refine zam rfl 32 (.tmp 28) (.tmp 27) rfl b0 4 rfl [.slice (some ⟨xb,xo,none⟩) 0 0] (rfl) zab rfl zkP rfl [.slice ca cl.length cc,I at_,.bool sent,I gen,.slice (some ⟨xb,xo,none⟩) 0 0,.slice ga gl.length gc] rfl (fun w5_ M5=>?_);replace zab:=zwb M5;replace zaF:=znw HB1 zaF;replace HC:=zwr M5 (zwr M4 (zme M3 (zmd HB1 M3 (zrx (zme M2 (zme M1 HC)) ea))) zaT) zaF;replace HB:=zwr M5 (zwr M4 (zme M3 (zmd HB1 M3 (zrx (zme M2 (zme M1 HB)) ea))) zaT) zaF;replace HG:=zwr M5 (zwr M4 (zme M3 (zmd HB1 M3 (zrx (zme M2 (zme M1 HG)) ea))) zaT) zaF;replace HF:=zwr M5 (zwr M4 (zme M3 (zmd HB1 M3 (zrx HF ea))) zaT) zaF;replace zau:=znw HB1 zau;replace zad:=zwg M5 (zwl M4 (zmo M3 zad) zaJ) zay;replace EW:=zwe M5 (zwe M4 (zet EW M3) zbu) zbr;replace zal:=zwg M5 zal za2;by_cases a1:ae=0
  case neg =>
   have hb_a1:(ae == 0)=false:=by simpa using a1
   have HA:=zhd a1;clear a1;have d0:=zaa (i:=0) zal.o rfl;have d1:=zaa (i:=1) zal.o rfl;have c1:=zaa (i:=1) zab.o rfl;have c2:=zaa (i:=2) zab.o rfl;go_wp2_with (with_reducible refine zT ?_)
   clear d0 d1 c1 c2;refine zah rfl 63 (.tmp 4) rfl b0 rfl zab zbG zbF (fun v62 H_v62=>?_);go_wp2_with (with_reducible refine zT ?_)
   refine zac rfl 63 (.tmp 8) (.tmp 62) rfl b1 rfl _ (zcv H_v62) zad rfl zbF rfl (fun w6_ M6=>?_);replace zad:=zwb M6;go_wp2
   have z0:=zaq (P:=Tryz.prog) 63 zad.o zbG (by kernel_rfl);refine bodyPost_ret (by simp [results,Tryz.results28,asAddr,z0]; rfl) rfl ?_;have hres:=HX.o;rw [if_neg (fun h=>HA.o h.1)] at hres;obtain ⟨h1,h2⟩:=Prod.mk.inj hres;obtain ⟨h3,h4⟩:=Prod.mk.inj h2;subst h4;subst h3;subst h1;replace HC:=zwr M6 HC zau;replace HB:=zwr M6 HB zau;replace HG:=zwr M6 HG zau;replace EW:=zwe M6 EW za4;exact ⟨_,rfl,EW.o,Rd.widen (A:=B1) (zcw (zcN (c:=⟨cl,at_,sent,gen,[],gl⟩) HC.o HB.o HG.o) (Rd.all fun w=>zbc w)) (fun k _ h=>HK.o.2.2.2 k (zfS.o k h))⟩
  subst a1;by_cases a2:ac=me
  case neg =>
   have hb_a2:(ac == me)=false:=by simpa using a2
   have HA:=zhd a2;clear a2;have d0:=zaa (i:=0) zal.o rfl;have d1:=zaa (i:=1) zal.o rfl;have c1:=zaa (i:=1) zab.o rfl;have c2:=zaa (i:=2) zab.o rfl;go_wp2_with (with_reducible refine zT ?_)
   clear d0 d1 c1 c2;refine zah rfl 63 (.tmp 4) rfl b0 rfl zab zbG zbF (fun v62 H_v62=>?_);go_wp2_with (with_reducible refine zT ?_)
   refine zac rfl 63 (.tmp 8) (.tmp 62) rfl b1 rfl _ (zcv H_v62) zad rfl zbF rfl (fun w6_ M6=>?_);replace zad:=zwb M6;go_wp2
   have z0:=zaq (P:=Tryz.prog) 63 zad.o zbG (by kernel_rfl);refine bodyPost_ret (by simp [results,Tryz.results28,asAddr,z0]; rfl) rfl ?_;have hres:=HX.o;rw [if_neg (fun h=>HA.o h.2.1)] at hres;obtain ⟨h1,h2⟩:=Prod.mk.inj hres;obtain ⟨h3,h4⟩:=Prod.mk.inj h2;subst h4;subst h3;subst h1;replace HC:=zwr M6 HC zau;replace HB:=zwr M6 HB zau;replace HG:=zwr M6 HG zau;replace EW:=zwe M6 EW za4;exact ⟨_,rfl,EW.o,Rd.widen (A:=B1) (zcw (zcN (c:=⟨cl,at_,sent,gen,[],gl⟩) HC.o HB.o HG.o) (Rd.all fun w=>zbc w)) (fun k _ h=>HK.o.2.2.2 k (zfS.o k h))⟩
  subst a2;by_cases a3:at2=at_
  case neg =>
   have hb_a3:(at2 == at_)=false:=by simpa using a3
   have HA:=zhd a3;clear a3;have d0:=zaa (i:=0) zal.o rfl;have d1:=zaa (i:=1) zal.o rfl;have c1:=zaa (i:=1) zab.o rfl;have c2:=zaa (i:=2) zab.o rfl;go_wp2_with (with_reducible refine zT ?_)
   clear d0 d1 c1 c2;refine zah rfl 63 (.tmp 4) rfl b0 rfl zab zbG zbF (fun v62 H_v62=>?_);go_wp2_with (with_reducible refine zT ?_)
   refine zac rfl 63 (.tmp 8) (.tmp 62) rfl b1 rfl _ (zcv H_v62) zad rfl zbF rfl (fun w6_ M6=>?_);replace zad:=zwb M6;go_wp2
   have z0:=zaq (P:=Tryz.prog) 63 zad.o zbG (by kernel_rfl);refine bodyPost_ret (by simp [results,Tryz.results28,asAddr,z0]; rfl) rfl ?_;have hres:=HX.o;rw [if_neg (fun h=>HA.o h.2.2.1)] at hres;obtain ⟨h1,h2⟩:=Prod.mk.inj hres;obtain ⟨h3,h4⟩:=Prod.mk.inj h2;subst h4;subst h3;subst h1;replace HC:=zwr M6 HC zau;replace HB:=zwr M6 HB zau;replace HG:=zwr M6 HG zau;replace EW:=zwe M6 EW za4;exact ⟨_,rfl,EW.o,Rd.widen (A:=B1) (zcw (zcN (c:=⟨cl,at_,sent,gen,[],gl⟩) HC.o HB.o HG.o) (Rd.all fun w=>zbc w)) (fun k _ h=>HK.o.2.2.2 k (zfS.o k h))⟩
  replace a3:=a3.symm;subst a3;cases sent
  case false =>
   have d0:=zaa (i:=0) zal.o rfl;have d1:=zaa (i:=1) zal.o rfl;have c1:=zaa (i:=1) zab.o rfl;have c2:=zaa (i:=2) zab.o rfl;go_wp2_with (with_reducible refine zT ?_)
   clear d0 d1 c1 c2;refine zah rfl 63 (.tmp 4) rfl b0 rfl zab zbG zbF (fun v62 H_v62=>?_);go_wp2_with (with_reducible refine zT ?_)
   refine zac rfl 63 (.tmp 8) (.tmp 62) rfl b1 rfl _ (zcv H_v62) zad rfl zbF rfl (fun w6_ M6=>?_);replace zad:=zwb M6;go_wp2
   have z0:=zaq (P:=Tryz.prog) 63 zad.o zbG (by kernel_rfl);refine bodyPost_ret (by simp [results,Tryz.results28,asAddr,z0]; rfl) rfl ?_;have hres:=HX.o;rw [if_neg (fun h=>by cases h.2.2.2)] at hres;obtain ⟨h1,h2⟩:=Prod.mk.inj hres;obtain ⟨h3,h4⟩:=Prod.mk.inj h2;subst h4;subst h3;subst h1;replace HC:=zwr M6 HC zau;replace HB:=zwr M6 HB zau;replace HG:=zwr M6 HG zau;replace EW:=zwe M6 EW za4;exact ⟨_,rfl,EW.o,Rd.widen (A:=B1) (zcw (zcN (c:=⟨cl,at_,false,gen,[],gl⟩) HC.o HB.o HG.o) (Rd.all fun w=>zbc w)) (fun k _ h=>HK.o.2.2.2 k (zfS.o k h))⟩
  have d0:=zaa (i:=0) zal.o rfl;have d1:=zaa (i:=1) zal.o rfl;have c1:=zaa (i:=1) zab.o rfl;have c2:=zaa (i:=2) zab.o rfl;go_wp2_with fail
  clear d0 d1 c1 c2;have hbx:=zab.o;have hby:=zal.o;have x5:=zaa (i:=5) hbx rfl;have y2:=zaa (i:=2) hby rfl;have y3:=zaa (i:=3) hby rfl;obtain ⟨i0,hi,hz0,hz1,hz2⟩:=info_parts Tryz.infoRp;have HI:=zhd hi;clear hi;refine zci 7 [some (.inr (zdc w5_.heap.size 39 2 0 [])),none,none,some (.inr fun v wx=>wx.ownsRow w5_.heap.size 39 2 v (0+gl.length) ([]++zbI gl)),none,none,some (.inr fun v wx=>Row wx 2 v 1 (zbI [⟨re,rn⟩]))] (fun v wx=>wx.ownsRow w5_.heap.size 39 2 v (0+gl.length+1) ([]++zbI gl++zbI [⟨re,rn⟩])) (by kernel_rfl) (by kernel_rfl) (by kernel_rfl) ?_ (fun v=>zcb _ _ _ _ _ v) ?_
  ·exact ⟨zga _ _ _ _ _,trivial,trivial,zcb _ _ _ _ _,trivial,trivial,fun _ _ _ he h=>Row.ext h he,trivial⟩
  refine za9 _ rfl (fun w' hw' hk=>?_) (fun v48=>?_)
  ·have hsz:=hw'.size;clear hk;unfold zaL;go_simp
   exact ⟨(Ext.refl _).alloc _,zft #[] 0 hsz (by decide) rfl⟩
  refine zai fun K h=>?_; go_simp; refine h _ ?_; clear h K;(refine zap (fun K hK=>?_); go_simp; first | refine hK _ ?_ | refine ⟨(fun h=>by cases h),hK _ ?_⟩; clear hK K)
  refine zav (.slice ga gl.length gc) rfl (fun w' hw'=>by have q0:=hw'.cell x5; go_simp) ?_;refine zai fun K h=>?_; go_simp; refine h _ ?_; clear h K;refine za9 _ rfl (fun w' hw' hk=>?_) (fun v51=>?_)
  ·have h48:zdc w5_.heap.size 39 2 0 [] v48 w':=hk 48 (by decide);obtain ⟨vv,ww,hrun,hoo,hee⟩:=zbY (P:=Tryz.prog) w' w5_.heap.size 55 55 39 i0 _ 2 16 zlr HI.o hz0 hz1 hz2 rfl (by decide) v48 0 _ h48 (.slice ga gl.length gc) gl.length _ ((zfa.1 HG.o.o).ext hw') (zeN _) (by have:=HGL.o; omega) (by decide) hw'.size;exact zcY rfl rfl rfl hrun hee hoo
  refine zai fun K h=>?_; go_simp; refine h _ ?_; clear h K;(refine zap (fun K hK=>?_); go_simp; first | refine hK _ ?_ | refine ⟨(fun h=>by cases h),hK _ ?_⟩; clear hK K)
  refine zav (.agg #[I re,I rn]) rfl (fun w' hw'=>by have q0:=hw'.cell y2; have q1:=hw'.cell y3; go_simp) ?_;refine zai fun K h=>?_; go_simp; refine h _ ?_; clear h K;refine za9 _ rfl (fun w' hw' hk=>?_) (fun v54=>?_)
  ·skip;clear hk;unfold zaL;go_simp
   exact ⟨(Ext.refl _).alloc _,Row.of_owns (World.ownsRow_lit (base:=0) (size:=2) w' _ 1 (Nat.zero_le _) (by decide) rfl)⟩
  refine zai fun K h=>?_; go_simp; refine h _ ?_; clear h K;refine zaM ⟨_,_,rfl,rfl,rfl,fun w' hw' hk=>?_,fun v55 w9 e9 ho9=>?_⟩
  ·have h51:w'.ownsRow w5_.heap.size 39 2 v51 (0+gl.length) ([]++zbI gl):=hk 51 (by decide);have h54:Row w' 2 v54 1 (zbI [⟨re,rn⟩]):=hk 54 (by decide);obtain ⟨vv,ww,hrun,hoo,hgg⟩:=zca (P:=Tryz.prog) w' w5_.heap.size 55 55 39 i0 _ 2 16 zlr HI.o hz0 hz1 hz2 rfl (by decide) v51 _ _ h51 v54 1 _ h54 (zeN _) (by have:=HGL.o; omega) (by decide) hw'.size;exact ⟨vv,ww,zdq rfl rfl rfl hrun,hw'.grown hgg (fun j hj=>(h51.lt j hj).1),hoo⟩
  clear x5 y2 y3 hbx hby;have hro:Rd (fun k=>w5_.heap.size<=k) (fun w=>zar 2 zdY w v55 (gl++[⟨re,rn⟩])) w9:=zgq (by simpa [zeg] using ho9);obtain ⟨qa,qc,hqs⟩:=zaf hro.o;rw [show (gl++[(⟨re,rn⟩:Rp)]).length=gl.length+1 by simp] at hqs;subst hqs;have hsz:w.heap.size+2<=w5_.heap.size:=by have q:=(zlt zad); have q2:=zaZ.o; omega
  have hsz2:b2 < w5_.heap.size:=(zlt zal);have HRO:=zhd (hro.widen (B:=B1) (fun k _ h=>(HB1.o k).2 ⟨HK.o.2.1 k (by omega),by omega⟩));clear hro ho9 hsz hsz2;show wpList _ _ _ [_,_] _ _
  go_wp2_with (with_reducible refine zT ?_)
  replace zab:=zbx zab e9;refine zam rfl 55 (.tmp 56) (.tmp 55) rfl b0 5 rfl [.slice qa (gl.length+1) qc] (rfl) zab rfl zqC rfl [.slice ca cl.length cc,I at_,.bool true,I gen,.slice (some ⟨xb,xo,none⟩) 0 0,.slice qa (gl.length+1) qc] rfl (fun w6_ M6=>?_);replace zab:=zwb M6;have c1:=zaa (i:=1) zab.o rfl;go_wp2_with (with_reducible refine zT ?_)
  clear c1;refine zam rfl 3 (.tmp 60) (.tmp 59) rfl b0 1 rfl [I (at_+1)] (rfl) zab rfl zi3 rfl [.slice ca cl.length cc,I (at_+1),.bool true,I gen,.slice (some ⟨xb,xo,none⟩) 0 0,.slice qa (gl.length+1) qc] rfl (fun w7_ M7=>?_);replace zab:=zwb M7;go_wp2_with (with_reducible refine zT ?_)
  refine zam rfl 4 (.tmp 61) (.const (.bool false)) rfl b0 2 rfl [.bool false] (rfl) zab rfl zi4 rfl [.slice ca cl.length cc,I (at_+1),.bool false,I gen,.slice (some ⟨xb,xo,none⟩) 0 0,.slice qa (gl.length+1) qc] rfl (fun w8_ M8=>?_);replace zab:=zwb M8;go_wp2_with (with_reducible refine zT ?_)
  refine zah rfl 63 (.tmp 4) rfl b0 rfl zab zbG zbF (fun v62 H_v62=>?_);go_wp2_with (with_reducible refine zT ?_)
  replace zad:=zwg M8 (zwg M7 (zwg M6 (zbx zad e9) zay) zay) zay;refine zac rfl 63 (.tmp 8) (.tmp 62) rfl b1 rfl _ (zcv H_v62) zad rfl zbF rfl (fun w9_ M9=>?_);replace zad:=zwb M9;go_wp2
  have z0:=zaq (P:=Tryz.prog) 63 zad.o zbG (by kernel_rfl);refine bodyPost_ret (by simp [results,Tryz.results28,asAddr,z0]; rfl) rfl ?_;have hres:=HX.o;rw [if_pos (by simp)] at hres;obtain ⟨h1,h2⟩:=Prod.mk.inj hres;obtain ⟨h3,h4⟩:=Prod.mk.inj h2;subst h4;subst h3;subst h1;replace HC:=zwr M9 (zwr M8 (zwr M7 (zwr M6 (zrx HC e9) zaF) zaF) zaF) zau;replace HB:=zwr M9 (zwr M8 (zwr M7 (zwr M6 (zrx HB e9) zaF) zaF) zaF) zau;replace EW:=zwe M9 (zwe M8 (zwe M7 (zwe M6 (zhd (EW.o.trans e9)) zbr) zbr) zbr) za4;replace HRO:=zwr M9 (zwr M8 (zwr M7 (zwr M6 HRO zaF) zaF) zaF) zau;exact ⟨_,rfl,EW.o,Rd.widen (A:=B1) (zcw (zcN (c:=⟨cl,(at_+1),false,gen,[],(gl++[⟨re,rn⟩])⟩) HC.o HB.o HRO.o) (Rd.all fun w=>zbc w)) (fun k _ h=>HK.o.2.2.2 k (zfS.o k h))⟩
 go_enter Tryz.func28,Tryz.ntmps28
 go_wp2_with (with_reducible refine zT ?_)
 refine zaj rfl 63 (.tmp 0) rfl #[.slice ca cl.length cc,I at_,.bool sent,I gen,.slice (some ⟨xb,xo,none⟩) (l.length+1) xc,.slice ga gl.length gc] rfl (fun b0 w1_ M1=>?_);have zab:=zmb M1;go_wp2_with (with_reducible refine zT ?_)
 refine zae rfl 63 zC (by kernel_rfl) (fun b1 w2_ M2=>?_);have zay:=zld zab M2;have zad:=zmb M2;have zaY:=zA0 M1;have zaF:=znb HK zaY (by decide);have zbr:=zob zaY;have zaZ:=zA1 zaY M1 M2;have zau:=znb HK zaZ (by decide);have za4:=zob zaZ;replace zab:=zmo M2 zab;have c4:=zaa (i:=4) zab.o rfl;replace HF:=zme M2 (zme M1 HF);have cx:=HF.o.o.1;go_wp2_with fail
 clear c4 cx;have hl:=zeT bv b w2_ HF.o.o.2;rw [HRA.o] at hl;refine Calls.exts hl (fun wa ea=>?_);clear hl;go_wp2_with (with_reducible refine zT ?_)
 refine zae rfl 99 #[I 0,I 0,I 0,I 0] (by kernel_rfl) (fun b2 w3_ M3=>?_);replace zab:=zbx zab ea;have za2:=zld zab M3;replace zad:=zbx zad ea;have zaJ:=zld zad M3;obtain ⟨B1,HB1⟩:=zEx B b2;have zaT:=zNn HB1;have zfS:=zIn HB1;replace EW:=zhd ((zet (zet EW M1) M2).o.trans ea);have zbu:=zOn M3 EW;have zal:=zmb M3;go_wp2_with (with_reducible refine zT ?_)
 refine zac rfl 99 (.tmp 11) (.tmp 23) rfl b2 rfl [I ac,I at2,I re,I rn] (rfl) zal rfl zmF rfl (fun w4_ M4=>?_);replace zal:=zwb M4;replace zab:=zwl M4 (zmo M3 zab) za2;have c4:=zaa (i:=4) zab.o rfl;go_wp2_with (with_reducible refine zT ?_)
 clear c4;refine zam rfl 32 (.tmp 28) (.tmp 27) rfl b0 4 rfl [.slice (some ⟨xb,xo+1,none⟩) l.length (xc - 1)] (rfl) zab rfl zkP rfl [.slice ca cl.length cc,I at_,.bool sent,I gen,.slice (some ⟨xb,xo+1,none⟩) l.length (xc - 1),.slice ga gl.length gc] rfl (fun w5_ M5=>?_);replace zab:=zwb M5;replace zaF:=znw HB1 zaF;replace HC:=zwr M5 (zwr M4 (zme M3 (zmd HB1 M3 (zrx (zme M2 (zme M1 HC)) ea))) zaT) zaF;replace HB:=zwr M5 (zwr M4 (zme M3 (zmd HB1 M3 (zrx (zme M2 (zme M1 HB)) ea))) zaT) zaF;replace HG:=zwr M5 (zwr M4 (zme M3 (zmd HB1 M3 (zrx (zme M2 (zme M1 HG)) ea))) zaT) zaF;replace HF:=zwr M5 (zwr M4 (zme M3 (zmd HB1 M3 (zrx HF ea))) zaT) zaF;replace zau:=znw HB1 zau;replace zad:=zwg M5 (zwl M4 (zmo M3 zad) zaJ) zay;replace EW:=zwe M5 (zwe M4 (zet EW M3) zbu) zbr;replace zal:=zwg M5 zal za2;by_cases a1:ae=0
 case neg =>
  have hb_a1:(ae == 0)=false:=by simpa using a1
  have HA:=zhd a1;clear a1;have d0:=zaa (i:=0) zal.o rfl;have d1:=zaa (i:=1) zal.o rfl;have c1:=zaa (i:=1) zab.o rfl;have c2:=zaa (i:=2) zab.o rfl;go_wp2_with (with_reducible refine zT ?_)
  clear d0 d1 c1 c2;refine zah rfl 63 (.tmp 4) rfl b0 rfl zab zbG zbF (fun v62 H_v62=>?_);go_wp2_with (with_reducible refine zT ?_)
  refine zac rfl 63 (.tmp 8) (.tmp 62) rfl b1 rfl _ (zcv H_v62) zad rfl zbF rfl (fun w6_ M6=>?_);replace zad:=zwb M6;go_wp2
  have z0:=zaq (P:=Tryz.prog) 63 zad.o zbG (by kernel_rfl);refine bodyPost_ret (by simp [results,Tryz.results28,asAddr,z0]; rfl) rfl ?_;have hres:=HX.o;rw [if_neg (fun h=>HA.o h.1)] at hres;obtain ⟨h1,h2⟩:=Prod.mk.inj hres;obtain ⟨h3,h4⟩:=Prod.mk.inj h2;subst h4;subst h3;subst h1;replace HC:=zwr M6 HC zau;replace HB:=zwr M6 HB zau;replace HG:=zwr M6 HG zau;replace EW:=zwe M6 EW za4;exact ⟨_,rfl,EW.o,Rd.widen (A:=B1) (zcw (zcN (c:=⟨cl,at_,sent,gen,l,gl⟩) HC.o HB.o HG.o) (Rd.all fun w=>zbc w)) (fun k _ h=>HK.o.2.2.2 k (zfS.o k h))⟩
 subst a1;by_cases a2:ac=me
 case neg =>
  have hb_a2:(ac == me)=false:=by simpa using a2
  have HA:=zhd a2;clear a2;have d0:=zaa (i:=0) zal.o rfl;have d1:=zaa (i:=1) zal.o rfl;have c1:=zaa (i:=1) zab.o rfl;have c2:=zaa (i:=2) zab.o rfl;go_wp2_with (with_reducible refine zT ?_)
  clear d0 d1 c1 c2;refine zah rfl 63 (.tmp 4) rfl b0 rfl zab zbG zbF (fun v62 H_v62=>?_);go_wp2_with (with_reducible refine zT ?_)
  refine zac rfl 63 (.tmp 8) (.tmp 62) rfl b1 rfl _ (zcv H_v62) zad rfl zbF rfl (fun w6_ M6=>?_);replace zad:=zwb M6;go_wp2
  have z0:=zaq (P:=Tryz.prog) 63 zad.o zbG (by kernel_rfl);refine bodyPost_ret (by simp [results,Tryz.results28,asAddr,z0]; rfl) rfl ?_;have hres:=HX.o;rw [if_neg (fun h=>HA.o h.2.1)] at hres;obtain ⟨h1,h2⟩:=Prod.mk.inj hres;obtain ⟨h3,h4⟩:=Prod.mk.inj h2;subst h4;subst h3;subst h1;replace HC:=zwr M6 HC zau;replace HB:=zwr M6 HB zau;replace HG:=zwr M6 HG zau;replace EW:=zwe M6 EW za4;exact ⟨_,rfl,EW.o,Rd.widen (A:=B1) (zcw (zcN (c:=⟨cl,at_,sent,gen,l,gl⟩) HC.o HB.o HG.o) (Rd.all fun w=>zbc w)) (fun k _ h=>HK.o.2.2.2 k (zfS.o k h))⟩
 subst a2;by_cases a3:at2=at_
 case neg =>
  have hb_a3:(at2 == at_)=false:=by simpa using a3
  have HA:=zhd a3;clear a3;have d0:=zaa (i:=0) zal.o rfl;have d1:=zaa (i:=1) zal.o rfl;have c1:=zaa (i:=1) zab.o rfl;have c2:=zaa (i:=2) zab.o rfl;go_wp2_with (with_reducible refine zT ?_)
  clear d0 d1 c1 c2;refine zah rfl 63 (.tmp 4) rfl b0 rfl zab zbG zbF (fun v62 H_v62=>?_);go_wp2_with (with_reducible refine zT ?_)
  refine zac rfl 63 (.tmp 8) (.tmp 62) rfl b1 rfl _ (zcv H_v62) zad rfl zbF rfl (fun w6_ M6=>?_);replace zad:=zwb M6;go_wp2
  have z0:=zaq (P:=Tryz.prog) 63 zad.o zbG (by kernel_rfl);refine bodyPost_ret (by simp [results,Tryz.results28,asAddr,z0]; rfl) rfl ?_;have hres:=HX.o;rw [if_neg (fun h=>HA.o h.2.2.1)] at hres;obtain ⟨h1,h2⟩:=Prod.mk.inj hres;obtain ⟨h3,h4⟩:=Prod.mk.inj h2;subst h4;subst h3;subst h1;replace HC:=zwr M6 HC zau;replace HB:=zwr M6 HB zau;replace HG:=zwr M6 HG zau;replace EW:=zwe M6 EW za4;exact ⟨_,rfl,EW.o,Rd.widen (A:=B1) (zcw (zcN (c:=⟨cl,at_,sent,gen,l,gl⟩) HC.o HB.o HG.o) (Rd.all fun w=>zbc w)) (fun k _ h=>HK.o.2.2.2 k (zfS.o k h))⟩
 replace a3:=a3.symm;subst a3;cases sent
 case false =>
  have d0:=zaa (i:=0) zal.o rfl;have d1:=zaa (i:=1) zal.o rfl;have c1:=zaa (i:=1) zab.o rfl;have c2:=zaa (i:=2) zab.o rfl;go_wp2_with (with_reducible refine zT ?_)
  clear d0 d1 c1 c2;refine zah rfl 63 (.tmp 4) rfl b0 rfl zab zbG zbF (fun v62 H_v62=>?_);go_wp2_with (with_reducible refine zT ?_)
  refine zac rfl 63 (.tmp 8) (.tmp 62) rfl b1 rfl _ (zcv H_v62) zad rfl zbF rfl (fun w6_ M6=>?_);replace zad:=zwb M6;go_wp2
  have z0:=zaq (P:=Tryz.prog) 63 zad.o zbG (by kernel_rfl);refine bodyPost_ret (by simp [results,Tryz.results28,asAddr,z0]; rfl) rfl ?_;have hres:=HX.o;rw [if_neg (fun h=>by cases h.2.2.2)] at hres;obtain ⟨h1,h2⟩:=Prod.mk.inj hres;obtain ⟨h3,h4⟩:=Prod.mk.inj h2;subst h4;subst h3;subst h1;replace HC:=zwr M6 HC zau;replace HB:=zwr M6 HB zau;replace HG:=zwr M6 HG zau;replace EW:=zwe M6 EW za4;exact ⟨_,rfl,EW.o,Rd.widen (A:=B1) (zcw (zcN (c:=⟨cl,at_,false,gen,l,gl⟩) HC.o HB.o HG.o) (Rd.all fun w=>zbc w)) (fun k _ h=>HK.o.2.2.2 k (zfS.o k h))⟩
 have d0:=zaa (i:=0) zal.o rfl;have d1:=zaa (i:=1) zal.o rfl;have c1:=zaa (i:=1) zab.o rfl;have c2:=zaa (i:=2) zab.o rfl;go_wp2_with fail
 clear d0 d1 c1 c2;have hbx:=zab.o;have hby:=zal.o;have x5:=zaa (i:=5) hbx rfl;have y2:=zaa (i:=2) hby rfl;have y3:=zaa (i:=3) hby rfl;obtain ⟨i0,hi,hz0,hz1,hz2⟩:=info_parts Tryz.infoRp;have HI:=zhd hi;clear hi;refine zci 7 [some (.inr (zdc w5_.heap.size 39 2 0 [])),none,none,some (.inr fun v wx=>wx.ownsRow w5_.heap.size 39 2 v (0+gl.length) ([]++zbI gl)),none,none,some (.inr fun v wx=>Row wx 2 v 1 (zbI [⟨re,rn⟩]))] (fun v wx=>wx.ownsRow w5_.heap.size 39 2 v (0+gl.length+1) ([]++zbI gl++zbI [⟨re,rn⟩])) (by kernel_rfl) (by kernel_rfl) (by kernel_rfl) ?_ (fun v=>zcb _ _ _ _ _ v) ?_
 ·exact ⟨zga _ _ _ _ _,trivial,trivial,zcb _ _ _ _ _,trivial,trivial,fun _ _ _ he h=>Row.ext h he,trivial⟩
 refine za9 _ rfl (fun w' hw' hk=>?_) (fun v48=>?_)
 ·have hsz:=hw'.size;clear hk;unfold zaL;go_simp
  exact ⟨(Ext.refl _).alloc _,zft #[] 0 hsz (by decide) rfl⟩
 refine zai fun K h=>?_; go_simp; refine h _ ?_; clear h K;(refine zap (fun K hK=>?_); go_simp; first | refine hK _ ?_ | refine ⟨(fun h=>by cases h),hK _ ?_⟩; clear hK K)
 refine zav (.slice ga gl.length gc) rfl (fun w' hw'=>by have q0:=hw'.cell x5; go_simp) ?_;refine zai fun K h=>?_; go_simp; refine h _ ?_; clear h K;refine za9 _ rfl (fun w' hw' hk=>?_) (fun v51=>?_)
 ·have h48:zdc w5_.heap.size 39 2 0 [] v48 w':=hk 48 (by decide);obtain ⟨vv,ww,hrun,hoo,hee⟩:=zbY (P:=Tryz.prog) w' w5_.heap.size 55 55 39 i0 _ 2 16 zlr HI.o hz0 hz1 hz2 rfl (by decide) v48 0 _ h48 (.slice ga gl.length gc) gl.length _ ((zfa.1 HG.o.o).ext hw') (zeN _) (by have:=HGL.o; omega) (by decide) hw'.size;exact zcY rfl rfl rfl hrun hee hoo
 refine zai fun K h=>?_; go_simp; refine h _ ?_; clear h K;(refine zap (fun K hK=>?_); go_simp; first | refine hK _ ?_ | refine ⟨(fun h=>by cases h),hK _ ?_⟩; clear hK K)
 refine zav (.agg #[I re,I rn]) rfl (fun w' hw'=>by have q0:=hw'.cell y2; have q1:=hw'.cell y3; go_simp) ?_;refine zai fun K h=>?_; go_simp; refine h _ ?_; clear h K;refine za9 _ rfl (fun w' hw' hk=>?_) (fun v54=>?_)
 ·skip;clear hk;unfold zaL;go_simp
  exact ⟨(Ext.refl _).alloc _,Row.of_owns (World.ownsRow_lit (base:=0) (size:=2) w' _ 1 (Nat.zero_le _) (by decide) rfl)⟩
 refine zai fun K h=>?_; go_simp; refine h _ ?_; clear h K;refine zaM ⟨_,_,rfl,rfl,rfl,fun w' hw' hk=>?_,fun v55 w9 e9 ho9=>?_⟩
 ·have h51:w'.ownsRow w5_.heap.size 39 2 v51 (0+gl.length) ([]++zbI gl):=hk 51 (by decide);have h54:Row w' 2 v54 1 (zbI [⟨re,rn⟩]):=hk 54 (by decide);obtain ⟨vv,ww,hrun,hoo,hgg⟩:=zca (P:=Tryz.prog) w' w5_.heap.size 55 55 39 i0 _ 2 16 zlr HI.o hz0 hz1 hz2 rfl (by decide) v51 _ _ h51 v54 1 _ h54 (zeN _) (by have:=HGL.o; omega) (by decide) hw'.size;exact ⟨vv,ww,zdq rfl rfl rfl hrun,hw'.grown hgg (fun j hj=>(h51.lt j hj).1),hoo⟩
 clear x5 y2 y3 hbx hby;have hro:Rd (fun k=>w5_.heap.size<=k) (fun w=>zar 2 zdY w v55 (gl++[⟨re,rn⟩])) w9:=zgq (by simpa [zeg] using ho9);obtain ⟨qa,qc,hqs⟩:=zaf hro.o;rw [show (gl++[(⟨re,rn⟩:Rp)]).length=gl.length+1 by simp] at hqs;subst hqs;have hsz:w.heap.size+2<=w5_.heap.size:=by have q:=(zlt zad); have q2:=zaZ.o; omega
 have hsz2:b2 < w5_.heap.size:=(zlt zal);have HRO:=zhd (hro.widen (B:=B1) (fun k _ h=>(HB1.o k).2 ⟨HK.o.2.1 k (by omega),by omega⟩));clear hro ho9 hsz hsz2;show wpList _ _ _ [_,_] _ _
 go_wp2_with (with_reducible refine zT ?_)
 replace zab:=zbx zab e9;refine zam rfl 55 (.tmp 56) (.tmp 55) rfl b0 5 rfl [.slice qa (gl.length+1) qc] (rfl) zab rfl zqC rfl [.slice ca cl.length cc,I at_,.bool true,I gen,.slice (some ⟨xb,xo+1,none⟩) l.length (xc - 1),.slice qa (gl.length+1) qc] rfl (fun w6_ M6=>?_);replace zab:=zwb M6;have c1:=zaa (i:=1) zab.o rfl;go_wp2_with (with_reducible refine zT ?_)
 clear c1;refine zam rfl 3 (.tmp 60) (.tmp 59) rfl b0 1 rfl [I (at_+1)] (rfl) zab rfl zi3 rfl [.slice ca cl.length cc,I (at_+1),.bool true,I gen,.slice (some ⟨xb,xo+1,none⟩) l.length (xc - 1),.slice qa (gl.length+1) qc] rfl (fun w7_ M7=>?_);replace zab:=zwb M7;go_wp2_with (with_reducible refine zT ?_)
 refine zam rfl 4 (.tmp 61) (.const (.bool false)) rfl b0 2 rfl [.bool false] (rfl) zab rfl zi4 rfl [.slice ca cl.length cc,I (at_+1),.bool false,I gen,.slice (some ⟨xb,xo+1,none⟩) l.length (xc - 1),.slice qa (gl.length+1) qc] rfl (fun w8_ M8=>?_);replace zab:=zwb M8;go_wp2_with (with_reducible refine zT ?_)
 refine zah rfl 63 (.tmp 4) rfl b0 rfl zab zbG zbF (fun v62 H_v62=>?_);go_wp2_with (with_reducible refine zT ?_)
 replace zad:=zwg M8 (zwg M7 (zwg M6 (zbx zad e9) zay) zay) zay;refine zac rfl 63 (.tmp 8) (.tmp 62) rfl b1 rfl _ (zcv H_v62) zad rfl zbF rfl (fun w9_ M9=>?_);replace zad:=zwb M9;go_wp2
 have z0:=zaq (P:=Tryz.prog) 63 zad.o zbG (by kernel_rfl);refine bodyPost_ret (by simp [results,Tryz.results28,asAddr,z0]; rfl) rfl ?_;have hres:=HX.o;rw [if_pos (by simp)] at hres;obtain ⟨h1,h2⟩:=Prod.mk.inj hres;obtain ⟨h3,h4⟩:=Prod.mk.inj h2;subst h4;subst h3;subst h1;replace HC:=zwr M9 (zwr M8 (zwr M7 (zwr M6 (zrx HC e9) zaF) zaF) zaF) zau;replace HB:=zwr M9 (zwr M8 (zwr M7 (zwr M6 (zrx HB e9) zaF) zaF) zaF) zau;replace EW:=zwe M9 (zwe M8 (zwe M7 (zwe M6 (zhd (EW.o.trans e9)) zbr) zbr) zbr) za4;replace HRO:=zwr M9 (zwr M8 (zwr M7 (zwr M6 HRO zaF) zaF) zaF) zau;exact ⟨_,rfl,EW.o,Rd.widen (A:=B1) (zcw (zcN (c:=⟨cl,(at_+1),false,gen,l,(gl++[⟨re,rn⟩])⟩) HC.o HB.o HRO.o) (Rd.all fun w=>zbc w)) (fun k _ h=>HK.o.2.2.2 k (zfS.o k h))⟩

open Go.RowKit Go.Mk

def zb9 (l:List (Int×Int)) (name n:Int):List (Int×Int):=l.map fun p=>if p.1=name then (p.1,n) else p

theorem zot (l:List (Int×Int)) (p:Int×Int) (name n:Int):zb9 (l++[p]) name n=zb9 l name n++[if p.1=name then (p.1,n) else p]:=by simp [zb9]

theorem zbH (l:List (Int×Int)) (name n:Int):(zb9 l name n).length=l.length:=by simp [zb9]

theorem zkd {l:List (Int×Int)} (h:Okn l) {name:Int} (ha:at1 l name < l.length) (n:Int):zb9 l name n=zco l (at1 l name) n:=by
 refine zhC (by rw [zbH,zaN]) fun j hj=>?_
 rw [zbH] at hj
 rw [zdH _ _ _ _ ha]
 have e:(zb9 l name n).getD j (0,0)=if (l.getD j (0,0)).1=name then ((l.getD j (0,0)).1,n) else l.getD j (0,0):=by
  simp [zb9,List.getD_eq_getElem?_getD,hj]
 rw [e]
 by_cases hn:(l.getD j (0,0)).1=name
 ·have:at1 l name=j:=h.uni ha hj (by rw [zc6 ha,hn])
  rw [if_pos hn,if_pos this]
 ·have:at1 l name≠j:=fun e=>hn (by rw [<- e]; exact zc6 ha)
  rw [if_neg hn,if_neg this]

theorem zn0 {l:List (Int×Int)} {name:Int} (ha:¬ at1 l name < l.length) (n:Int):zb9 l name n=l:=by
 have e:at1 l name=l.length:=by have:=zjL l name; omega
 refine zhC (zbH _ _ _) fun j hj=>?_
 rw [zbH] at hj
 have hn:(l.getD j (0,0)).1≠name:=zdE (by omega)
 simp [zb9,List.getD_eq_getElem?_getD,hj] at hn ⊢
 intro h
 exact absurd h hn

def zrg (l:List (Int×Int)) (name:Int):Int:=if at1 l name < l.length then num l (at1 l name) else 0

def isR (l:List (Int×Int)) (name:Int):Bool:=decide (at1 l name < l.length)

def zib (l:List (Int×Int)) (name:Int) (k:Nat):Bool:=decide (at1 l name < k)

theorem zeF {l:List (Int×Int)} {name:Int} (h:at1 l name < l.length):zrg l name=num l (at1 l name):=if_pos h

theorem zfE {l:List (Int×Int)} {name:Int} (h:at1 l name < l.length):isR l name=true:=decide_eq_true h

theorem zgL {l:List (Int×Int)} {name:Int} (h:¬ at1 l name < l.length):zrg l name=0:=if_neg h

theorem zhA {l:List (Int×Int)} {name:Int} (h:¬ at1 l name < l.length):isR l name=false:=decide_eq_false h

theorem zem (v:Value) (l:List (Int×Int)) (name:Int) (w:World) (hv:zax w v l) :
  Calls Tryz.prog 60 #[v,I name] w fun e w'=>e=.returned (.tuple #[I (zrg l name),.bool (isR l name)])/\Ext w w':=by
 obtain ⟨ao,cap,rfl,h1,h2,h3⟩:=hv.form;unfold maxLen at h2;clear hv;go_enter Tryz.func60,Tryz.ntmps60
 go_wp2
 go_loopw [10] (fun i wr=>∃ k:Nat,k<=l.length/\i=I k/\(∀ j,j < k->(l.getD j (0,0)).1≠name)/\Ext w wr) (fun i _=>l.length - (intOf i).toNat)
 case atStart=>exact ⟨0,by omega,rfl,fun j hj=>by omega,Ext.refl w⟩
 case round =>
  obtain ⟨k,hk,rfl,hf,he⟩:=hrel;have HF:Hid (∀ j,j < k->(l.getD j (0,0)).1≠name):=hf;clear hf;by_cases hlt:k < l.length
  ·obtain ⟨b,off,rfl,hc1,hc2⟩:=h3 k hlt;clear h3;have hd1:=he.cell hc1;have hd2:=he.cell hc2;clear hc1 hc2;generalize hp:l.getD k (0,0)=p at hd1 hd2;have HP:Hid (l.getD k (0,0)=p):=hp;clear hp;obtain ⟨at_,n⟩:=p;simp only [] at hd1 hd2;by_cases hn:at_=name
   ·have hb:(at_ == name)=true:=by simp [hn]
    have HN:Hid (at_=name):=hn;clear hn;go_wp2
    go_ret2
    have:=zjl hlt (by rw [HP.o]; exact HN.o) HF.o;refine ⟨?_,he.alloc _⟩;have hnum:num l k=n:=by unfold num; rw [HP.o]
    rw [zeF (by omega),zfE (by omega),this,hnum];rfl
   ·have hb:(at_ == name)=false:=by simpa using hn
    have HN:Hid (at_≠name):=hn;clear hn;go_wp2
    go_roundw
    case rel =>
     refine ⟨k+1,by omega,by go_num,fun j hj=>?_,he.alloc _⟩;by_cases hjk:j < k
     ·exact HF.o j hjk
     ·rw [show j=k by omega,HP.o]; exact HN.o
    case measure=>simp [intOf]; omega
  ·go_wp2
   go_ret2
   have:=zgh (l:=l) (name:=name) (fun j hj=>HF.o j (by omega));refine ⟨?_,he⟩;rw [zgL (by omega),zhA (by omega)];rfl

def zk9 (l:List (Int×Int)) (name n:Int):List (Int×Int):=zb9 l name n++if at1 l name < l.length then [] else [(name,n)]

theorem zgn {l:List (Int×Int)} {name n:Int} (h:at1 l name < l.length):zk9 l name n=zb9 l name n:=by unfold zk9; rw [if_pos h,List.append_nil]

theorem zkg {l:List (Int×Int)} {name n:Int} (h:¬ at1 l name < l.length):zk9 l name n=zb9 l name n++[(name,n)]:=by unfold zk9; rw [if_neg h]

theorem zf9 (v:Value) (l:List (Int×Int)) (name n:Int) (w:World) (hv:zax w v l) (hr:(l.length+1) * 16<=140737488355328) :
  Calls Tryz.prog 62 #[v,I name,I n] w fun e w'=>∃ r,e=.returned r/\Ext w w'/\Has w.heap.size w' r (zk9 l name n):=by
 obtain ⟨i0,hi,hz0,hz1,hz2⟩:=info_parts Tryz.infoWrite2;obtain ⟨ao,cap,rfl,h1,h2,h3⟩:=hv.form;unfold maxLen at h2;clear hv;go_enter Tryz.func62,Tryz.ntmps62
 go_wp2
 go_loopw [7,8,13] (fun o d i wr=>∃ k:Nat,k<=l.length/\i=I k/\d=.bool (zib l name k)/\wr.ownsRow w.heap.size 91 2 o k (zaA (zb9 (l.take k) name n))/\Ext w wr) (fun _ _ i _=>l.length - (intOf i).toNat)
 case atStart=>exact ⟨0,by omega,rfl,by simp [zib],World.ownsRow_nil _ _ _ _,Ext.refl w⟩
 case round =>
  obtain ⟨k,hk,rfl,rfl,ho,he⟩:=hrel;by_cases hlt:k < l.length
  ·obtain ⟨b,off,rfl,hc1,hc2⟩:=h3 k hlt;clear h3;have hd1:=he.cell hc1;have hd2:=he.cell hc2;clear hc1 hc2;have HB:Hid ((l.getD k (0,0)).1=name->at1 l name<=k):=fun h=>Nat.le_of_not_lt fun hlt=>zdE hlt h;have HB2:Hid ((l.getD k (0,0)).1≠name->at1 l name≠k):=fun h e=>h (by rw [<- e]; exact zc6 (by omega))
   have HT:Hid (zb9 (l.take (k+1)) name n=zb9 (l.take k) name n++[if (l.getD k (0,0)).1=name then ((l.getD k (0,0)).1,n) else l.getD k (0,0)]):=by
    unfold Hid;rw [List.take_add_one,List.getElem?_eq_getElem hlt,List.getD_eq_getElem?_getD,List.getElem?_eq_getElem hlt];exact zot _ _ _ _
   generalize l.getD k (0,0)=p at *;obtain ⟨at_,m⟩:=p;simp only [] at hd1 hd2 HB HB2 HT;by_cases hn:at_=name
   ·have hb:(at_ == name)=true:=by simp [hn]
    have HN:Hid (at_=name):=hn;clear hn;go_wp2_with (at_builtin; refine zbw ?_)
    unfold Hid;refine zaz _ rfl (.tmp 23) (.tmp 25) 27 rfl w.heap.size 91 i0 (.agg #[.int .i64 0,.int .i64 0]) 2 16 zfq hi hz0 hz1 hz2 rfl (by decide) u7 k (zaA (zb9 (l.take k) name n)) rfl ((ho.alloc _).alloc _) _ rfl 1 [I at_,I n] (zdI _ _ [(at_,n)] _ 1 rfl rfl (by decide)) (zbz [(at_,n)]) (by omega) (by decide) (by have:=he.size; simp; omega) ?_;intro o' w3 ho3 hg3;have he3:Ext w w3:=((he.alloc _).alloc _).grown hg3 (fun j hj=>(ho.lt j hj).1);clear hg3;go_wp2
    go_roundw
    case rel =>
     refine ⟨k+1,by omega,by go_num,?_,?_,he3⟩
     ·have:=HB.o HN.o;simp [zib]; omega
     ·rw [HT.o,if_pos HN.o,zbl]; exact ho3
    case measure=>simp [intOf]; omega
   ·have hb:(at_ == name)=false:=by simpa using hn
    have HN:Hid (at_≠name):=hn;clear hn;go_wp2_with (at_builtin; refine zbw ?_)
    unfold Hid;refine zaz _ rfl (.tmp 23) (.tmp 25) 27 rfl w.heap.size 91 i0 (.agg #[.int .i64 0,.int .i64 0]) 2 16 zfq hi hz0 hz1 hz2 rfl (by decide) u7 k (zaA (zb9 (l.take k) name n)) rfl ((ho.alloc _).alloc _) _ rfl 1 [I at_,I m] (zdI _ _ [(at_,m)] _ 1 rfl rfl (by decide)) (zbz [(at_,m)]) (by omega) (by decide) (by have:=he.size; simp; omega) ?_;intro o' w3 ho3 hg3;have he3:Ext w w3:=((he.alloc _).alloc _).grown hg3 (fun j hj=>(ho.lt j hj).1);clear hg3;go_wp2
    go_roundw
    case rel =>
     refine ⟨k+1,by omega,by go_num,?_,?_,he3⟩
     ·have:=HB2.o HN.o;simp [zib]; omega
     ·rw [HT.o,if_neg HN.o,zbl]; exact ho3
    case measure=>simp [intOf]; omega
  ·have hkl:k=l.length:=by omega
   subst hkl;rw [List.take_of_length_le (Nat.le_refl _)] at ho;by_cases ha:at1 l name < l.length
   ·have hse:zib l name l.length=true:=by simp [zib,ha]
    go_wp2
    go_ret
    refine ⟨_,rfl,he,?_⟩;rw [zgn ha];exact ⟨_,_,_,ho,fun w2 h2=>zaB h2⟩
   ·have hse:zib l name l.length=false:=by simp [zib]; omega
    go_wp2_with (at_builtin; refine zbw ?_)
    unfold Hid;refine zaz _ rfl (.tmp 30) (.tmp 34) 27 rfl w.heap.size 91 i0 (.agg #[.int .i64 0,.int .i64 0]) 2 16 zfq hi hz0 hz1 hz2 rfl (by decide) u7 l.length (zaA (zb9 l name n)) rfl (ho.alloc _) _ rfl 1 [I name,I n] (zcJ (l:=[(name,n)]) _ _ 1 rfl rfl (by decide)) (zbz [(name,n)]) (by omega) (by decide) (by have:=he.size; simp; omega) ?_;intro o' w3 ho3 hg3;have he3:Ext w w3:=(he.alloc _).grown hg3 (fun j hj=>(ho.lt j hj).1);clear hg3;go_wp2
    go_ret
    refine ⟨_,rfl,he3,?_⟩;rw [zkg ha];rw [show zaA (zb9 l name n)++[I name,I n]=zaA (zb9 l name n++[(name,n)]) from (zbl _ [(name,n)]).symm] at ho3;exact ⟨_,_,_,ho3,fun w2 h2=>zaB h2⟩

end Go.Proofs.YtdmipnnfoolelaeGreat
