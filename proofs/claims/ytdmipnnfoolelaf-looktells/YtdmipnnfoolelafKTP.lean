/- Texts of the proof, merged: N5 R1. -/
import Derived.Test.YtdmipnnfoolelafKTA
import Derived.Test.YtdmipnnfoolelafKTO
import Derived.Test.YtdmipnnfoolelafKTE
import Derived.Test.YtdmipnnfoolelafKTI
set_option maxHeartbeats 4000000
set_option maxRecDepth 100000

namespace Go.Proofs.Ytdmipnnfoolelaf
open Go.RowKit Go.Mk

theorem Try.infoRp:(Try.prog.info? 38).map (fun i=>(i.zero,i.size,i.bytes))=some (some (.agg #[.int .i64 0,.int .i64 0]),2,16):=by kernel_rfl

theorem zgn (cl:List Cl) (at_:Int) (sent:Bool) (gen:Int) (b:List UInt8) (l:List (List UInt8)) (gl:List Rp) (calls box got:Value) (me gen2:Int) (up:Bool) (w:World) (A:Nat->Prop)
  (hc:Rd A (fun w=>zaq 4 zfa w calls cl) w) (hb:Rd A (fun w=>zaq 1 zcV w box (b::l)) w) (hg:Rd A (fun w=>zaq 2 zdA w got gl) w) (h0:0<=at_) (h1:at_<=1000000) (hgl:gl.length<=1000) :
  zaU Try.prog 33 #[.agg #[calls,I at_,.bool sent,I gen,box,got],I me,I gen2,.bool up] w A (fun r w'=>zlT zdw (zdW ⟨cl,at_,sent,gen,(b::l),gl⟩ me gen2 up).1 (zdW ⟨cl,at_,sent,gen,(b::l),gl⟩ me gen2 up).2.1 (zdW ⟨cl,at_,sent,gen,(b::l),gl⟩ me gen2 up).2.2 r w'):=by
 unfold zaU;obtain ⟨ca,cc,rfl⟩:=zac hc.o;obtain ⟨ga,gc,rfl⟩:=zac hg.o;have EW:=zhd (Ext.refl w);obtain ⟨B,hB⟩:=zei A w.heap.size 2;have HK:=zhd hB;clear hB;have HC:=zhd (hc.widen HK.o.1);have HG:=zhd (hg.widen HK.o.1);obtain ⟨xb,xo,xc,bv,rfl,hx1,hx2,hf,hrest⟩:=zio (hb.widen HK.o.1);have HF:=zhd hf;have HB:=zhd hrest;have HGL:=zhd hgl;unfold maxLen at hx2;clear hc hb hg hf hrest hgl;obtain ⟨⟨ac,at2,⟨re,rn⟩⟩,ae,hRA⟩:∃ x y,readAn b=(x,y):=⟨_,_,rfl⟩;have HRA:=zhd hRA
 have hX0:zdW ⟨cl,at_,sent,gen,(b::l),gl⟩ me gen2 up=if ae=0/\ac=me/\at2=at_/\sent=true then (⟨cl,at_+1,false,gen,l,gl++[⟨re,rn⟩]⟩,[],0) else (⟨cl,at_,sent,gen,l,gl⟩,[],0):=by
  show (if (readAn b).2=0/\(readAn b).1.client=me/\(readAn b).1.token=at_/\sent=true then _ else _)=_
  rw [hRA]
 clear hRA;obtain ⟨RC,RB,RE,hR⟩:∃ x y z,zdW ⟨cl,at_,sent,gen,(b::l),gl⟩ me gen2 up=(x,y,z):=⟨_,_,_,rfl⟩;rw [hR];rw [hR] at hX0;have HX:=zhd hX0;clear hX0 hR;by_cases hcap:xc=1
 case pos =>
  obtain rfl:l=[]:=List.eq_nil_of_length_eq_zero (by omega);subst hcap;simp only [List.length_nil,Nat.zero_add] at *;replace HB:=zhd (Rd.all (A:=B) (w:=w) fun w=>zgK (size:=1) (R:=zcV) w xb xo 0 (by decide));go_enter Try.func33,Try.ntmps33
  go_wp2_with (with_reducible refine zT ?_)
  refine zal rfl 61 (.tmp 0) rfl #[.slice ca cl.length cc,I at_,.bool sent,I gen,.slice (some ⟨xb,xo,none⟩) 1 1,.slice ga gl.length gc] rfl (fun b0 w1_ M1=>?_);have zab:=zmb M1;go_wp2_with (with_reducible refine zT ?_)
  refine zah rfl 61 zC (by kernel_rfl) (fun b1 w2_ M2=>?_);have zaB:=zld zab M2;have zad:=zmb M2;have za3:=zA0 M1;have zaJ:=znb HK za3 (by decide);have zbD:=zob za3;have za7:=zA1 za3 M1 M2;have zaD:=znb HK za7 (by decide);have zbu:=zob za7;replace zab:=zmo M2 zab;have c4:=zaa (i:=4) zab.o rfl;replace HF:=zme M2 (zme M1 HF);have cx:=HF.o.o.1;go_wp2_with fail
  clear c4 cx;have hl:=zd5 bv b w2_ HF.o.o.2;rw [HRA.o] at hl;refine Calls.exts hl (fun wa ea=>?_);clear hl;go_wp2_with (with_reducible refine zT ?_)
  refine zah rfl 96 #[I 0,I 0,I 0,I 0] (by kernel_rfl) (fun b2 w3_ M3=>?_);replace zab:=zbx zab ea;have zaY:=zld zab M3;replace zad:=zbx zad ea;have zaW:=zld zad M3;obtain ⟨B1,HB1⟩:=zEx B b2;have zaP:=zNn HB1;have zmC:=zIn HB1;replace EW:=zhd ((zet (zet EW M1) M2).o.trans ea);have zbU:=zOn M3 EW;have zas:=zmb M3;go_wp2_with (with_reducible refine zT ?_)
  refine zaf rfl 96 (.tmp 11) (.tmp 23) rfl b2 rfl [I ac,I at2,I re,I rn] (rfl) zas rfl zoi rfl (fun w4_ M4=>?_);replace zas:=zwb M4;replace zab:=zwl M4 (zmo M3 zab) zaY;have c4:=zaa (i:=4) zab.o rfl;go_wp2_with (with_reducible refine zT ?_)
  clear c4;refine zap rfl 31 (.tmp 28) (.tmp 27) rfl b0 4 rfl [.slice (some ⟨xb,xo,none⟩) 0 0] (rfl) zab rfl zoe rfl [.slice ca cl.length cc,I at_,.bool sent,I gen,.slice (some ⟨xb,xo,none⟩) 0 0,.slice ga gl.length gc] rfl (fun w5_ M5=>?_);replace zab:=zwb M5;replace zaJ:=znw HB1 zaJ;replace HC:=zwr M5 (zwr M4 (zme M3 (zmd HB1 M3 (zrx (zme M2 (zme M1 HC)) ea))) zaP) zaJ;replace HB:=zwr M5 (zwr M4 (zme M3 (zmd HB1 M3 (zrx (zme M2 (zme M1 HB)) ea))) zaP) zaJ;replace HG:=zwr M5 (zwr M4 (zme M3 (zmd HB1 M3 (zrx (zme M2 (zme M1 HG)) ea))) zaP) zaJ;replace HF:=zwr M5 (zwr M4 (zme M3 (zmd HB1 M3 (zrx HF ea))) zaP) zaJ;replace zaD:=znw HB1 zaD;replace zad:=zwg M5 (zwl M4 (zmo M3 zad) zaW) zaB;replace EW:=zwe M5 (zwe M4 (zet EW M3) zbU) zbD;replace zas:=zwg M5 zas zaY;by_cases a1:ae=0
  case neg =>
   have hb_a1:(ae == 0)=false:=by simpa using a1
   have HA:=zhd a1;clear a1;have d0:=zaa (i:=0) zas.o rfl;have d1:=zaa (i:=1) zas.o rfl;have c1:=zaa (i:=1) zab.o rfl;have c2:=zaa (i:=2) zab.o rfl;go_wp2_with (with_reducible refine zT ?_)
   clear d0 d1 c1 c2;refine zai rfl 61 (.tmp 4) rfl b0 rfl zab zcn zcw (fun v62 H_v62=>?_);go_wp2_with (with_reducible refine zT ?_)
   refine zaf rfl 61 (.tmp 8) (.tmp 62) rfl b1 rfl _ (zcv H_v62) zad rfl zcw rfl (fun w6_ M6=>?_);replace zad:=zwb M6;go_wp2
   have z0:=zay (P:=Try.prog) 61 zad.o zcn (by kernel_rfl);refine bodyPost_ret (by simp [results,Try.results33,asAddr,z0]; rfl) rfl ?_;have hres:=HX.o;rw [if_neg (fun h=>HA.o h.1)] at hres;obtain ⟨h1,h2⟩:=Prod.mk.inj hres;obtain ⟨h3,h4⟩:=Prod.mk.inj h2;subst h4;subst h3;subst h1;replace HC:=zwr M6 HC zaD;replace HB:=zwr M6 HB zaD;replace HG:=zwr M6 HG zaD;replace EW:=zwe M6 EW zbu;exact ⟨_,rfl,EW.o,Rd.widen (A:=B1) (zcg (zc8 (c:=⟨cl,at_,sent,gen,[],gl⟩) HC.o HB.o HG.o) (Rd.all fun w=>za9 w)) (fun k _ h=>HK.o.2.2.2 k (zmC.o k h))⟩
  subst a1;by_cases a2:ac=me
  case neg =>
   have hb_a2:(ac == me)=false:=by simpa using a2
   have HA:=zhd a2;clear a2;have d0:=zaa (i:=0) zas.o rfl;have d1:=zaa (i:=1) zas.o rfl;have c1:=zaa (i:=1) zab.o rfl;have c2:=zaa (i:=2) zab.o rfl;go_wp2_with (with_reducible refine zT ?_)
   clear d0 d1 c1 c2;refine zai rfl 61 (.tmp 4) rfl b0 rfl zab zcn zcw (fun v62 H_v62=>?_);go_wp2_with (with_reducible refine zT ?_)
   refine zaf rfl 61 (.tmp 8) (.tmp 62) rfl b1 rfl _ (zcv H_v62) zad rfl zcw rfl (fun w6_ M6=>?_);replace zad:=zwb M6;go_wp2
   have z0:=zay (P:=Try.prog) 61 zad.o zcn (by kernel_rfl);refine bodyPost_ret (by simp [results,Try.results33,asAddr,z0]; rfl) rfl ?_;have hres:=HX.o;rw [if_neg (fun h=>HA.o h.2.1)] at hres;obtain ⟨h1,h2⟩:=Prod.mk.inj hres;obtain ⟨h3,h4⟩:=Prod.mk.inj h2;subst h4;subst h3;subst h1;replace HC:=zwr M6 HC zaD;replace HB:=zwr M6 HB zaD;replace HG:=zwr M6 HG zaD;replace EW:=zwe M6 EW zbu;exact ⟨_,rfl,EW.o,Rd.widen (A:=B1) (zcg (zc8 (c:=⟨cl,at_,sent,gen,[],gl⟩) HC.o HB.o HG.o) (Rd.all fun w=>za9 w)) (fun k _ h=>HK.o.2.2.2 k (zmC.o k h))⟩
  subst a2;by_cases a3:at2=at_
  case neg =>
   have hb_a3:(at2 == at_)=false:=by simpa using a3
   have HA:=zhd a3;clear a3;have d0:=zaa (i:=0) zas.o rfl;have d1:=zaa (i:=1) zas.o rfl;have c1:=zaa (i:=1) zab.o rfl;have c2:=zaa (i:=2) zab.o rfl;go_wp2_with (with_reducible refine zT ?_)
   clear d0 d1 c1 c2;refine zai rfl 61 (.tmp 4) rfl b0 rfl zab zcn zcw (fun v62 H_v62=>?_);go_wp2_with (with_reducible refine zT ?_)
   refine zaf rfl 61 (.tmp 8) (.tmp 62) rfl b1 rfl _ (zcv H_v62) zad rfl zcw rfl (fun w6_ M6=>?_);replace zad:=zwb M6;go_wp2
   have z0:=zay (P:=Try.prog) 61 zad.o zcn (by kernel_rfl);refine bodyPost_ret (by simp [results,Try.results33,asAddr,z0]; rfl) rfl ?_;have hres:=HX.o;rw [if_neg (fun h=>HA.o h.2.2.1)] at hres;obtain ⟨h1,h2⟩:=Prod.mk.inj hres;obtain ⟨h3,h4⟩:=Prod.mk.inj h2;subst h4;subst h3;subst h1;replace HC:=zwr M6 HC zaD;replace HB:=zwr M6 HB zaD;replace HG:=zwr M6 HG zaD;replace EW:=zwe M6 EW zbu;exact ⟨_,rfl,EW.o,Rd.widen (A:=B1) (zcg (zc8 (c:=⟨cl,at_,sent,gen,[],gl⟩) HC.o HB.o HG.o) (Rd.all fun w=>za9 w)) (fun k _ h=>HK.o.2.2.2 k (zmC.o k h))⟩
  replace a3:=a3.symm;subst a3;cases sent
  case false =>
   have d0:=zaa (i:=0) zas.o rfl;have d1:=zaa (i:=1) zas.o rfl;have c1:=zaa (i:=1) zab.o rfl;have c2:=zaa (i:=2) zab.o rfl;go_wp2_with (with_reducible refine zT ?_)
   clear d0 d1 c1 c2;refine zai rfl 61 (.tmp 4) rfl b0 rfl zab zcn zcw (fun v62 H_v62=>?_);go_wp2_with (with_reducible refine zT ?_)
   refine zaf rfl 61 (.tmp 8) (.tmp 62) rfl b1 rfl _ (zcv H_v62) zad rfl zcw rfl (fun w6_ M6=>?_);replace zad:=zwb M6;go_wp2
   have z0:=zay (P:=Try.prog) 61 zad.o zcn (by kernel_rfl);refine bodyPost_ret (by simp [results,Try.results33,asAddr,z0]; rfl) rfl ?_;have hres:=HX.o;rw [if_neg (fun h=>by cases h.2.2.2)] at hres;obtain ⟨h1,h2⟩:=Prod.mk.inj hres;obtain ⟨h3,h4⟩:=Prod.mk.inj h2;subst h4;subst h3;subst h1;replace HC:=zwr M6 HC zaD;replace HB:=zwr M6 HB zaD;replace HG:=zwr M6 HG zaD;replace EW:=zwe M6 EW zbu;exact ⟨_,rfl,EW.o,Rd.widen (A:=B1) (zcg (zc8 (c:=⟨cl,at_,false,gen,[],gl⟩) HC.o HB.o HG.o) (Rd.all fun w=>za9 w)) (fun k _ h=>HK.o.2.2.2 k (zmC.o k h))⟩
  have d0:=zaa (i:=0) zas.o rfl;have d1:=zaa (i:=1) zas.o rfl;have c1:=zaa (i:=1) zab.o rfl;have c2:=zaa (i:=2) zab.o rfl;go_wp2_with fail
  clear d0 d1 c1 c2;have hbx:=zab.o;have hby:=zas.o;have x5:=zaa (i:=5) hbx rfl;have y2:=zaa (i:=2) hby rfl;have y3:=zaa (i:=3) hby rfl;obtain ⟨i0,hi,hz0,hz1,hz2⟩:=info_parts Try.infoRp;have HI:=zhd hi;clear hi;refine zbK 7 [some (.inr (zb5 w5_.heap.size 38 2 0 [])),none,none,some (.inr fun v wx=>wx.ownsRow w5_.heap.size 38 2 v (0+gl.length) ([]++zbh gl)),none,none,some (.inr fun v wx=>Row wx 2 v 1 (zbh [⟨re,rn⟩]))] (fun v wx=>wx.ownsRow w5_.heap.size 38 2 v (0+gl.length+1) ([]++zbh gl++zbh [⟨re,rn⟩])) (by kernel_rfl) (by kernel_rfl) (by kernel_rfl) ?_ (fun v=>zbA _ _ _ _ _ v) ?_
  ·exact ⟨zdP _ _ _ _ _,trivial,trivial,zbA _ _ _ _ _,trivial,trivial,fun _ _ _ he h=>Row.ext h he,trivial⟩
  refine za0 _ rfl (fun w' hw' hk=>?_) (fun v48=>?_)
  ·have hsz:=hw'.size;clear hk;unfold zaI;go_simp
   exact ⟨(Ext.refl _).alloc _,zdR #[] 0 hsz (by decide) rfl⟩
  refine zae fun K h=>?_; go_simp; refine h _ ?_; clear h K;(refine zaj (fun K hK=>?_); go_simp; first | refine hK _ ?_ | refine ⟨(fun h=>by cases h),hK _ ?_⟩; clear hK K)
  refine zax (.slice ga gl.length gc) rfl (fun w' hw'=>by have q0:=hw'.cell x5; go_simp) ?_;refine zae fun K h=>?_; go_simp; refine h _ ?_; clear h K;refine za0 _ rfl (fun w' hw' hk=>?_) (fun v51=>?_)
  ·have h48:zb5 w5_.heap.size 38 2 0 [] v48 w':=hk 48 (by decide);obtain ⟨vv,ww,hrun,hoo,hee⟩:=zbv (P:=Try.prog) w' w5_.heap.size 47 47 38 i0 _ 2 16 zg5 HI.o hz0 hz1 hz2 rfl (by decide) v48 0 _ h48 (.slice ga gl.length gc) gl.length _ ((zgB.1 HG.o.o).ext hw') (zdS _) (by have:=HGL.o; omega) (by decide) hw'.size;exact zcc rfl rfl rfl hrun hee hoo
  refine zae fun K h=>?_; go_simp; refine h _ ?_; clear h K;(refine zaj (fun K hK=>?_); go_simp; first | refine hK _ ?_ | refine ⟨(fun h=>by cases h),hK _ ?_⟩; clear hK K)
  refine zax (.agg #[I re,I rn]) rfl (fun w' hw'=>by have q0:=hw'.cell y2; have q1:=hw'.cell y3; go_simp) ?_;refine zae fun K h=>?_; go_simp; refine h _ ?_; clear h K;refine za0 _ rfl (fun w' hw' hk=>?_) (fun v54=>?_)
  ·skip;clear hk;unfold zaI;go_simp
   exact ⟨(Ext.refl _).alloc _,Row.of_owns (World.ownsRow_lit (base:=0) (size:=2) w' _ 1 (Nat.zero_le _) (by decide) rfl)⟩
  refine zae fun K h=>?_; go_simp; refine h _ ?_; clear h K;refine zaL ⟨_,_,rfl,rfl,rfl,fun w' hw' hk=>?_,fun v55 w9 e9 ho9=>?_⟩
  ·have h51:w'.ownsRow w5_.heap.size 38 2 v51 (0+gl.length) ([]++zbh gl):=hk 51 (by decide);have h54:Row w' 2 v54 1 (zbh [⟨re,rn⟩]):=hk 54 (by decide);obtain ⟨vv,ww,hrun,hoo,hgg⟩:=zbt (P:=Try.prog) w' w5_.heap.size 47 47 38 i0 _ 2 16 zg5 HI.o hz0 hz1 hz2 rfl (by decide) v51 _ _ h51 v54 1 _ h54 (zdS _) (by have:=HGL.o; omega) (by decide) hw'.size;exact ⟨vv,ww,zcJ rfl rfl rfl hrun,hw'.grown hgg (fun j hj=>(h51.lt j hj).1),hoo⟩
  clear x5 y2 y3 hbx hby;have hro:Rd (fun k=>w5_.heap.size<=k) (fun w=>zaq 2 zdA w v55 (gl++[⟨re,rn⟩])) w9:=zl8 (by simpa [zck] using ho9);obtain ⟨qa,qc,hqs⟩:=zac hro.o;rw [show (gl++[(⟨re,rn⟩:Rp)]).length=gl.length+1 by simp] at hqs;subst hqs;have hsz:w.heap.size+2<=w5_.heap.size:=by have q:=(zlt zad); have q2:=za7.o; omega
  have hsz2:b2 < w5_.heap.size:=(zlt zas);have HRO:=zhd (hro.widen (B:=B1) (fun k _ h=>(HB1.o k).2 ⟨HK.o.2.1 k (by omega),by omega⟩));clear hro ho9 hsz hsz2;show wpList _ _ _ [_,_] _ _
  go_wp2_with (with_reducible refine zT ?_)
  replace zab:=zbx zab e9;refine zap rfl 47 (.tmp 56) (.tmp 55) rfl b0 5 rfl [.slice qa (gl.length+1) qc] (rfl) zab rfl zos rfl [.slice ca cl.length cc,I at_,.bool true,I gen,.slice (some ⟨xb,xo,none⟩) 0 0,.slice qa (gl.length+1) qc] rfl (fun w6_ M6=>?_);replace zab:=zwb M6;have c1:=zaa (i:=1) zab.o rfl;go_wp2_with (with_reducible refine zT ?_)
  clear c1;refine zap rfl 3 (.tmp 60) (.tmp 59) rfl b0 1 rfl [I (at_+1)] (rfl) zab rfl zi3 rfl [.slice ca cl.length cc,I (at_+1),.bool true,I gen,.slice (some ⟨xb,xo,none⟩) 0 0,.slice qa (gl.length+1) qc] rfl (fun w7_ M7=>?_);replace zab:=zwb M7;go_wp2_with (with_reducible refine zT ?_)
  refine zap rfl 4 (.tmp 61) (.const (.bool false)) rfl b0 2 rfl [.bool false] (rfl) zab rfl zi4 rfl [.slice ca cl.length cc,I (at_+1),.bool false,I gen,.slice (some ⟨xb,xo,none⟩) 0 0,.slice qa (gl.length+1) qc] rfl (fun w8_ M8=>?_);replace zab:=zwb M8;go_wp2_with (with_reducible refine zT ?_)
  refine zai rfl 61 (.tmp 4) rfl b0 rfl zab zcn zcw (fun v62 H_v62=>?_);go_wp2_with (with_reducible refine zT ?_)
  replace zad:=zwg M8 (zwg M7 (zwg M6 (zbx zad e9) zaB) zaB) zaB;refine zaf rfl 61 (.tmp 8) (.tmp 62) rfl b1 rfl _ (zcv H_v62) zad rfl zcw rfl (fun w9_ M9=>?_);replace zad:=zwb M9;go_wp2
  have z0:=zay (P:=Try.prog) 61 zad.o zcn (by kernel_rfl);refine bodyPost_ret (by simp [results,Try.results33,asAddr,z0]; rfl) rfl ?_;have hres:=HX.o;rw [if_pos (by simp)] at hres;obtain ⟨h1,h2⟩:=Prod.mk.inj hres;obtain ⟨h3,h4⟩:=Prod.mk.inj h2;subst h4;subst h3;subst h1;replace HC:=zwr M9 (zwr M8 (zwr M7 (zwr M6 (zrx HC e9) zaJ) zaJ) zaJ) zaD;replace HB:=zwr M9 (zwr M8 (zwr M7 (zwr M6 (zrx HB e9) zaJ) zaJ) zaJ) zaD;replace EW:=zwe M9 (zwe M8 (zwe M7 (zwe M6 (zhd (EW.o.trans e9)) zbD) zbD) zbD) zbu;replace HRO:=zwr M9 (zwr M8 (zwr M7 (zwr M6 HRO zaJ) zaJ) zaJ) zaD;exact ⟨_,rfl,EW.o,Rd.widen (A:=B1) (zcg (zc8 (c:=⟨cl,(at_+1),false,gen,[],(gl++[⟨re,rn⟩])⟩) HC.o HB.o HRO.o) (Rd.all fun w=>za9 w)) (fun k _ h=>HK.o.2.2.2 k (zmC.o k h))⟩
 go_enter Try.func33,Try.ntmps33
 go_wp2_with (with_reducible refine zT ?_)
 refine zal rfl 61 (.tmp 0) rfl #[.slice ca cl.length cc,I at_,.bool sent,I gen,.slice (some ⟨xb,xo,none⟩) (l.length+1) xc,.slice ga gl.length gc] rfl (fun b0 w1_ M1=>?_);have zab:=zmb M1;go_wp2_with (with_reducible refine zT ?_)
 refine zah rfl 61 zC (by kernel_rfl) (fun b1 w2_ M2=>?_);have zaB:=zld zab M2;have zad:=zmb M2;have za3:=zA0 M1;have zaJ:=znb HK za3 (by decide);have zbD:=zob za3;have za7:=zA1 za3 M1 M2;have zaD:=znb HK za7 (by decide);have zbu:=zob za7;replace zab:=zmo M2 zab;have c4:=zaa (i:=4) zab.o rfl;replace HF:=zme M2 (zme M1 HF);have cx:=HF.o.o.1;go_wp2_with fail
 clear c4 cx;have hl:=zd5 bv b w2_ HF.o.o.2;rw [HRA.o] at hl;refine Calls.exts hl (fun wa ea=>?_);clear hl;go_wp2_with (with_reducible refine zT ?_)
 refine zah rfl 96 #[I 0,I 0,I 0,I 0] (by kernel_rfl) (fun b2 w3_ M3=>?_);replace zab:=zbx zab ea;have zaY:=zld zab M3;replace zad:=zbx zad ea;have zaW:=zld zad M3;obtain ⟨B1,HB1⟩:=zEx B b2;have zaP:=zNn HB1;have zmC:=zIn HB1;replace EW:=zhd ((zet (zet EW M1) M2).o.trans ea);have zbU:=zOn M3 EW;have zas:=zmb M3;go_wp2_with (with_reducible refine zT ?_)
 refine zaf rfl 96 (.tmp 11) (.tmp 23) rfl b2 rfl [I ac,I at2,I re,I rn] (rfl) zas rfl zoi rfl (fun w4_ M4=>?_);replace zas:=zwb M4;replace zab:=zwl M4 (zmo M3 zab) zaY;have c4:=zaa (i:=4) zab.o rfl;go_wp2_with (with_reducible refine zT ?_)
 clear c4;refine zap rfl 31 (.tmp 28) (.tmp 27) rfl b0 4 rfl [.slice (some ⟨xb,xo+1,none⟩) l.length (xc - 1)] (rfl) zab rfl zoe rfl [.slice ca cl.length cc,I at_,.bool sent,I gen,.slice (some ⟨xb,xo+1,none⟩) l.length (xc - 1),.slice ga gl.length gc] rfl (fun w5_ M5=>?_);replace zab:=zwb M5;replace zaJ:=znw HB1 zaJ;replace HC:=zwr M5 (zwr M4 (zme M3 (zmd HB1 M3 (zrx (zme M2 (zme M1 HC)) ea))) zaP) zaJ;replace HB:=zwr M5 (zwr M4 (zme M3 (zmd HB1 M3 (zrx (zme M2 (zme M1 HB)) ea))) zaP) zaJ;replace HG:=zwr M5 (zwr M4 (zme M3 (zmd HB1 M3 (zrx (zme M2 (zme M1 HG)) ea))) zaP) zaJ;replace HF:=zwr M5 (zwr M4 (zme M3 (zmd HB1 M3 (zrx HF ea))) zaP) zaJ;replace zaD:=znw HB1 zaD;replace zad:=zwg M5 (zwl M4 (zmo M3 zad) zaW) zaB;replace EW:=zwe M5 (zwe M4 (zet EW M3) zbU) zbD;replace zas:=zwg M5 zas zaY;by_cases a1:ae=0
 case neg =>
  have hb_a1:(ae == 0)=false:=by simpa using a1
  have HA:=zhd a1;clear a1;have d0:=zaa (i:=0) zas.o rfl;have d1:=zaa (i:=1) zas.o rfl;have c1:=zaa (i:=1) zab.o rfl;have c2:=zaa (i:=2) zab.o rfl;go_wp2_with (with_reducible refine zT ?_)
  clear d0 d1 c1 c2;refine zai rfl 61 (.tmp 4) rfl b0 rfl zab zcn zcw (fun v62 H_v62=>?_);go_wp2_with (with_reducible refine zT ?_)
  refine zaf rfl 61 (.tmp 8) (.tmp 62) rfl b1 rfl _ (zcv H_v62) zad rfl zcw rfl (fun w6_ M6=>?_);replace zad:=zwb M6;go_wp2
  have z0:=zay (P:=Try.prog) 61 zad.o zcn (by kernel_rfl);refine bodyPost_ret (by simp [results,Try.results33,asAddr,z0]; rfl) rfl ?_;have hres:=HX.o;rw [if_neg (fun h=>HA.o h.1)] at hres;obtain ⟨h1,h2⟩:=Prod.mk.inj hres;obtain ⟨h3,h4⟩:=Prod.mk.inj h2;subst h4;subst h3;subst h1;replace HC:=zwr M6 HC zaD;replace HB:=zwr M6 HB zaD;replace HG:=zwr M6 HG zaD;replace EW:=zwe M6 EW zbu;exact ⟨_,rfl,EW.o,Rd.widen (A:=B1) (zcg (zc8 (c:=⟨cl,at_,sent,gen,l,gl⟩) HC.o HB.o HG.o) (Rd.all fun w=>za9 w)) (fun k _ h=>HK.o.2.2.2 k (zmC.o k h))⟩
 subst a1;by_cases a2:ac=me
 case neg =>
  have hb_a2:(ac == me)=false:=by simpa using a2
  have HA:=zhd a2;clear a2;have d0:=zaa (i:=0) zas.o rfl;have d1:=zaa (i:=1) zas.o rfl;have c1:=zaa (i:=1) zab.o rfl;have c2:=zaa (i:=2) zab.o rfl;go_wp2_with (with_reducible refine zT ?_)
  clear d0 d1 c1 c2;refine zai rfl 61 (.tmp 4) rfl b0 rfl zab zcn zcw (fun v62 H_v62=>?_);go_wp2_with (with_reducible refine zT ?_)
  refine zaf rfl 61 (.tmp 8) (.tmp 62) rfl b1 rfl _ (zcv H_v62) zad rfl zcw rfl (fun w6_ M6=>?_);replace zad:=zwb M6;go_wp2
  have z0:=zay (P:=Try.prog) 61 zad.o zcn (by kernel_rfl);refine bodyPost_ret (by simp [results,Try.results33,asAddr,z0]; rfl) rfl ?_;have hres:=HX.o;rw [if_neg (fun h=>HA.o h.2.1)] at hres;obtain ⟨h1,h2⟩:=Prod.mk.inj hres;obtain ⟨h3,h4⟩:=Prod.mk.inj h2;subst h4;subst h3;subst h1;replace HC:=zwr M6 HC zaD;replace HB:=zwr M6 HB zaD;replace HG:=zwr M6 HG zaD;replace EW:=zwe M6 EW zbu;exact ⟨_,rfl,EW.o,Rd.widen (A:=B1) (zcg (zc8 (c:=⟨cl,at_,sent,gen,l,gl⟩) HC.o HB.o HG.o) (Rd.all fun w=>za9 w)) (fun k _ h=>HK.o.2.2.2 k (zmC.o k h))⟩
 subst a2;by_cases a3:at2=at_
 case neg =>
  have hb_a3:(at2 == at_)=false:=by simpa using a3
  have HA:=zhd a3;clear a3;have d0:=zaa (i:=0) zas.o rfl;have d1:=zaa (i:=1) zas.o rfl;have c1:=zaa (i:=1) zab.o rfl;have c2:=zaa (i:=2) zab.o rfl;go_wp2_with (with_reducible refine zT ?_)
  clear d0 d1 c1 c2;refine zai rfl 61 (.tmp 4) rfl b0 rfl zab zcn zcw (fun v62 H_v62=>?_);go_wp2_with (with_reducible refine zT ?_)
  refine zaf rfl 61 (.tmp 8) (.tmp 62) rfl b1 rfl _ (zcv H_v62) zad rfl zcw rfl (fun w6_ M6=>?_);replace zad:=zwb M6;go_wp2
  have z0:=zay (P:=Try.prog) 61 zad.o zcn (by kernel_rfl);refine bodyPost_ret (by simp [results,Try.results33,asAddr,z0]; rfl) rfl ?_;have hres:=HX.o;rw [if_neg (fun h=>HA.o h.2.2.1)] at hres;obtain ⟨h1,h2⟩:=Prod.mk.inj hres;obtain ⟨h3,h4⟩:=Prod.mk.inj h2;subst h4;subst h3;subst h1;replace HC:=zwr M6 HC zaD;replace HB:=zwr M6 HB zaD;replace HG:=zwr M6 HG zaD;replace EW:=zwe M6 EW zbu;exact ⟨_,rfl,EW.o,Rd.widen (A:=B1) (zcg (zc8 (c:=⟨cl,at_,sent,gen,l,gl⟩) HC.o HB.o HG.o) (Rd.all fun w=>za9 w)) (fun k _ h=>HK.o.2.2.2 k (zmC.o k h))⟩
 replace a3:=a3.symm;subst a3;cases sent
 case false =>
  have d0:=zaa (i:=0) zas.o rfl;have d1:=zaa (i:=1) zas.o rfl;have c1:=zaa (i:=1) zab.o rfl;have c2:=zaa (i:=2) zab.o rfl;go_wp2_with (with_reducible refine zT ?_)
  clear d0 d1 c1 c2;refine zai rfl 61 (.tmp 4) rfl b0 rfl zab zcn zcw (fun v62 H_v62=>?_);go_wp2_with (with_reducible refine zT ?_)
  refine zaf rfl 61 (.tmp 8) (.tmp 62) rfl b1 rfl _ (zcv H_v62) zad rfl zcw rfl (fun w6_ M6=>?_);replace zad:=zwb M6;go_wp2
  have z0:=zay (P:=Try.prog) 61 zad.o zcn (by kernel_rfl);refine bodyPost_ret (by simp [results,Try.results33,asAddr,z0]; rfl) rfl ?_;have hres:=HX.o;rw [if_neg (fun h=>by cases h.2.2.2)] at hres;obtain ⟨h1,h2⟩:=Prod.mk.inj hres;obtain ⟨h3,h4⟩:=Prod.mk.inj h2;subst h4;subst h3;subst h1;replace HC:=zwr M6 HC zaD;replace HB:=zwr M6 HB zaD;replace HG:=zwr M6 HG zaD;replace EW:=zwe M6 EW zbu;exact ⟨_,rfl,EW.o,Rd.widen (A:=B1) (zcg (zc8 (c:=⟨cl,at_,false,gen,l,gl⟩) HC.o HB.o HG.o) (Rd.all fun w=>za9 w)) (fun k _ h=>HK.o.2.2.2 k (zmC.o k h))⟩
 have d0:=zaa (i:=0) zas.o rfl;have d1:=zaa (i:=1) zas.o rfl;have c1:=zaa (i:=1) zab.o rfl;have c2:=zaa (i:=2) zab.o rfl;go_wp2_with fail
 clear d0 d1 c1 c2;have hbx:=zab.o;have hby:=zas.o;have x5:=zaa (i:=5) hbx rfl;have y2:=zaa (i:=2) hby rfl;have y3:=zaa (i:=3) hby rfl;obtain ⟨i0,hi,hz0,hz1,hz2⟩:=info_parts Try.infoRp;have HI:=zhd hi;clear hi;refine zbK 7 [some (.inr (zb5 w5_.heap.size 38 2 0 [])),none,none,some (.inr fun v wx=>wx.ownsRow w5_.heap.size 38 2 v (0+gl.length) ([]++zbh gl)),none,none,some (.inr fun v wx=>Row wx 2 v 1 (zbh [⟨re,rn⟩]))] (fun v wx=>wx.ownsRow w5_.heap.size 38 2 v (0+gl.length+1) ([]++zbh gl++zbh [⟨re,rn⟩])) (by kernel_rfl) (by kernel_rfl) (by kernel_rfl) ?_ (fun v=>zbA _ _ _ _ _ v) ?_
 ·exact ⟨zdP _ _ _ _ _,trivial,trivial,zbA _ _ _ _ _,trivial,trivial,fun _ _ _ he h=>Row.ext h he,trivial⟩
 refine za0 _ rfl (fun w' hw' hk=>?_) (fun v48=>?_)
 ·have hsz:=hw'.size;clear hk;unfold zaI;go_simp
  exact ⟨(Ext.refl _).alloc _,zdR #[] 0 hsz (by decide) rfl⟩
 refine zae fun K h=>?_; go_simp; refine h _ ?_; clear h K;(refine zaj (fun K hK=>?_); go_simp; first | refine hK _ ?_ | refine ⟨(fun h=>by cases h),hK _ ?_⟩; clear hK K)
 refine zax (.slice ga gl.length gc) rfl (fun w' hw'=>by have q0:=hw'.cell x5; go_simp) ?_;refine zae fun K h=>?_; go_simp; refine h _ ?_; clear h K;refine za0 _ rfl (fun w' hw' hk=>?_) (fun v51=>?_)
 ·have h48:zb5 w5_.heap.size 38 2 0 [] v48 w':=hk 48 (by decide);obtain ⟨vv,ww,hrun,hoo,hee⟩:=zbv (P:=Try.prog) w' w5_.heap.size 47 47 38 i0 _ 2 16 zg5 HI.o hz0 hz1 hz2 rfl (by decide) v48 0 _ h48 (.slice ga gl.length gc) gl.length _ ((zgB.1 HG.o.o).ext hw') (zdS _) (by have:=HGL.o; omega) (by decide) hw'.size;exact zcc rfl rfl rfl hrun hee hoo
 refine zae fun K h=>?_; go_simp; refine h _ ?_; clear h K;(refine zaj (fun K hK=>?_); go_simp; first | refine hK _ ?_ | refine ⟨(fun h=>by cases h),hK _ ?_⟩; clear hK K)
 refine zax (.agg #[I re,I rn]) rfl (fun w' hw'=>by have q0:=hw'.cell y2; have q1:=hw'.cell y3; go_simp) ?_;refine zae fun K h=>?_; go_simp; refine h _ ?_; clear h K;refine za0 _ rfl (fun w' hw' hk=>?_) (fun v54=>?_)
 ·skip;clear hk;unfold zaI;go_simp
  exact ⟨(Ext.refl _).alloc _,Row.of_owns (World.ownsRow_lit (base:=0) (size:=2) w' _ 1 (Nat.zero_le _) (by decide) rfl)⟩
 refine zae fun K h=>?_; go_simp; refine h _ ?_; clear h K;refine zaL ⟨_,_,rfl,rfl,rfl,fun w' hw' hk=>?_,fun v55 w9 e9 ho9=>?_⟩
 ·have h51:w'.ownsRow w5_.heap.size 38 2 v51 (0+gl.length) ([]++zbh gl):=hk 51 (by decide);have h54:Row w' 2 v54 1 (zbh [⟨re,rn⟩]):=hk 54 (by decide);obtain ⟨vv,ww,hrun,hoo,hgg⟩:=zbt (P:=Try.prog) w' w5_.heap.size 47 47 38 i0 _ 2 16 zg5 HI.o hz0 hz1 hz2 rfl (by decide) v51 _ _ h51 v54 1 _ h54 (zdS _) (by have:=HGL.o; omega) (by decide) hw'.size;exact ⟨vv,ww,zcJ rfl rfl rfl hrun,hw'.grown hgg (fun j hj=>(h51.lt j hj).1),hoo⟩
 clear x5 y2 y3 hbx hby;have hro:Rd (fun k=>w5_.heap.size<=k) (fun w=>zaq 2 zdA w v55 (gl++[⟨re,rn⟩])) w9:=zl8 (by simpa [zck] using ho9);obtain ⟨qa,qc,hqs⟩:=zac hro.o;rw [show (gl++[(⟨re,rn⟩:Rp)]).length=gl.length+1 by simp] at hqs;subst hqs;have hsz:w.heap.size+2<=w5_.heap.size:=by have q:=(zlt zad); have q2:=za7.o; omega
 have hsz2:b2 < w5_.heap.size:=(zlt zas);have HRO:=zhd (hro.widen (B:=B1) (fun k _ h=>(HB1.o k).2 ⟨HK.o.2.1 k (by omega),by omega⟩));clear hro ho9 hsz hsz2;show wpList _ _ _ [_,_] _ _
 go_wp2_with (with_reducible refine zT ?_)
 replace zab:=zbx zab e9;refine zap rfl 47 (.tmp 56) (.tmp 55) rfl b0 5 rfl [.slice qa (gl.length+1) qc] (rfl) zab rfl zos rfl [.slice ca cl.length cc,I at_,.bool true,I gen,.slice (some ⟨xb,xo+1,none⟩) l.length (xc - 1),.slice qa (gl.length+1) qc] rfl (fun w6_ M6=>?_);replace zab:=zwb M6;have c1:=zaa (i:=1) zab.o rfl;go_wp2_with (with_reducible refine zT ?_)
 clear c1;refine zap rfl 3 (.tmp 60) (.tmp 59) rfl b0 1 rfl [I (at_+1)] (rfl) zab rfl zi3 rfl [.slice ca cl.length cc,I (at_+1),.bool true,I gen,.slice (some ⟨xb,xo+1,none⟩) l.length (xc - 1),.slice qa (gl.length+1) qc] rfl (fun w7_ M7=>?_);replace zab:=zwb M7;go_wp2_with (with_reducible refine zT ?_)
 refine zap rfl 4 (.tmp 61) (.const (.bool false)) rfl b0 2 rfl [.bool false] (rfl) zab rfl zi4 rfl [.slice ca cl.length cc,I (at_+1),.bool false,I gen,.slice (some ⟨xb,xo+1,none⟩) l.length (xc - 1),.slice qa (gl.length+1) qc] rfl (fun w8_ M8=>?_);replace zab:=zwb M8;go_wp2_with (with_reducible refine zT ?_)
 refine zai rfl 61 (.tmp 4) rfl b0 rfl zab zcn zcw (fun v62 H_v62=>?_);go_wp2_with (with_reducible refine zT ?_)
 replace zad:=zwg M8 (zwg M7 (zwg M6 (zbx zad e9) zaB) zaB) zaB;refine zaf rfl 61 (.tmp 8) (.tmp 62) rfl b1 rfl _ (zcv H_v62) zad rfl zcw rfl (fun w9_ M9=>?_);replace zad:=zwb M9;go_wp2
 have z0:=zay (P:=Try.prog) 61 zad.o zcn (by kernel_rfl);refine bodyPost_ret (by simp [results,Try.results33,asAddr,z0]; rfl) rfl ?_;have hres:=HX.o;rw [if_pos (by simp)] at hres;obtain ⟨h1,h2⟩:=Prod.mk.inj hres;obtain ⟨h3,h4⟩:=Prod.mk.inj h2;subst h4;subst h3;subst h1;replace HC:=zwr M9 (zwr M8 (zwr M7 (zwr M6 (zrx HC e9) zaJ) zaJ) zaJ) zaD;replace HB:=zwr M9 (zwr M8 (zwr M7 (zwr M6 (zrx HB e9) zaJ) zaJ) zaJ) zaD;replace EW:=zwe M9 (zwe M8 (zwe M7 (zwe M6 (zhd (EW.o.trans e9)) zbD) zbD) zbD) zbu;replace HRO:=zwr M9 (zwr M8 (zwr M7 (zwr M6 HRO zaJ) zaJ) zaJ) zaD;exact ⟨_,rfl,EW.o,Rd.widen (A:=B1) (zcg (zc8 (c:=⟨cl,(at_+1),false,gen,l,(gl++[⟨re,rn⟩])⟩) HC.o HB.o HRO.o) (Rd.all fun w=>za9 w)) (fun k _ h=>HK.o.2.2.2 k (zmC.o k h))⟩

open Go.RowKit Go.Mk

def zbB (l:List (Int×Int)) (name n:Int):List (Int×Int):=l.map fun p=>if p.1=name then (p.1,n) else p

theorem zls (l:List (Int×Int)) (p:Int×Int) (name n:Int):zbB (l++[p]) name n=zbB l name n++[if p.1=name then (p.1,n) else p]:=by simp [zbB]

theorem zbc (l:List (Int×Int)) (name n:Int):(zbB l name n).length=l.length:=by simp [zbB]

theorem zh7 {l:List (Int×Int)} (h:Okn l) {name:Int} (ha:at1 l name < l.length) (n:Int):zbB l name n=zch l (at1 l name) n:=by
 refine zfW (by rw [zbc,zaH]) fun j hj=>?_
 rw [zbc] at hj
 rw [zgk _ _ _ _ ha]
 have e:(zbB l name n).getD j (0,0)=if (l.getD j (0,0)).1=name then ((l.getD j (0,0)).1,n) else l.getD j (0,0):=by
  simp [zbB,List.getD_eq_getElem?_getD,hj]
 rw [e]
 by_cases hn:(l.getD j (0,0)).1=name
 ·have:at1 l name=j:=h.uni ha hj (by rw [zcq ha,hn])
  rw [if_pos hn,if_pos this]
 ·have:at1 l name≠j:=fun e=>hn (by rw [<- e]; exact zcq ha)
  rw [if_neg hn,if_neg this]

theorem zle {l:List (Int×Int)} {name:Int} (ha:¬ at1 l name < l.length) (n:Int):zbB l name n=l:=by
 have e:at1 l name=l.length:=by have:=zg7 l name; omega
 refine zfW (zbc _ _ _) fun j hj=>?_
 rw [zbc] at hj
 have hn:(l.getD j (0,0)).1≠name:=zcP (by omega)
 simp [zbB,List.getD_eq_getElem?_getD,hj] at hn ⊢
 intro h
 exact absurd h hn

def zof (l:List (Int×Int)) (name:Int):Int:=if at1 l name < l.length then num l (at1 l name) else 0

def isR (l:List (Int×Int)) (name:Int):Bool:=decide (at1 l name < l.length)

def zgJ (l:List (Int×Int)) (name:Int) (k:Nat):Bool:=decide (at1 l name < k)

theorem zdM {l:List (Int×Int)} {name:Int} (h:at1 l name < l.length):zof l name=num l (at1 l name):=if_pos h

theorem zeC {l:List (Int×Int)} {name:Int} (h:at1 l name < l.length):isR l name=true:=decide_eq_true h

theorem zfl {l:List (Int×Int)} {name:Int} (h:¬ at1 l name < l.length):zof l name=0:=if_neg h

theorem zfX {l:List (Int×Int)} {name:Int} (h:¬ at1 l name < l.length):isR l name=false:=decide_eq_false h

theorem zdz (v:Value) (l:List (Int×Int)) (name:Int) (w:World) (hv:zan w v l) :
  Calls Try.prog 60 #[v,I name] w fun e w'=>e=.returned (.tuple #[I (zof l name),.bool (isR l name)])/\Ext w w':=by
 obtain ⟨ao,cap,rfl,h1,h2,h3⟩:=hv.form;unfold maxLen at h2;clear hv;go_enter Try.func60,Try.ntmps60
 go_wp2
 go_loopw [10] (fun i wr=>∃ k:Nat,k<=l.length/\i=I k/\(∀ j,j < k->(l.getD j (0,0)).1≠name)/\Ext w wr) (fun i _=>l.length - (intOf i).toNat)
 case atStart=>exact ⟨0,by omega,rfl,fun j hj=>by omega,Ext.refl w⟩
 case round =>
  obtain ⟨k,hk,rfl,hf,he⟩:=hrel;have HF:Hid (∀ j,j < k->(l.getD j (0,0)).1≠name):=hf;clear hf;by_cases hlt:k < l.length
  ·obtain ⟨b,off,rfl,hc1,hc2⟩:=h3 k hlt;clear h3;have hd1:=he.cell hc1;have hd2:=he.cell hc2;clear hc1 hc2;generalize hp:l.getD k (0,0)=p at hd1 hd2;have HP:Hid (l.getD k (0,0)=p):=hp;clear hp;obtain ⟨at_,n⟩:=p;simp only [] at hd1 hd2;by_cases hn:at_=name
   ·have hb:(at_ == name)=true:=by simp [hn]
    have HN:Hid (at_=name):=hn;clear hn;go_wp2
    go_ret2
    have:=zhz hlt (by rw [HP.o]; exact HN.o) HF.o;refine ⟨?_,he.alloc _⟩;have hnum:num l k=n:=by unfold num; rw [HP.o]
    rw [zdM (by omega),zeC (by omega),this,hnum];rfl
   ·have hb:(at_ == name)=false:=by simpa using hn
    have HN:Hid (at_≠name):=hn;clear hn;go_wp2
    go_roundw
    case rel =>
     refine ⟨k+1,by omega,by go_num,fun j hj=>?_,he.alloc _⟩;by_cases hjk:j < k
     ·exact HF.o j hjk
     ·rw [show j=k by omega,HP.o]; exact HN.o
    case measure=>simp [intOf]; omega
  ·go_wp2
   go_ret2
   have:=zeX (l:=l) (name:=name) (fun j hj=>HF.o j (by omega));refine ⟨?_,he⟩;rw [zfl (by omega),zfX (by omega)];rfl

def zit (l:List (Int×Int)) (name n:Int):List (Int×Int):=zbB l name n++if at1 l name < l.length then [] else [(name,n)]

theorem zfd {l:List (Int×Int)} {name n:Int} (h:at1 l name < l.length):zit l name n=zbB l name n:=by unfold zit; rw [if_pos h,List.append_nil]

theorem zik {l:List (Int×Int)} {name n:Int} (h:¬ at1 l name < l.length):zit l name n=zbB l name n++[(name,n)]:=by unfold zit; rw [if_neg h]

theorem zfe (v:Value) (l:List (Int×Int)) (name n:Int) (w:World) (hv:zan w v l) (hr:(l.length+1) * 16<=140737488355328) :
  Calls Try.prog 62 #[v,I name,I n] w fun e w'=>∃ r,e=.returned r/\Ext w w'/\Has w.heap.size w' r (zit l name n):=by
 obtain ⟨i0,hi,hz0,hz1,hz2⟩:=info_parts Try.infoWrite2;obtain ⟨ao,cap,rfl,h1,h2,h3⟩:=hv.form;unfold maxLen at h2;clear hv;go_enter Try.func62,Try.ntmps62
 go_wp2
 go_loopw [7,8,13] (fun o d i wr=>∃ k:Nat,k<=l.length/\i=I k/\d=.bool (zgJ l name k)/\wr.ownsRow w.heap.size 74 2 o k (zat (zbB (l.take k) name n))/\Ext w wr) (fun _ _ i _=>l.length - (intOf i).toNat)
 case atStart=>exact ⟨0,by omega,rfl,by simp [zgJ],World.ownsRow_nil _ _ _ _,Ext.refl w⟩
 case round =>
  obtain ⟨k,hk,rfl,rfl,ho,he⟩:=hrel;by_cases hlt:k < l.length
  ·obtain ⟨b,off,rfl,hc1,hc2⟩:=h3 k hlt;clear h3;have hd1:=he.cell hc1;have hd2:=he.cell hc2;clear hc1 hc2;have HB:Hid ((l.getD k (0,0)).1=name->at1 l name<=k):=fun h=>Nat.le_of_not_lt fun hlt=>zcP hlt h;have HB2:Hid ((l.getD k (0,0)).1≠name->at1 l name≠k):=fun h e=>h (by rw [<- e]; exact zcq (by omega))
   have HT:Hid (zbB (l.take (k+1)) name n=zbB (l.take k) name n++[if (l.getD k (0,0)).1=name then ((l.getD k (0,0)).1,n) else l.getD k (0,0)]):=by
    unfold Hid;rw [List.take_add_one,List.getElem?_eq_getElem hlt,List.getD_eq_getElem?_getD,List.getElem?_eq_getElem hlt];exact zls _ _ _ _
   generalize l.getD k (0,0)=p at *;obtain ⟨at_,m⟩:=p;simp only [] at hd1 hd2 HB HB2 HT;by_cases hn:at_=name
   ·have hb:(at_ == name)=true:=by simp [hn]
    have HN:Hid (at_=name):=hn;clear hn;go_wp2_with (at_builtin; refine zbl ?_)
    unfold Hid;refine zav _ rfl (.tmp 23) (.tmp 25) 26 rfl w.heap.size 74 i0 (.agg #[.int .i64 0,.int .i64 0]) 2 16 zfr hi hz0 hz1 hz2 rfl (by decide) u7 k (zat (zbB (l.take k) name n)) rfl ((ho.alloc _).alloc _) _ rfl 1 [I at_,I n] (zcY _ _ [(at_,n)] _ 1 rfl rfl (by decide)) (zbp [(at_,n)]) (by omega) (by decide) (by have:=he.size; simp; omega) ?_;intro o' w3 ho3 hg3;have he3:Ext w w3:=((he.alloc _).alloc _).grown hg3 (fun j hj=>(ho.lt j hj).1);clear hg3;go_wp2
    go_roundw
    case rel =>
     refine ⟨k+1,by omega,by go_num,?_,?_,he3⟩
     ·have:=HB.o HN.o;simp [zgJ]; omega
     ·rw [HT.o,if_pos HN.o,za4]; exact ho3
    case measure=>simp [intOf]; omega
   ·have hb:(at_ == name)=false:=by simpa using hn
    have HN:Hid (at_≠name):=hn;clear hn;go_wp2_with (at_builtin; refine zbl ?_)
    unfold Hid;refine zav _ rfl (.tmp 23) (.tmp 25) 26 rfl w.heap.size 74 i0 (.agg #[.int .i64 0,.int .i64 0]) 2 16 zfr hi hz0 hz1 hz2 rfl (by decide) u7 k (zat (zbB (l.take k) name n)) rfl ((ho.alloc _).alloc _) _ rfl 1 [I at_,I m] (zcY _ _ [(at_,m)] _ 1 rfl rfl (by decide)) (zbp [(at_,m)]) (by omega) (by decide) (by have:=he.size; simp; omega) ?_;intro o' w3 ho3 hg3;have he3:Ext w w3:=((he.alloc _).alloc _).grown hg3 (fun j hj=>(ho.lt j hj).1);clear hg3;go_wp2
    go_roundw
    case rel =>
     refine ⟨k+1,by omega,by go_num,?_,?_,he3⟩
     ·have:=HB2.o HN.o;simp [zgJ]; omega
     ·rw [HT.o,if_neg HN.o,za4]; exact ho3
    case measure=>simp [intOf]; omega
  ·have hkl:k=l.length:=by omega
   subst hkl;rw [List.take_of_length_le (Nat.le_refl _)] at ho;by_cases ha:at1 l name < l.length
   ·have hse:zgJ l name l.length=true:=by simp [zgJ,ha]
    go_wp2
    go_ret
    refine ⟨_,rfl,he,?_⟩;rw [zfd ha];exact ⟨_,_,_,ho,fun w2 h2=>zar h2⟩
   ·have hse:zgJ l name l.length=false:=by simp [zgJ]; omega
    go_wp2_with (at_builtin; refine zbl ?_)
    unfold Hid;refine zav _ rfl (.tmp 30) (.tmp 34) 26 rfl w.heap.size 74 i0 (.agg #[.int .i64 0,.int .i64 0]) 2 16 zfr hi hz0 hz1 hz2 rfl (by decide) u7 l.length (zat (zbB l name n)) rfl (ho.alloc _) _ rfl 1 [I name,I n] (zcf (l:=[(name,n)]) _ _ 1 rfl rfl (by decide)) (zbp [(name,n)]) (by omega) (by decide) (by have:=he.size; simp; omega) ?_;intro o' w3 ho3 hg3;have he3:Ext w w3:=(he.alloc _).grown hg3 (fun j hj=>(ho.lt j hj).1);clear hg3;go_wp2
    go_ret
    refine ⟨_,rfl,he3,?_⟩;rw [zik ha];rw [show zat (zbB l name n)++[I name,I n]=zat (zbB l name n++[(name,n)]) from (za4 _ [(name,n)]).symm] at ho3;exact ⟨_,_,_,ho3,fun w2 h2=>zar h2⟩

end Go.Proofs.Ytdmipnnfoolelaf
