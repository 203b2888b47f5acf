/- Texts of the proof, merged: V4. -/
import Derived.Test.YtdmipnnfoolelaeGreatKUA
import Derived.Test.YtdmipnnfoolelaeGreatKUW
import Derived.Test.YtdmipnnfoolelaeGreatKUX
import Derived.Test.YtdmipnnfoolelaeGreatKUJ
import Derived.Test.YtdmipnnfoolelaeGreatKUK
import Derived.Test.YtdmipnnfoolelaeGreatKU9
import Derived.Test.YtdmipnnfoolelaeGreatKUT
import Derived.Test.YtdmipnnfoolelaeGreatKUF
set_option maxHeartbeats 4000000
set_option maxRecDepth 100000

namespace Go.Proofs.YtdmipnnfoolelaeGreat
open Go.RowKit Go.Mk

def zoN (v:Sv) (b:List UInt8) (r:Value) (w:World):Prop:=∃ (ds:List Value) (bv:Value),r=.tuple #[.agg ds.toArray,bv]/\zhg w ds v/\zbb w bv b
theorem zqz {v:Sv} {b:List UInt8} {r:Value} {A:Nat->Prop} {w:World} (h:Rd A (zoN v b r) w):∃ (ds:List Value) (bv:Value),r=.tuple #[.agg ds.toArray,bv]/\Rd A (fun w=>zhg w ds v) w/\Rd A (fun w=>zbb w bv b) w:=by
 obtain ⟨ds,bv,e1,h1,h2⟩:=h.o
 have key:∀ w',zoN v b r w'->zhg w' ds v/\zbb w' bv b:=fun w' hw=>by
  obtain ⟨ds',bv',e1',h3,h4⟩:=hw
  rw [e1] at e1'
  simp only [Value.tuple.injEq,Array.mk.injEq,List.cons.injEq,Value.agg.injEq,and_true] at e1'
  obtain ⟨q1,q2⟩:=e1'
  have q1:ds=ds':=by simpa using q1
  subst q1 q2
  exact ⟨h3,h4⟩
 exact ⟨ds,bv,e1,h.imp fun w' hw=>(key w' hw).1,h.imp fun w' hw=>(key w' hw).2⟩
theorem zhs {v:Sv} {b:List UInt8} {ds:List Value} {bv:Value} {A:Nat->Prop} {w:World} (h2:Rd A (fun w=>zhg w ds v) w) (h3:Rd A (fun w=>zbb w bv b) w):Rd A (zoN v b (.tuple #[.agg ds.toArray,bv])) w :=
 (h2.and h3).imp fun _ h=>⟨ds,bv,rfl,h.1,h.2⟩
theorem znu {base:Nat} {w:World} {v:Value} {l:List UInt8} {n:Nat} (hn:l.length=n) (h:w.ownsRow base 5 1 v n (l.map U)):Rd (fun k=>base<=k) (fun w=>zbb w v l) w:=by
 subst hn
 exact zdP h

theorem zmY (c u a p:Value) (s:St) (n:Int) (w:World) (h:zb8 w [c,u,a,p] s) :
  zaQ Tryz.prog 90 #[.agg #[c,u,a,p],I n] w (fun _=>False) (fun r w'=>zbb w' r (zch (lastAn s.answers n).1)):=by
 unfold zaQ;obtain ⟨h1,h2,h3,h4⟩:=zcp.1 h;obtain ⟨ca,cc,rfl⟩:=zao h1;obtain ⟨ua,uc,rfl⟩:=zao h2;obtain ⟨aa,ac,rfl⟩:=zaf h3;obtain ⟨pa,pc,rfl⟩:=zaf h4;clear h1 h2 h3 h4;have HE:=zhd h;clear h;have EW:=zhd (Ext.refl w);obtain ⟨⟨lc2,lt,⟨le,ln⟩⟩,LB,hL⟩:∃ x y,lastAn s.answers n=(x,y):=⟨_,_,rfl⟩;have HL:=zhd hL;rw [hL];clear hL;go_enter Tryz.func90,Tryz.ntmps90
 go_wp2_with (with_reducible refine zT ?_)
 refine zaj rfl 31 (.tmp 0) rfl #[.slice ca s.cells.length cc,.slice ua s.undo.length uc,.slice aa s.answers.length ac,.slice pa s.past.length pc] rfl (fun b0 w1_ M1=>?_);have zab:=zmb M1;go_wp2_with (with_reducible refine zT ?_)
 unfold Hid;refine zfT rfl 31 (.tmp 2) rfl b0 0 rfl zab.o [.slice ca s.cells.length cc,.slice ua s.undo.length uc,.slice aa s.answers.length ac,.slice pa s.past.length pc] rfl zcC (by kernel_rfl) (fun v8 H_v8=>?_);go_wp2_with fail
 rw [show _=Value.agg #[.slice ca s.cells.length cc,.slice ua s.undo.length uc,.slice aa s.answers.length ac,.slice pa s.past.length pc] from H_v8.o];replace EW:=zet EW M1;have hl:=zmu _ _ _ _ s n w1_ (zfw _ _ _ _ EW.o HE.o);rw [HL.o] at hl;refine Calls.exts hl (fun wl el=>?_);clear hl H_v8;replace zab:=zhd (zbS zab.o el);replace EW:=zhd (EW.o.trans el);clear el;go_wp2_with (with_reducible refine zT ?_)
 refine zae rfl 99 #[I 0,I 0,I 0,I 0] (by kernel_rfl) (fun b1 w2_ M2=>?_);have zay:=zld zab M2;have zad:=zmb M2;replace zab:=zmo M2 zab;replace EW:=zet EW M2;have za4:Hid (w.heap.size<=b1):=by unfold Hid; have q:=M2.o.size; have q2:=EW.o.size; have q3:=M2.o.at_; have q4:=zay.o; have q5:=(zlt zab); have q6:=M1.o.at_; omega
 go_wp2_with (with_reducible refine zT ?_)
 unfold Hid;refine zcH rfl 99 (.tmp 5) (.tmp 11) rfl b1 0 rfl [I lc2,I lt,I le,I ln] (rfl) zad.o (Nat.le_of_ble_eq_true rfl) (by kernel_rfl) (zbJ rfl) #[I lc2,I lt,I le,I ln] ((zb6 _ _ _ (Nat.le_of_ble_eq_true rfl)).trans rfl) (fun w3_ M3=>?_);replace zad:=zwb M3;have l0:=zaa (i:=0) zad.o rfl;have l1:=zaa (i:=1) zad.o rfl;have l2:=zaa (i:=2) zad.o rfl;have l3:=zaa (i:=3) zad.o rfl;go_wp2_with fail
 clear l0 l1 l2 l3;refine (ziG lc2 lt le ln w3_).mono ?_;rintro e w9 ⟨v',rfl,ho,e9⟩
 have hb:=znu (l:=zch ⟨lc2,lt,⟨le,ln⟩⟩) rfl ho;replace EW:=zwe M3 EW za4;have hsz:=EW.o.size;go_wp2
 go_ret
 replace EW:=zhd (EW.o.trans e9);exact ⟨_,rfl,EW.o,hb.widen fun k _ h=>.inr (by omega)⟩

theorem zne (sc:List Int) (su:List (Int×Int)) (sa:List An) (sp:List Rq) (gen:Int) (nc nt nk na no nn:Int) (se sn:Int) (b:List UInt8) (l:List (List UInt8)) (pl:List (Int×Int)) (c u a p box plan:Value) (w:World) (A:Nat->Prop) (hs:Rd A (fun w=>zb8 w [c,u,a,p] ⟨sc,su,sa,sp⟩) w) (hb:Rd A (fun w=>zar 1 zb0 w box (b::l)) w) (hp:Rd A (fun w=>zax w plan pl) w) (hwo:ze7 sc) :
  zaQ Tryz.prog 91 #[.agg #[c,u,a,p],.agg #[I gen,box,.bool false,I nc,I nt,I nk,I na,I no,I nn,plan,I se,I sn]] w A (fun r w'=>zoN (zaE ⟨sc,su,sa,sp⟩ ⟨gen,(b::l),false,⟨nc,nt,⟨nk,na,no,nn⟩⟩,pl,⟨se,sn⟩⟩).2.1 (zaE ⟨sc,su,sa,sp⟩ ⟨gen,(b::l),false,⟨nc,nt,⟨nk,na,no,nn⟩⟩,pl,⟨se,sn⟩⟩).2.2.1 r w'):=by
 suffices hall:∀ T:Value->World->Prop,(∀ r A w,Rd A (zoN (zaE ⟨sc,su,sa,sp⟩ ⟨gen,(b::l),false,⟨nc,nt,⟨nk,na,no,nn⟩⟩,pl,⟨se,sn⟩⟩).2.1 (zaE ⟨sc,su,sa,sp⟩ ⟨gen,(b::l),false,⟨nc,nt,⟨nk,na,no,nn⟩⟩,pl,⟨se,sn⟩⟩).2.2.1 r) w->Rd A (T r) w)->zaQ Tryz.prog 91 #[.agg #[c,u,a,p],.agg #[I gen,box,.bool false,I nc,I nt,I nk,I na,I no,I nn,plan,I se,I sn]] w A T from hall _ (fun _ _ _ h=>h)
 intro T hT;have HT:=zhd hT;clear hT;unfold zaQ;obtain ⟨h1,h2,h3,h4⟩:=zcp.1 hs.o;obtain ⟨ca,cc,rfl⟩:=zao h1;obtain ⟨ua,uc,rfl⟩:=zao h2;obtain ⟨aa,ac,rfl⟩:=zaf h3;obtain ⟨pa,pc,rfl⟩:=zaf h4;simp only [] at *;have EW:=zhd (Ext.refl w);obtain ⟨B,hB⟩:=zdh A w.heap.size 3;have HK:=zhd hB;clear hB;have R0:=zhd ((hs.and hp).widen HK.o.1);obtain ⟨la,lc,rfl⟩:=zao hp.o;obtain ⟨xb,xo,xc,bv,rfl,hx1,hx2,hf,hrest⟩:=zgO (hb.widen HK.o.1);have HF:=zhd hf;have HB:=zhd hrest;unfold maxLen at hx2;have HWO:=zhd hwo;clear h1 h2 h3 h4 hs hb hp hf hrest hwo;obtain ⟨⟨rc,rt,⟨rk,ra,ro,rn⟩⟩,re,hrr⟩:∃ x y,readRq b=(x,y):=⟨_,_,rfl⟩;have HRR:=zhd hrr;clear hrr;obtain ⟨⟨lc2,lt,⟨le,ln⟩⟩,LB,hL⟩:∃ x y,lastAn sa rc=(x,y):=⟨_,_,rfl⟩;have HL:=zhd hL;clear hL;go_enter Tryz.func91,Tryz.ntmps91
 go_wp2_with (with_reducible refine zT ?_)
 refine zaj rfl 31 (.tmp 0) rfl #[.slice ca sc.length cc,.slice ua su.length uc,.slice aa sa.length ac,.slice pa sp.length pc] rfl (fun b0 w1_ M1=>?_);have zab:=zmb M1;go_wp2_with (with_reducible refine zT ?_)
 refine zaj rfl 41 (.tmp 1) rfl #[I gen,.slice (some ⟨xb,xo,none⟩) (l.length+1) xc,.bool false,I nc,I nt,I nk,I na,I no,I nn,.slice la pl.length lc,I se,I sn] rfl (fun b1 w2_ M2=>?_);have zay:=zld zab M2;have zad:=zmb M2;go_wp2_with (with_reducible refine zT ?_)
 refine zae rfl 41 zS (by kernel_rfl) (fun b2 w3_ M3=>?_);replace zab:=zmo M2 zab;have zaJ:=zld zad M3;have zal:=zmb M3;have zaY:=zA0 M1;have zaF:=znb HK zaY (by decide);have zaZ:=zA1 zaY M1 M2;have zau:=znb HK zaZ (by decide);have za4:=zob zaZ;have zbX:=zA1 zaZ M2 M3;have zaT:=znb HK zbX (by decide);have zbu:=zob zbX;replace zad:=zmo M3 zad;have c1:=zaa (i:=1) zad.o rfl;replace HF:=zme M3 (zme M2 (zme M1 HF));have cx:=HF.o.o.1;go_wp2_with (first | (with_reducible refine zT ?_) | ((with_reducible refine zsc ?_ ?_); exact rfl))
 unfold Hid;clear c1 cx;replace R0:=zme M3 (zme M2 (zme M1 R0));replace HB:=zme M3 (zme M2 (zme M1 HB));replace EW:=zet (zet (zet EW M1) M2) M3;replace zab:=zmo M3 zab;refine zfA rfl l.length (fun na nc=>Rd B (fun w=>zar 1 zb0 w (.slice na l.length nc) l) w3_) ?_ (fun na' nc' hn=>?_)
 ·by_cases hcap:xc=1
  ·have hl0:l=[]:=List.eq_nil_of_length_eq_zero (by omega);refine ⟨some ⟨xb,xo,none⟩,0,by rw [hl0]; exact Rd.all fun w=>zeW w xb xo 0 (by decide),?_⟩;rw [hl0];subst hcap;go_simp
  ·exact ⟨some ⟨xb,xo+1,none⟩,xc - 1,HB.o,by go_simp; intro h; omega⟩
 replace HB:=zhd hn;clear hn hx1 hx2;go_wp2_with (with_reducible refine zT ?_)
 refine zam rfl 32 (.tmp 18) (.tmp 17) rfl b1 1 rfl [.slice na' l.length nc'] (rfl) zad rfl zkP rfl [I gen,.slice na' l.length nc',.bool false,I nc,I nt,I nk,I na,I no,I nn,.slice la pl.length lc,I se,I sn] rfl (fun w4_ M4=>?_);replace zad:=zwb M4;go_wp2_with fail
 replace HF:=zwr M4 HF zau;have hl:=ziv bv b w4_ HF.o.o.2;rw [HRR.o] at hl;refine Calls.exts hl (fun wa ea=>?_);clear hl HF;replace zab:=zbx (zwl M4 zab zay) ea;replace zal:=zbx (zwg M4 zal zaJ) ea;replace R0:=zrx (zwr M4 R0 zau) ea;replace HB:=zrx (zwr M4 HB zau) ea;replace EW:=zhd ((zwe M4 EW za4).o.trans ea);replace zad:=zbx zad ea;clear ea;go_wp2_with (with_reducible refine zT ?_)
 refine zae rfl 36 #[I 0,I 0,I 0,I 0,I 0,I 0] (by kernel_rfl) (fun b4 w5_ M5=>?_);have zb7:=zld zab M5;have zbq:=zld zad M5;have zcG:=zld zal M5;obtain ⟨B1,HB1⟩:=zEx B b4;have zc5:=zNn HB1;have zfS:=zIn HB1;have zer:=zOn M5 EW;have zaG:=zmb M5;go_wp2_with (with_reducible refine zT ?_)
 refine zac rfl 36 (.tmp 7) (.tmp 22) rfl b4 rfl [I rc,I rt,I rk,I ra,I ro,I rn] (rfl) zaG rfl zpf rfl (fun w6_ M6=>?_);replace zaG:=zwb M6;replace R0:=zwr M6 (zme M5 (zmd HB1 M5 R0)) zc5;replace HB:=zwr M6 (zme M5 (zmd HB1 M5 HB)) zc5;replace zaF:=znw HB1 zaF;replace zau:=znw HB1 zau;replace zaT:=znw HB1 zaT;replace zab:=zwl M6 (zmo M5 zab) zb7;replace zad:=zwl M6 (zmo M5 zad) zbq;replace zal:=zwl M6 (zmo M5 zal) zcG;replace EW:=zwe M6 (zet EW M5) zer;by_cases hre:re=0
 case neg =>
  have hbe:(re != 0)=true:=by simpa using hre
  go_wp2_with (with_reducible refine zT ?_)
  refine zah rfl 41 (.tmp 3) rfl b1 rfl zad zcc zc0 (fun v26 H_v26=>?_);go_wp2_with (with_reducible refine zT ?_)
  refine zac rfl 41 (.tmp 4) (.tmp 26) rfl b2 rfl _ (zcv H_v26) zal rfl zc0 rfl (fun w7_ M7=>?_);replace zal:=zwb M7;go_wp2
  have z0:=zaq (P:=Tryz.prog) 41 zal.o zcc (by kernel_rfl);refine bodyPost_ret (by simp [results,Tryz.results91,asAddr,z0]; rfl) rfl ?_
  have hX:zaE ⟨sc,su,sa,sp⟩ ⟨gen,(b::l),false,⟨nc,nt,⟨nk,na,no,nn⟩⟩,pl,⟨se,sn⟩⟩=(⟨sc,su,sa,sp⟩,⟨gen,l,false,⟨nc,nt,⟨nk,na,no,nn⟩⟩,pl,⟨se,sn⟩⟩,[],0):=by
   show (if (readRq b).2≠0 then _ else if (lastAn sa (readRq b).1.client).2=true/\(readRq b).1.token<=(lastAn sa (readRq b).1.client).1.token then (if (lastAn sa (readRq b).1.client).1.token=(readRq b).1.token then _ else _) else _)=_
   rw [HRR.o];simp only [];rw [HL.o];rw [if_pos hre]
  have ht:=HT.o;rw [hX] at ht;replace R0:=zwr M7 R0 zaT;replace HB:=zwr M7 HB zaT;replace EW:=zwe M7 EW zbu;exact ⟨_,rfl,EW.o,ht _ _ _ (Rd.widen (A:=B1) (zhs (zdt (v:=⟨gen,l,false,⟨nc,nt,⟨nk,na,no,nn⟩⟩,pl,⟨se,sn⟩⟩) HB.o R0.o.right) (Rd.all fun w=>zbc w)) (fun k _ h=>HK.o.2.2.2 k (zfS.o k h)))⟩
 subst hre;go_wp2_with (with_reducible refine zT ?_)
 refine zah rfl 31 (.tmp 2) rfl b0 rfl zab zcC zfr (fun v28 H_v28=>?_);have d0:=zaa (i:=0) zaG.o rfl;go_wp2_with fail
 clear d0;rw [H_v28.o];have hl:=zmu _ _ _ _ ⟨sc,su,sa,sp⟩ rc w6_ R0.o.left.o;rw [HL.o] at hl;refine Calls.exts hl (fun wl el=>?_);clear hl H_v28;replace zab:=zbx zab el;replace zad:=zbx zad el;replace zal:=zbx zal el;replace zaG:=zbx zaG el;replace R0:=zrx R0 el;replace HB:=zrx HB el;replace EW:=zhd (EW.o.trans el);clear el;go_wp2_with (with_reducible refine zT ?_)
 refine zae rfl 99 #[I 0,I 0,I 0,I 0] (by kernel_rfl) (fun b5 w7_ M7=>?_);have zfL:=zld zab M7;have zcE:=zld zad M7;have ze1:=zld zal M7;have zfW:=zld zaG M7;obtain ⟨B11,HB11⟩:=zEx B1 b5;have zcy:=zNn HB11;have zjh:=zIn HB11;have zkS:=zOn M7 EW;have zaP:=zmb M7;go_wp2_with (with_reducible refine zT ?_)
 refine zac rfl 99 (.tmp 9) (.tmp 32) rfl b5 rfl [I lc2,I lt,I le,I ln] (rfl) zaP rfl zmF rfl (fun w8_ M8=>?_);replace zaP:=zwb M8;replace zaG:=zwl M8 (zmo M7 zaG) zfW;have d1:=zaa (i:=1) zaG.o rfl;have l1:=zaa (i:=1) zaP.o rfl;replace R0:=zwr M8 (zme M7 (zmd HB11 M7 R0)) zcy;replace HB:=zwr M8 (zme M7 (zmd HB11 M7 HB)) zcy;replace zau:=znw HB11 zau;replace zaT:=znw HB11 zaT;replace zab:=zwl M8 (zmo M7 zab) zfL;replace zad:=zwl M8 (zmo M7 zad) zcE;replace zal:=zwl M8 (zmo M7 zal) ze1;replace EW:=zwe M8 (zet EW M7) zkS;by_cases hq1:LB=true/\lt=rt
 case pos =>
  obtain ⟨rfl,rfl⟩:=hq1;go_wp2_with fail
  clear d1 l1;refine zbh (S:=fun w'=>w'.heap[b1]?=some (.cells #[I gen,.slice na' l.length nc',.bool false,I nc,I nt,I nk,I na,I no,I nn,.slice la pl.length lc,I se,I sn] 41 (0,0))/\w'.heap[b5]?=some (.cells #[I lc2,I lt,I le,I ln] 99 (0,0))) (by kernel_rfl) (fun wd ed _=>?_);replace zad:=zbx zad ed;replace zaP:=zbx zaP ed;have HSS:Hid (wd.heap[b1]?=some (.cells #[I gen,.slice na' l.length nc',.bool false,I nc,I nt,I nk,I na,I no,I nn,.slice la pl.length lc,I se,I sn] 41 (0,0))/\wd.heap[b5]?=some (.cells #[I lc2,I lt,I le,I ln] 99 (0,0))):=⟨zad.o,zaP.o⟩;refine zaK 0 rfl (by kernel_rfl) (by kernel_rfl) (by kernel_rfl) (fun _ _ _ _ h=>h) rfl 41 (.tmp 3) rfl b1 rfl (fun w' hS=>hS.1) zcc (by kernel_rfl) HSS ?_;refine zag fun K h=>?_; go_simp; refine h _ ?_; clear h K;refine zaK 1 rfl (by kernel_rfl) (by kernel_rfl) (by kernel_rfl) (fun _ _ _ _ h=>h) rfl 99 (.tmp 9) rfl b5 rfl (fun w' hS=>hS.2) zrs (by kernel_rfl) HSS ?_;refine zag fun K h=>?_; go_simp; refine h _ ?_; clear h K;refine zdM 2 (by kernel_rfl) rfl rfl 103 #[.agg #[I lc2,I lt,I le,I ln]] (by go_simp) ?_;refine (ziG lc2 lt le ln wd).mono ?_;rintro e w9 ⟨v45,rfl,ho,e9⟩
  have hby:=znu (l:=zch ⟨lc2,lt,⟨le,ln⟩⟩) rfl ho;clear ho;replace zal:=zbx zal ed;have hsz:w.heap.size+3<=wd.heap.size:=by have q:=(zlt zal); have q2:=zbX.o; omega
  replace zaG:=zbx zaG ed;have hz4:b4 < wd.heap.size:=(zlt zaG);have hz5:b5 < wd.heap.size:=(zlt zaP);have HBY:=zhd (hby.widen (B:=B11) (fun k _ h=>(HB11.o k).2 ⟨(HB1.o k).2 ⟨HK.o.2.1 k (by omega),by omega⟩,by omega⟩));clear hby hsz hz4 hz5;clear HSS;replace zad:=zbx zad e9;replace zaP:=zbx zaP e9;refine ⟨_,rfl,⟨zad.o,zaP.o⟩,?_⟩;have HSS:Hid (w9.heap[b1]?=some (.cells #[I gen,.slice na' l.length nc',.bool false,I nc,I nt,I nk,I na,I no,I nn,.slice la pl.length lc,I se,I sn] 41 (0,0))/\w9.heap[b5]?=some (.cells #[I lc2,I lt,I le,I ln] 99 (0,0))):=⟨zad.o,zaP.o⟩;refine zag fun K h=>?_; go_simp; refine h _ ?_; clear h K;replace zab:=zbx (zbx zab ed) e9;replace R0:=zrx (zrx R0 ed) e9;replace HB:=zrx (zrx HB ed) e9;replace EW:=zhd ((zhd (EW.o.trans ed)).o.trans e9);replace zal:=zbx zal e9;replace zaG:=zbx zaG e9;refine zaX 3 (by kernel_rfl) rfl rfl 41 (.tmp 4) (.tmp 43) rfl b2 rfl [I gen,.slice na' l.length nc',.bool false,I nc,I nt,I nk,I na,I no,I nn,.slice la pl.length lc,I se,I sn] (rfl) zal rfl (by kernel_rfl) rfl (fun w9_ M9=>⟨?_,?_⟩)
  ·exact ⟨M9.o.old zad.o (Nat.ne_of_lt zaJ.o),M9.o.old zaP.o (Nat.ne_of_gt ze1.o)⟩
  replace zal:=zwb M9;clear HSS;replace zad:=zwl M9 zad zaJ;replace zaP:=zwg M9 zaP ze1;have HSS:Hid (w9_.heap[b1]?=some (.cells #[I gen,.slice na' l.length nc',.bool false,I nc,I nt,I nk,I na,I no,I nn,.slice la pl.length lc,I se,I sn] 41 (0,0))/\w9_.heap[b5]?=some (.cells #[I lc2,I lt,I le,I ln] 99 (0,0))):=⟨zad.o,zaP.o⟩;refine zag fun K h=>?_; go_simp; refine h _ ?_; clear h K;refine zaD 4 (by kernel_rfl) rfl rfl _ rfl HSS.o ?_;refine zag fun K h=>?_; go_simp; refine h _ ?_; clear h K;refine wpAnyH_done (by kernel_rfl) ?_ _;clear HSS;go_wp2
  have z0:=zaq (P:=Tryz.prog) 41 zal.o zcc (by kernel_rfl);refine bodyPost_ret (by simp [results,Tryz.results91,asAddr,z0]; rfl) rfl ?_
  have hX:zaE ⟨sc,su,sa,sp⟩ ⟨gen,(b::l),false,⟨nc,nt,⟨nk,na,no,nn⟩⟩,pl,⟨se,sn⟩⟩=(⟨sc,su,sa,sp⟩,⟨gen,l,false,⟨nc,nt,⟨nk,na,no,nn⟩⟩,pl,⟨se,sn⟩⟩,zch ⟨lc2,lt,⟨le,ln⟩⟩,0):=by
   show (if (readRq b).2≠0 then _ else if (lastAn sa (readRq b).1.client).2=true/\(readRq b).1.token<=(lastAn sa (readRq b).1.client).1.token then (if (lastAn sa (readRq b).1.client).1.token=(readRq b).1.token then _ else _) else _)=_
   rw [HRR.o];simp only [];rw [HL.o];rw [if_neg (by simp),if_pos ⟨rfl,Int.le_refl _⟩,if_pos rfl]
  have ht:=HT.o;rw [hX] at ht;replace R0:=zwr M9 R0 zaT;replace HB:=zwr M9 HB zaT;replace HBY:=zwr M9 HBY zaT;replace EW:=zwe M9 EW zbu;exact ⟨_,rfl,EW.o,ht _ _ _ (Rd.widen (A:=B11) (zhs (zdt (v:=⟨gen,l,false,⟨nc,nt,⟨nk,na,no,nn⟩⟩,pl,⟨se,sn⟩⟩) HB.o R0.o.right) (HBY.o)) (fun k _ h=>HK.o.2.2.2 k (zfS.o k (zjh.o k h))))⟩
 by_cases hq2:LB=true/\rt < lt
 case pos =>
  obtain ⟨rfl,hlt⟩:=hq2;have hb2:(lt == rt)=false:=by simp; omega
  go_wp2_with (with_reducible refine zT ?_)
  clear d1 l1;refine zah rfl 41 (.tmp 3) rfl b1 rfl zad zcc zc0 (fun v55 H_v55=>?_);go_wp2_with (with_reducible refine zT ?_)
  refine zac rfl 41 (.tmp 4) (.tmp 55) rfl b2 rfl _ (zcv H_v55) zal rfl zc0 rfl (fun w9_ M9=>?_);replace zal:=zwb M9;go_wp2
  have z0:=zaq (P:=Tryz.prog) 41 zal.o zcc (by kernel_rfl);refine bodyPost_ret (by simp [results,Tryz.results91,asAddr,z0]; rfl) rfl ?_
  have hX:zaE ⟨sc,su,sa,sp⟩ ⟨gen,(b::l),false,⟨nc,nt,⟨nk,na,no,nn⟩⟩,pl,⟨se,sn⟩⟩=(⟨sc,su,sa,sp⟩,⟨gen,l,false,⟨nc,nt,⟨nk,na,no,nn⟩⟩,pl,⟨se,sn⟩⟩,[],0):=by
   show (if (readRq b).2≠0 then _ else if (lastAn sa (readRq b).1.client).2=true/\(readRq b).1.token<=(lastAn sa (readRq b).1.client).1.token then (if (lastAn sa (readRq b).1.client).1.token=(readRq b).1.token then _ else _) else _)=_
   rw [HRR.o];simp only [];rw [HL.o];rw [if_neg (by simp),if_pos ⟨rfl,by simp only []; omega⟩,if_neg (by simp only []; omega)]
  have ht:=HT.o;rw [hX] at ht;replace R0:=zwr M9 R0 zaT;replace HB:=zwr M9 HB zaT;replace EW:=zwe M9 EW zbu;exact ⟨_,rfl,EW.o,ht _ _ _ (Rd.widen (A:=B11) (zhs (zdt (v:=⟨gen,l,false,⟨nc,nt,⟨nk,na,no,nn⟩⟩,pl,⟨se,sn⟩⟩) HB.o R0.o.right) (Rd.all fun w=>zbc w)) (fun k _ h=>HK.o.2.2.2 k (zfS.o k (zjh.o k h))))⟩
 have hcr:wrongCl ⟨rk,ra,ro,rn⟩=0:=by
  have q:=ziQ (b:=b) (by rw [HRR.o]);rw [HRR.o] at q;exact (zei q).2
 have HCR:=zhd hcr;clear hcr
 have hsel:LB=false∨(LB=true/\lt < rt):=by
  cases LB
  ·exact .inl rfl
  ·exact .inr ⟨rfl,by have q1:¬ lt=rt:=fun h=>hq1 ⟨rfl,h⟩; have q2:¬ rt < lt:=fun h=>hq2 ⟨rfl,h⟩; omega⟩
 clear hq1 hq2;obtain ⟨de,dn,hD⟩:∃ x y,(zbk (zbN sc) ⟨rk,ra,ro,rn⟩).2=⟨x,y⟩:=⟨_,_,rfl⟩;obtain ⟨PL,hPL⟩:∃ x,zbn (zbN sc) ⟨rk,ra,ro,rn⟩=x:=⟨_,rfl⟩;have HD:=zhd hD;have HPL:=zhd hPL;clear hD hPL;rcases hsel with rfl | ⟨rfl,hns⟩
 ·go_wp2_with fail
  clear d1 l1;refine zbh (S:=fun w'=>w'.heap[b4]?=some (.cells #[I rc,I rt,I rk,I ra,I ro,I rn] 36 (0,0))) (by kernel_rfl) (fun wd ed _=>?_);replace zaG:=zbx zaG ed;have HSS:Hid (wd.heap[b4]?=some (.cells #[I rc,I rt,I rk,I ra,I ro,I rn] 36 (0,0))):=zaG.o;refine zaK 0 rfl (by kernel_rfl) (by kernel_rfl) (by kernel_rfl) (fun _ _ _ _ h=>h) rfl 36 (.tmp 7) rfl b4 rfl (fun w' hS=>hS) zoh (by kernel_rfl) HSS ?_;refine zag fun K h=>?_; go_simp; refine h _ ?_; clear h K;refine zaw 1 rfl (by kernel_rfl) (by kernel_rfl) (by kernel_rfl) (fun _ _ _ _ h=>h) rfl HSS.o (fun K hK=>?_); go_simp; refine hK _ ?_; clear hK K;replace zab:=zbx zab ed;replace zad:=zbx zad ed;replace zal:=zbx zal ed;replace zaP:=zbx zaP ed;replace R0:=zrx R0 ed;replace HB:=zrx HB ed;replace EW:=zhd (EW.o.trans ed);refine zbE 2 (by kernel_rfl) rfl rfl 4 (.tmp 57) (.const (.bool true)) rfl b1 2 rfl [.bool true] (rfl) zad.o (Nat.le_of_ble_eq_true rfl) (by kernel_rfl) (zbJ rfl) #[I gen,.slice na' l.length nc',.bool true,I nc,I nt,I nk,I na,I no,I nn,.slice la pl.length lc,I se,I sn] ((zb6 _ _ _ (Nat.le_of_ble_eq_true rfl)).trans rfl) (fun w9_ M9=>⟨?_,?_⟩)
  ·exact M9.o.old zaG.o (Nat.ne_of_gt zbq.o)
  replace zad:=zwb M9;clear HSS;replace zaG:=zwg M9 zaG zbq;have HSS:Hid (w9_.heap[b4]?=some (.cells #[I rc,I rt,I rk,I ra,I ro,I rn] 36 (0,0))):=zaG.o;refine zag fun K h=>?_; go_simp; refine h _ ?_; clear h K;refine zaw 3 rfl (by kernel_rfl) (by kernel_rfl) (by kernel_rfl) (fun _ _ _ _ h=>h) rfl HSS.o (fun K hK=>?_); go_simp; refine hK _ ?_; clear hK K;replace zab:=zwl M9 zab zay;replace zal:=zwg M9 zal zaJ;replace zaP:=zwg M9 zaP zcE;replace R0:=zwr M9 R0 zau;replace HB:=zwr M9 HB zau;replace EW:=zwe M9 EW za4;refine zbE 4 (by kernel_rfl) rfl rfl 36 (.tmp 58) (.tmp 56) rfl b1 3 rfl [I rc,I rt,I rk,I ra,I ro,I rn] (rfl) zad.o (Nat.le_of_ble_eq_true rfl) (by kernel_rfl) (zbJ rfl) #[I gen,.slice na' l.length nc',.bool true,I rc,I rt,I rk,I ra,I ro,I rn,.slice la pl.length lc,I se,I sn] ((zb6 _ _ _ (Nat.le_of_ble_eq_true rfl)).trans rfl) (fun w10_ M10=>⟨?_,?_⟩)
  ·exact M10.o.old zaG.o (Nat.ne_of_gt zbq.o)
  replace zad:=zwb M10;clear HSS;replace zaG:=zwg M10 zaG zbq;have HSS:Hid (w10_.heap[b4]?=some (.cells #[I rc,I rt,I rk,I ra,I ro,I rn] 36 (0,0))):=zaG.o;refine zag fun K h=>?_; go_simp; refine h _ ?_; clear h K;refine wpAnyH_done (by kernel_rfl) ?_ _;clear HSS;replace zab:=zwl M10 zab zay;have s0:=zaa (i:=0) zab.o rfl;have d2:=zaa (i:=2) zaG.o rfl;have d3:=zaa (i:=3) zaG.o rfl;have d4:=zaa (i:=4) zaG.o rfl;have d5:=zaa (i:=5) zaG.o rfl;go_wp2_with fail
  clear s0 d2 d3 d4 d5;replace R0:=zwr M10 R0 zau;refine (zkw _ sc rk ra ro rn w10_ (zcp.1 R0.o.left.o).1 HWO.o HCR.o).mono ?_;rintro e w9 ⟨⟨uu,rfl,hu⟩,e9⟩
  replace hu:Has w10_.heap.size w9 uu (zbn (zbN sc) ⟨rk,ra,ro,rn⟩):=hu;rw [HPL.o] at hu;obtain ⟨ua',uc',rfl⟩:=zao hu.writes;rw [show (zbk (zaI sc (sc.getD 0 0).toNat) ⟨rk,ra,ro,rn⟩).2=⟨de,dn⟩ from HD.o];replace zal:=zwg M10 zal zaJ;have hsz:w.heap.size+3<=w10_.heap.size:=by have q:=(zlt zal); have q2:=zbX.o; omega
  have hz4:b4 < w10_.heap.size:=(zlt zaG);replace zaP:=zwg M10 zaP zcE;have hz5:b5 < w10_.heap.size:=(zlt zaP);have HPN:=zhd (hu.rd.widen (B:=B11) (fun k _ h=>(HB11.o k).2 ⟨(HB1.o k).2 ⟨HK.o.2.1 k (by omega),by omega⟩,by omega⟩));clear hu hsz hz4 hz5;go_wp2_with (with_reducible refine zT ?_)
  replace zad:=zbx zad e9;refine zam rfl 27 (.tmp 67) (.tmp 65) rfl b1 9 rfl [.slice ua' PL.length uc'] (rfl) zad rfl zmr rfl [I gen,.slice na' l.length nc',.bool true,I rc,I rt,I rk,I ra,I ro,I rn,.slice ua' PL.length uc',I se,I sn] rfl (fun w11_ M11=>?_);replace zad:=zwb M11;go_wp2_with (with_reducible refine zT ?_)
  refine zam rfl 39 (.tmp 68) (.tmp 66) rfl b1 10 rfl [I de,I dn] (rfl) zad rfl zqD rfl [I gen,.slice na' l.length nc',.bool true,I rc,I rt,I rk,I ra,I ro,I rn,.slice ua' PL.length uc',I de,I dn] rfl (fun w12_ M12=>?_);replace zad:=zwb M12;go_wp2_with (with_reducible refine zT ?_)
  refine zah rfl 41 (.tmp 3) rfl b1 rfl zad zcc zc0 (fun v69 H_v69=>?_);go_wp2_with (with_reducible refine zT ?_)
  replace zal:=zwg M12 (zwg M11 (zbx zal e9) zaJ) zaJ;refine zac rfl 41 (.tmp 4) (.tmp 69) rfl b2 rfl _ (zcv H_v69) zal rfl zc0 rfl (fun w13_ M13=>?_);replace zal:=zwb M13;go_wp2
  have z0:=zaq (P:=Tryz.prog) 41 zal.o zcc (by kernel_rfl);refine bodyPost_ret (by simp [results,Tryz.results91,asAddr,z0]; rfl) rfl ?_
  have hX:zaE ⟨sc,su,sa,sp⟩ ⟨gen,(b::l),false,⟨nc,nt,⟨nk,na,no,nn⟩⟩,pl,⟨se,sn⟩⟩=(⟨sc,su,sa,sp⟩,⟨gen,l,true,⟨rc,rt,⟨rk,ra,ro,rn⟩⟩,PL,⟨de,dn⟩⟩,[],0):=by
   show (if (readRq b).2≠0 then _ else if (lastAn sa (readRq b).1.client).2=true/\(readRq b).1.token<=(lastAn sa (readRq b).1.client).1.token then (if (lastAn sa (readRq b).1.client).1.token=(readRq b).1.token then _ else _) else _)=_
   rw [HRR.o];simp only [];rw [HL.o];rw [if_neg (by simp),if_neg (fun h=>by cases h.1),HPL.o,HD.o]
  have ht:=HT.o;rw [hX] at ht;replace HB:=zwr M13 (zwr M12 (zwr M11 (zrx (zwr M10 HB zau) e9) zau) zau) zaT;replace EW:=zwe M13 (zwe M12 (zwe M11 (zhd ((zwe M10 EW za4).o.trans e9)) za4) za4) zbu;replace HPN:=zwr M13 (zwr M12 (zwr M11 HPN zau) zau) zaT;exact ⟨_,rfl,EW.o,ht _ _ _ (Rd.widen (A:=B11) (zhs (zdt (v:=⟨gen,l,true,⟨rc,rt,⟨rk,ra,ro,rn⟩⟩,PL,⟨de,dn⟩⟩) HB.o HPN.o) (Rd.all fun w=>zbc w)) (fun k _ h=>HK.o.2.2.2 k (zfS.o k (zjh.o k h))))⟩
 ·have hb2:(lt == rt)=false:=by simp; omega
  go_wp2_with fail
  clear d1 l1;refine zbh (S:=fun w'=>w'.heap[b4]?=some (.cells #[I rc,I rt,I rk,I ra,I ro,I rn] 36 (0,0))) (by kernel_rfl) (fun wd ed _=>?_);replace zaG:=zbx zaG ed;have HSS:Hid (wd.heap[b4]?=some (.cells #[I rc,I rt,I rk,I ra,I ro,I rn] 36 (0,0))):=zaG.o;refine zaK 0 rfl (by kernel_rfl) (by kernel_rfl) (by kernel_rfl) (fun _ _ _ _ h=>h) rfl 36 (.tmp 7) rfl b4 rfl (fun w' hS=>hS) zoh (by kernel_rfl) HSS ?_;refine zag fun K h=>?_; go_simp; refine h _ ?_; clear h K;refine zaw 1 rfl (by kernel_rfl) (by kernel_rfl) (by kernel_rfl) (fun _ _ _ _ h=>h) rfl HSS.o (fun K hK=>?_); go_simp; refine hK _ ?_; clear hK K;replace zab:=zbx zab ed;replace zad:=zbx zad ed;replace zal:=zbx zal ed;replace zaP:=zbx zaP ed;replace R0:=zrx R0 ed;replace HB:=zrx HB ed;replace EW:=zhd (EW.o.trans ed);refine zbE 2 (by kernel_rfl) rfl rfl 4 (.tmp 57) (.const (.bool true)) rfl b1 2 rfl [.bool true] (rfl) zad.o (Nat.le_of_ble_eq_true rfl) (by kernel_rfl) (zbJ rfl) #[I gen,.slice na' l.length nc',.bool true,I nc,I nt,I nk,I na,I no,I nn,.slice la pl.length lc,I se,I sn] ((zb6 _ _ _ (Nat.le_of_ble_eq_true rfl)).trans rfl) (fun w9_ M9=>⟨?_,?_⟩)
  ·exact M9.o.old zaG.o (Nat.ne_of_gt zbq.o)
  replace zad:=zwb M9;clear HSS;replace zaG:=zwg M9 zaG zbq;have HSS:Hid (w9_.heap[b4]?=some (.cells #[I rc,I rt,I rk,I ra,I ro,I rn] 36 (0,0))):=zaG.o;refine zag fun K h=>?_; go_simp; refine h _ ?_; clear h K;refine zaw 3 rfl (by kernel_rfl) (by kernel_rfl) (by kernel_rfl) (fun _ _ _ _ h=>h) rfl HSS.o (fun K hK=>?_); go_simp; refine hK _ ?_; clear hK K;replace zab:=zwl M9 zab zay;replace zal:=zwg M9 zal zaJ;replace zaP:=zwg M9 zaP zcE;replace R0:=zwr M9 R0 zau;replace HB:=zwr M9 HB zau;replace EW:=zwe M9 EW za4;refine zbE 4 (by kernel_rfl) rfl rfl 36 (.tmp 58) (.tmp 56) rfl b1 3 rfl [I rc,I rt,I rk,I ra,I ro,I rn] (rfl) zad.o (Nat.le_of_ble_eq_true rfl) (by kernel_rfl) (zbJ rfl) #[I gen,.slice na' l.length nc',.bool true,I rc,I rt,I rk,I ra,I ro,I rn,.slice la pl.length lc,I se,I sn] ((zb6 _ _ _ (Nat.le_of_ble_eq_true rfl)).trans rfl) (fun w10_ M10=>⟨?_,?_⟩)
  ·exact M10.o.old zaG.o (Nat.ne_of_gt zbq.o)
  replace zad:=zwb M10;clear HSS;replace zaG:=zwg M10 zaG zbq;have HSS:Hid (w10_.heap[b4]?=some (.cells #[I rc,I rt,I rk,I ra,I ro,I rn] 36 (0,0))):=zaG.o;refine zag fun K h=>?_; go_simp; refine h _ ?_; clear h K;refine wpAnyH_done (by kernel_rfl) ?_ _;clear HSS;replace zab:=zwl M10 zab zay;have s0:=zaa (i:=0) zab.o rfl;have d2:=zaa (i:=2) zaG.o rfl;have d3:=zaa (i:=3) zaG.o rfl;have d4:=zaa (i:=4) zaG.o rfl;have d5:=zaa (i:=5) zaG.o rfl;go_wp2_with fail
  clear s0 d2 d3 d4 d5;replace R0:=zwr M10 R0 zau;refine (zkw _ sc rk ra ro rn w10_ (zcp.1 R0.o.left.o).1 HWO.o HCR.o).mono ?_;rintro e w9 ⟨⟨uu,rfl,hu⟩,e9⟩
  replace hu:Has w10_.heap.size w9 uu (zbn (zbN sc) ⟨rk,ra,ro,rn⟩):=hu;rw [HPL.o] at hu;obtain ⟨ua',uc',rfl⟩:=zao hu.writes;rw [show (zbk (zaI sc (sc.getD 0 0).toNat) ⟨rk,ra,ro,rn⟩).2=⟨de,dn⟩ from HD.o];replace zal:=zwg M10 zal zaJ;have hsz:w.heap.size+3<=w10_.heap.size:=by have q:=(zlt zal); have q2:=zbX.o; omega
  have hz4:b4 < w10_.heap.size:=(zlt zaG);replace zaP:=zwg M10 zaP zcE;have hz5:b5 < w10_.heap.size:=(zlt zaP);have HPN:=zhd (hu.rd.widen (B:=B11) (fun k _ h=>(HB11.o k).2 ⟨(HB1.o k).2 ⟨HK.o.2.1 k (by omega),by omega⟩,by omega⟩));clear hu hsz hz4 hz5;go_wp2_with (with_reducible refine zT ?_)
  replace zad:=zbx zad e9;refine zam rfl 27 (.tmp 67) (.tmp 65) rfl b1 9 rfl [.slice ua' PL.length uc'] (rfl) zad rfl zmr rfl [I gen,.slice na' l.length nc',.bool true,I rc,I rt,I rk,I ra,I ro,I rn,.slice ua' PL.length uc',I se,I sn] rfl (fun w11_ M11=>?_);replace zad:=zwb M11;go_wp2_with (with_reducible refine zT ?_)
  refine zam rfl 39 (.tmp 68) (.tmp 66) rfl b1 10 rfl [I de,I dn] (rfl) zad rfl zqD rfl [I gen,.slice na' l.length nc',.bool true,I rc,I rt,I rk,I ra,I ro,I rn,.slice ua' PL.length uc',I de,I dn] rfl (fun w12_ M12=>?_);replace zad:=zwb M12;go_wp2_with (with_reducible refine zT ?_)
  refine zah rfl 41 (.tmp 3) rfl b1 rfl zad zcc zc0 (fun v69 H_v69=>?_);go_wp2_with (with_reducible refine zT ?_)
  replace zal:=zwg M12 (zwg M11 (zbx zal e9) zaJ) zaJ;refine zac rfl 41 (.tmp 4) (.tmp 69) rfl b2 rfl _ (zcv H_v69) zal rfl zc0 rfl (fun w13_ M13=>?_);replace zal:=zwb M13;go_wp2
  have z0:=zaq (P:=Tryz.prog) 41 zal.o zcc (by kernel_rfl);refine bodyPost_ret (by simp [results,Tryz.results91,asAddr,z0]; rfl) rfl ?_
  have hX:zaE ⟨sc,su,sa,sp⟩ ⟨gen,(b::l),false,⟨nc,nt,⟨nk,na,no,nn⟩⟩,pl,⟨se,sn⟩⟩=(⟨sc,su,sa,sp⟩,⟨gen,l,true,⟨rc,rt,⟨rk,ra,ro,rn⟩⟩,PL,⟨de,dn⟩⟩,[],0):=by
   show (if (readRq b).2≠0 then _ else if (lastAn sa (readRq b).1.client).2=true/\(readRq b).1.token<=(lastAn sa (readRq b).1.client).1.token then (if (lastAn sa (readRq b).1.client).1.token=(readRq b).1.token then _ else _) else _)=_
   rw [HRR.o];simp only [];rw [HL.o];rw [if_neg (by simp),if_neg (fun h=>by have q:=h.2; simp only [] at q; omega),HPL.o,HD.o]
  have ht:=HT.o;rw [hX] at ht;replace HB:=zwr M13 (zwr M12 (zwr M11 (zrx (zwr M10 HB zau) e9) zau) zau) zaT;replace EW:=zwe M13 (zwe M12 (zwe M11 (zhd ((zwe M10 EW za4).o.trans e9)) za4) za4) zbu;replace HPN:=zwr M13 (zwr M12 (zwr M11 HPN zau) zau) zaT;exact ⟨_,rfl,EW.o,ht _ _ _ (Rd.widen (A:=B11) (zhs (zdt (v:=⟨gen,l,true,⟨rc,rt,⟨rk,ra,ro,rn⟩⟩,PL,⟨de,dn⟩⟩) HB.o HPN.o) (Rd.all fun w=>zbc w)) (fun k _ h=>HK.o.2.2.2 k (zfS.o k (zjh.o k h))))⟩

end Go.Proofs.YtdmipnnfoolelaeGreat
