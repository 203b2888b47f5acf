/- Texts of the proof, merged: V4 S10. -/
import Derived.Test.YtdmipnnfoolelagGreatKTA
import Derived.Test.YtdmipnnfoolelagGreatKTT
import Derived.Test.YtdmipnnfoolelagGreatKTU
import Derived.Test.YtdmipnnfoolelagGreatKTI
import Derived.Test.YtdmipnnfoolelagGreatKT6
import Derived.Test.YtdmipnnfoolelagGreatKTQ
import Derived.Test.YtdmipnnfoolelagGreatKTE
import Derived.Test.YtdmipnnfoolelagGreatKTV
set_option maxHeartbeats 4000000
set_option maxRecDepth 100000

namespace Go.Proofs.YtdmipnnfoolelagGreat
open Go.RowKit Go.Mk

def zpz (v:Sv) (b:List UInt8) (r:Value) (w:World):Prop:=∃ (ds:List Value) (bv:Value),r=.tuple #[.agg ds.toArray,bv]/\zhq w ds v/\zba w bv b
theorem zqL {v:Sv} {b:List UInt8} {r:Value} {A:Nat->Prop} {w:World} (h:Rd A (zpz v b r) w):∃ (ds:List Value) (bv:Value),r=.tuple #[.agg ds.toArray,bv]/\Rd A (fun w=>zhq w ds v) w/\Rd A (fun w=>zba w bv b) w:=by
 obtain ⟨ds,bv,e1,h1,h2⟩:=h.o
 have key:∀ w',zpz v b r w'->zhq w' ds v/\zba w' bv b:=fun w' hw=>by
  obtain ⟨ds',bv',e1',h3,h4⟩:=hw
  rw [e1] at e1'
  simp only [Value.tuple.injEq,Array.mk.injEq,List.cons.injEq,Value.agg.injEq,and_true] at e1'
  obtain ⟨q1,q2⟩:=e1'
  have q1:ds=ds':=by simpa using q1
  subst q1 q2
  exact ⟨h3,h4⟩
 exact ⟨ds,bv,e1,h.imp fun w' hw=>(key w' hw).1,h.imp fun w' hw=>(key w' hw).2⟩
theorem zhO {v:Sv} {b:List UInt8} {ds:List Value} {bv:Value} {A:Nat->Prop} {w:World} (h2:Rd A (fun w=>zhq w ds v) w) (h3:Rd A (fun w=>zba w bv b) w):Rd A (zpz v b (.tuple #[.agg ds.toArray,bv])) w :=
 (h2.and h3).imp fun _ h=>⟨ds,bv,rfl,h.1,h.2⟩
theorem znG {base:Nat} {w:World} {v:Value} {l:List UInt8} {n:Nat} (hn:l.length=n) (h:w.ownsRow base 5 1 v n (l.map U)):Rd (fun k=>base<=k) (fun w=>zba w v l) w:=by
 subst hn
 exact zdL h

theorem zmQ (c u a p:Value) (s:St) (n:Int) (w:World) (h:zcn w [c,u,a,p] s) :
  zaJ Tryz.prog 91 #[.agg #[c,u,a,p],I n] w (fun _=>False) (fun r w'=>zba w' r (zbX (lastAn s.answers n).1)):=by
 unfold zaJ;obtain ⟨h1,h2,h3,h4⟩:=zc7.1 h;obtain ⟨ca,cc,rfl⟩:=zao h1;obtain ⟨ua,uc,rfl⟩:=zao h2;obtain ⟨aa,ac,rfl⟩:=zag h3;obtain ⟨pa,pc,rfl⟩:=zag h4;clear h1 h2 h3 h4;have HE:=zhd h;clear h;have EW:=zhd (Ext.refl w);obtain ⟨⟨lc2,lt,⟨le,ln⟩⟩,LB,hL⟩:∃ x y,lastAn s.answers n=(x,y):=⟨_,_,rfl⟩;have HL:=zhd hL;rw [hL];clear hL;go_enter Tryz.func91,Tryz.ntmps91
 go_wp2_with (with_reducible refine zT ?_)
 refine zaj rfl 32 (.tmp 0) rfl #[.slice ca s.cells.length cc,.slice ua s.undo.length uc,.slice aa s.answers.length ac,.slice pa s.past.length pc] rfl (fun b0 w1_ M1=>?_);have zaa:=zmb M1;go_wp2_with (with_reducible refine zT ?_)
 unfold Hid;refine zfO rfl 32 (.tmp 2) rfl b0 0 rfl zaa.o [.slice ca s.cells.length cc,.slice ua s.undo.length uc,.slice aa s.answers.length ac,.slice pa s.past.length pc] rfl zcG (by kernel_rfl) (fun v8 H_v8=>?_);go_wp2_with fail
 rw [show _=Value.agg #[.slice ca s.cells.length cc,.slice ua s.undo.length uc,.slice aa s.answers.length ac,.slice pa s.past.length pc] from H_v8.o];replace EW:=zet EW M1;have hl:=zmH _ _ _ _ s n w1_ (zhj _ _ _ _ EW.o HE.o);rw [HL.o] at hl;refine Calls.exts hl (fun wl el=>?_);clear hl H_v8;replace zaa:=zhd (zcR zaa.o el);replace EW:=zhd (EW.o.trans el);clear el;go_wp2_with (with_reducible refine zT ?_)
 refine zaf rfl 100 #[I 0,I 0,I 0,I 0] (by kernel_rfl) (fun b1 w2_ M2=>?_);have zav:=zld zaa M2;have zac:=zmb M2;replace zaa:=zmo M2 zaa;replace EW:=zet EW M2;have zaZ:Hid (w.heap.size<=b1):=by unfold Hid; have q:=M2.o.size; have q2:=EW.o.size; have q3:=M2.o.at_; have q4:=zav.o; have q5:=(zlt zaa); have q6:=M1.o.at_; omega
 go_wp2_with (with_reducible refine zT ?_)
 unfold Hid;refine zcs rfl 100 (.tmp 5) (.tmp 11) rfl b1 0 rfl [I lc2,I lt,I le,I ln] (rfl) zac.o (Nat.le_of_ble_eq_true rfl) (by kernel_rfl) (zbB rfl) #[I lc2,I lt,I le,I ln] ((zcc _ _ _ (Nat.le_of_ble_eq_true rfl)).trans rfl) (fun w3_ M3=>?_);replace zac:=zwb M3;have l0:=zad (i:=0) zac.o rfl;have l1:=zad (i:=1) zac.o rfl;have l2:=zad (i:=2) zac.o rfl;have l3:=zad (i:=3) zac.o rfl;go_wp2_with fail
 clear l0 l1 l2 l3;refine (zjL lc2 lt le ln w3_).mono ?_;rintro e w9 ⟨v',rfl,ho,e9⟩
 have hb:=znG (l:=zbX ⟨lc2,lt,⟨le,ln⟩⟩) rfl ho;replace EW:=zwe M3 EW zaZ;have hsz:=EW.o.size;go_wp2
 go_ret
 replace EW:=zhd (EW.o.trans e9);exact ⟨_,rfl,EW.o,hb.widen fun k _ h=>.inr (by omega)⟩

theorem zmR (sc:List Int) (su:List (Int×Int)) (sa:List An) (sp:List Rq) (gen:Int) (nc nt nk na no nn:Int) (se sn:Int) (b:List UInt8) (l:List (List UInt8)) (pl:List (Int×Int)) (c u a p box plan:Value) (w:World) (A:Nat->Prop) (hs:Rd A (fun w=>zcn w [c,u,a,p] ⟨sc,su,sa,sp⟩) w) (hb:Rd A (fun w=>zat 1 zck w box (b::l)) w) (hp:Rd A (fun w=>zaw w plan pl) w) (hwo:zfd sc) :
  zaJ Tryz.prog 92 #[.agg #[c,u,a,p],.agg #[I gen,box,.bool false,I nc,I nt,I nk,I na,I no,I nn,plan,I se,I sn]] w A (fun r w'=>zpz (zaC ⟨sc,su,sa,sp⟩ ⟨gen,(b::l),false,⟨nc,nt,⟨nk,na,no,nn⟩⟩,pl,⟨se,sn⟩⟩).2.1 (zaC ⟨sc,su,sa,sp⟩ ⟨gen,(b::l),false,⟨nc,nt,⟨nk,na,no,nn⟩⟩,pl,⟨se,sn⟩⟩).2.2.1 r w'):=by
 suffices hall:∀ T:Value->World->Prop,(∀ r A w,Rd A (zpz (zaC ⟨sc,su,sa,sp⟩ ⟨gen,(b::l),false,⟨nc,nt,⟨nk,na,no,nn⟩⟩,pl,⟨se,sn⟩⟩).2.1 (zaC ⟨sc,su,sa,sp⟩ ⟨gen,(b::l),false,⟨nc,nt,⟨nk,na,no,nn⟩⟩,pl,⟨se,sn⟩⟩).2.2.1 r) w->Rd A (T r) w)->zaJ Tryz.prog 92 #[.agg #[c,u,a,p],.agg #[I gen,box,.bool false,I nc,I nt,I nk,I na,I no,I nn,plan,I se,I sn]] w A T from hall _ (fun _ _ _ h=>h)
 intro T hT;have HT:=zhd hT;clear hT;unfold zaJ;obtain ⟨h1,h2,h3,h4⟩:=zc7.1 hs.o;obtain ⟨ca,cc,rfl⟩:=zao h1;obtain ⟨ua,uc,rfl⟩:=zao h2;obtain ⟨aa,ac,rfl⟩:=zag h3;obtain ⟨pa,pc,rfl⟩:=zag h4;simp only [] at *;have EW:=zhd (Ext.refl w);obtain ⟨B,hB⟩:=zds A w.heap.size 3;have HK:=zhd hB;clear hB;have R0:=zhd ((hs.and hp).widen HK.o.1);obtain ⟨la,lc,rfl⟩:=zao hp.o;obtain ⟨xb,xo,xc,bv,rfl,hx1,hx2,hf,hrest⟩:=zgR (hb.widen HK.o.1);have HF:=zhd hf;have HB:=zhd hrest;unfold maxLen at hx2;have HWO:=zhd hwo;clear h1 h2 h3 h4 hs hb hp hf hrest hwo;obtain ⟨⟨rc,rt,⟨rk,ra,ro,rn⟩⟩,re,hrr⟩:∃ x y,readRq b=(x,y):=⟨_,_,rfl⟩;have HRR:=zhd hrr;clear hrr;obtain ⟨⟨lc2,lt,⟨le,ln⟩⟩,LB,hL⟩:∃ x y,lastAn sa rc=(x,y):=⟨_,_,rfl⟩;have HL:=zhd hL;clear hL;go_enter Tryz.func92,Tryz.ntmps92
 go_wp2_with (with_reducible refine zT ?_)
 refine zaj rfl 32 (.tmp 0) rfl #[.slice ca sc.length cc,.slice ua su.length uc,.slice aa sa.length ac,.slice pa sp.length pc] rfl (fun b0 w1_ M1=>?_);have zaa:=zmb M1;go_wp2_with (with_reducible refine zT ?_)
 refine zaj rfl 42 (.tmp 1) rfl #[I gen,.slice (some ⟨xb,xo,none⟩) (l.length+1) xc,.bool false,I nc,I nt,I nk,I na,I no,I nn,.slice la pl.length lc,I se,I sn] rfl (fun b1 w2_ M2=>?_);have zav:=zld zaa M2;have zac:=zmb M2;go_wp2_with (with_reducible refine zT ?_)
 refine zaf rfl 42 zS (by kernel_rfl) (fun b2 w3_ M3=>?_);replace zaa:=zmo M2 zaa;have zaG:=zld zac M3;have zai:=zmb M3;have zaW:=zA0 M1;have zaF:=znb HK zaW (by decide);have za1:=zA1 zaW M1 M2;have zas:=znb HK za1 (by decide);have zaZ:=zob za1;have zb5:=zA1 za1 M2 M3;have zaN:=znb HK zb5 (by decide);have zbm:=zob zb5;replace zac:=zmo M3 zac;have c1:=zad (i:=1) zac.o rfl;replace HF:=zme M3 (zme M2 (zme M1 HF));have cx:=HF.o.o.1;go_wp2_with (first | (with_reducible refine zT ?_) | ((with_reducible refine zsc ?_ ?_); exact rfl))
 unfold Hid;clear c1 cx;replace R0:=zme M3 (zme M2 (zme M1 R0));replace HB:=zme M3 (zme M2 (zme M1 HB));replace EW:=zet (zet (zet EW M1) M2) M3;replace zaa:=zmo M3 zaa;refine zfT rfl l.length (fun na nc=>Rd B (fun w=>zat 1 zck w (.slice na l.length nc) l) w3_) ?_ (fun na' nc' hn=>?_)
 ·by_cases hcap:xc=1
  ·have hl0:l=[]:=List.eq_nil_of_length_eq_zero (by omega);refine ⟨some ⟨xb,xo,none⟩,0,by rw [hl0]; exact Rd.all fun w=>zeX w xb xo 0 (by decide),?_⟩;rw [hl0];subst hcap;go_simp
  ·exact ⟨some ⟨xb,xo+1,none⟩,xc - 1,HB.o,by go_simp; intro h; omega⟩
 replace HB:=zhd hn;clear hn hx1 hx2;go_wp2_with (with_reducible refine zT ?_)
 refine zal rfl 33 (.tmp 18) (.tmp 17) rfl b1 1 rfl [.slice na' l.length nc'] (rfl) zac rfl zkY rfl [I gen,.slice na' l.length nc',.bool false,I nc,I nt,I nk,I na,I no,I nn,.slice la pl.length lc,I se,I sn] rfl (fun w4_ M4=>?_);replace zac:=zwb M4;go_wp2_with fail
 replace HF:=zwr M4 HF zas;have hl:=zit bv b w4_ HF.o.o.2;rw [HRR.o] at hl;refine Calls.exts hl (fun wa ea=>?_);clear hl HF;replace zaa:=zbx (zwl M4 zaa zav) ea;replace zai:=zbx (zwg M4 zai zaG) ea;replace R0:=zrx (zwr M4 R0 zas) ea;replace HB:=zrx (zwr M4 HB zas) ea;replace EW:=zhd ((zwe M4 EW zaZ).o.trans ea);replace zac:=zbx zac ea;clear ea;go_wp2_with (with_reducible refine zT ?_)
 refine zaf rfl 37 #[I 0,I 0,I 0,I 0,I 0,I 0] (by kernel_rfl) (fun b4 w5_ M5=>?_);have zce:=zld zaa M5;have zbp:=zld zac M5;have zcF:=zld zai M5;obtain ⟨B1,HB1⟩:=zEx B b4;have zcY:=zNn HB1;have zf1:=zIn HB1;have zd6:=zOn M5 EW;have zaH:=zmb M5;go_wp2_with (with_reducible refine zT ?_)
 refine zab rfl 37 (.tmp 7) (.tmp 22) rfl b4 rfl [I rc,I rt,I rk,I ra,I ro,I rn] (rfl) zaH rfl zrk rfl (fun w6_ M6=>?_);replace zaH:=zwb M6;replace R0:=zwr M6 (zme M5 (zmd HB1 M5 R0)) zcY;replace HB:=zwr M6 (zme M5 (zmd HB1 M5 HB)) zcY;replace zaF:=znw HB1 zaF;replace zas:=znw HB1 zas;replace zaN:=znw HB1 zaN;replace zaa:=zwl M6 (zmo M5 zaa) zce;replace zac:=zwl M6 (zmo M5 zac) zbp;replace zai:=zwl M6 (zmo M5 zai) zcF;replace EW:=zwe M6 (zet EW M5) zd6;by_cases hre:re=0
 case neg =>
  have hbe:(re != 0)=true:=by simpa using hre
  go_wp2_with (with_reducible refine zT ?_)
  refine zah rfl 42 (.tmp 3) rfl b1 rfl zac zcj zda (fun v26 H_v26=>?_);go_wp2_with (with_reducible refine zT ?_)
  refine zab rfl 42 (.tmp 4) (.tmp 26) rfl b2 rfl _ (zcv H_v26) zai rfl zda rfl (fun w7_ M7=>?_);replace zai:=zwb M7;go_wp2
  have z0:=zap (P:=Tryz.prog) 42 zai.o zcj (by kernel_rfl);refine bodyPost_ret (by simp [results,Tryz.results92,asAddr,z0]; rfl) rfl ?_
  have hX:zaC ⟨sc,su,sa,sp⟩ ⟨gen,(b::l),false,⟨nc,nt,⟨nk,na,no,nn⟩⟩,pl,⟨se,sn⟩⟩=(⟨sc,su,sa,sp⟩,⟨gen,l,false,⟨nc,nt,⟨nk,na,no,nn⟩⟩,pl,⟨se,sn⟩⟩,[],0):=by
   show (if (readRq b).2≠0 then _ else if (lastAn sa (readRq b).1.client).2=true/\(readRq b).1.token<=(lastAn sa (readRq b).1.client).1.token then (if (lastAn sa (readRq b).1.client).1.token=(readRq b).1.token then _ else _) else _)=_
   rw [HRR.o];simp only [];rw [HL.o];rw [if_pos hre]
  have ht:=HT.o;rw [hX] at ht;replace R0:=zwr M7 R0 zaN;replace HB:=zwr M7 HB zaN;replace EW:=zwe M7 EW zbm;exact ⟨_,rfl,EW.o,ht _ _ _ (Rd.widen (A:=B1) (zhO (zdI (v:=⟨gen,l,false,⟨nc,nt,⟨nk,na,no,nn⟩⟩,pl,⟨se,sn⟩⟩) HB.o R0.o.right) (Rd.all fun w=>zbb w)) (fun k _ h=>HK.o.2.2.2 k (zf1.o k h)))⟩
 subst hre;go_wp2_with (with_reducible refine zT ?_)
 refine zah rfl 32 (.tmp 2) rfl b0 rfl zaa zcG zfk (fun v28 H_v28=>?_);have d0:=zad (i:=0) zaH.o rfl;go_wp2_with fail
 clear d0;rw [H_v28.o];have hl:=zmH _ _ _ _ ⟨sc,su,sa,sp⟩ rc w6_ R0.o.left.o;rw [HL.o] at hl;refine Calls.exts hl (fun wl el=>?_);clear hl H_v28;replace zaa:=zbx zaa el;replace zac:=zbx zac el;replace zai:=zbx zai el;replace zaH:=zbx zaH el;replace R0:=zrx R0 el;replace HB:=zrx HB el;replace EW:=zhd (EW.o.trans el);clear el;go_wp2_with (with_reducible refine zT ?_)
 refine zaf rfl 100 #[I 0,I 0,I 0,I 0] (by kernel_rfl) (fun b5 w7_ M7=>?_);have zf5:=zld zaa M7;have zc5:=zld zac M7;have zeZ:=zld zai M7;have zfH:=zld zaH M7;obtain ⟨B11,HB11⟩:=zEx B1 b5;have zlv:=zNn HB11;have zi2:=zIn HB11;have znc:=zOn M7 EW;have zbG:=zmb M7;go_wp2_with (with_reducible refine zT ?_)
 refine zab rfl 100 (.tmp 9) (.tmp 32) rfl b5 rfl [I lc2,I lt,I le,I ln] (rfl) zbG rfl ziD rfl (fun w8_ M8=>?_);replace zbG:=zwb M8;replace zaH:=zwl M8 (zmo M7 zaH) zfH;have d1:=zad (i:=1) zaH.o rfl;have l1:=zad (i:=1) zbG.o rfl;replace R0:=zwr M8 (zme M7 (zmd HB11 M7 R0)) zlv;replace HB:=zwr M8 (zme M7 (zmd HB11 M7 HB)) zlv;replace zas:=znw HB11 zas;replace zaN:=znw HB11 zaN;replace zaa:=zwl M8 (zmo M7 zaa) zf5;replace zac:=zwl M8 (zmo M7 zac) zc5;replace zai:=zwl M8 (zmo M7 zai) zeZ;replace EW:=zwe M8 (zet EW M7) znc;by_cases hq1:LB=true/\lt=rt
 case pos =>
  obtain ⟨rfl,rfl⟩:=hq1;go_wp2_with fail
  clear d1 l1;refine zbh (S:=fun w'=>w'.heap[b1]?=some (.cells #[I gen,.slice na' l.length nc',.bool false,I nc,I nt,I nk,I na,I no,I nn,.slice la pl.length lc,I se,I sn] 42 (0,0))/\w'.heap[b5]?=some (.cells #[I lc2,I lt,I le,I ln] 100 (0,0))) (by kernel_rfl) (fun wd ed _=>?_);replace zac:=zbx zac ed;replace zbG:=zbx zbG ed;have HSS:Hid (wd.heap[b1]?=some (.cells #[I gen,.slice na' l.length nc',.bool false,I nc,I nt,I nk,I na,I no,I nn,.slice la pl.length lc,I se,I sn] 42 (0,0))/\wd.heap[b5]?=some (.cells #[I lc2,I lt,I le,I ln] 100 (0,0))):=⟨zac.o,zbG.o⟩;refine zaM 0 rfl (by kernel_rfl) (by kernel_rfl) (by kernel_rfl) (fun _ _ _ _ h=>h) rfl 42 (.tmp 3) rfl b1 rfl (fun w' hS=>hS.1) zcj (by kernel_rfl) HSS ?_;refine zae fun K h=>?_; go_simp; refine h _ ?_; clear h K;refine zaM 1 rfl (by kernel_rfl) (by kernel_rfl) (by kernel_rfl) (fun _ _ _ _ h=>h) rfl 100 (.tmp 9) rfl b5 rfl (fun w' hS=>hS.2) zra (by kernel_rfl) HSS ?_;refine zae fun K h=>?_; go_simp; refine h _ ?_; clear h K;refine zcU 2 (by kernel_rfl) rfl rfl 103 #[.agg #[I lc2,I lt,I le,I ln]] (by go_simp) ?_;refine (zjL lc2 lt le ln wd).mono ?_;rintro e w9 ⟨v45,rfl,ho,e9⟩
  have hby:=znG (l:=zbX ⟨lc2,lt,⟨le,ln⟩⟩) rfl ho;clear ho;replace zai:=zbx zai ed;have hsz:w.heap.size+3<=wd.heap.size:=by have q:=(zlt zai); have q2:=zb5.o; omega
  replace zaH:=zbx zaH ed;have hz4:b4 < wd.heap.size:=(zlt zaH);have hz5:b5 < wd.heap.size:=(zlt zbG);have HBY:=zhd (hby.widen (B:=B11) (fun k _ h=>(HB11.o k).2 ⟨(HB1.o k).2 ⟨HK.o.2.1 k (by omega),by omega⟩,by omega⟩));clear hby hsz hz4 hz5;clear HSS;replace zac:=zbx zac e9;replace zbG:=zbx zbG e9;refine ⟨_,rfl,⟨zac.o,zbG.o⟩,?_⟩;have HSS:Hid (w9.heap[b1]?=some (.cells #[I gen,.slice na' l.length nc',.bool false,I nc,I nt,I nk,I na,I no,I nn,.slice la pl.length lc,I se,I sn] 42 (0,0))/\w9.heap[b5]?=some (.cells #[I lc2,I lt,I le,I ln] 100 (0,0))):=⟨zac.o,zbG.o⟩;refine zae fun K h=>?_; go_simp; refine h _ ?_; clear h K;replace zaa:=zbx (zbx zaa ed) e9;replace R0:=zrx (zrx R0 ed) e9;replace HB:=zrx (zrx HB ed) e9;replace EW:=zhd ((zhd (EW.o.trans ed)).o.trans e9);replace zai:=zbx zai e9;replace zaH:=zbx zaH e9;refine zaO 3 (by kernel_rfl) rfl rfl 42 (.tmp 4) (.tmp 43) rfl b2 rfl [I gen,.slice na' l.length nc',.bool false,I nc,I nt,I nk,I na,I no,I nn,.slice la pl.length lc,I se,I sn] (rfl) zai rfl (by kernel_rfl) rfl (fun w9_ M9=>⟨?_,?_⟩)
  ·exact ⟨M9.o.old zac.o (Nat.ne_of_lt zaG.o),M9.o.old zbG.o (Nat.ne_of_gt zeZ.o)⟩
  replace zai:=zwb M9;clear HSS;replace zac:=zwl M9 zac zaG;replace zbG:=zwg M9 zbG zeZ;have HSS:Hid (w9_.heap[b1]?=some (.cells #[I gen,.slice na' l.length nc',.bool false,I nc,I nt,I nk,I na,I no,I nn,.slice la pl.length lc,I se,I sn] 42 (0,0))/\w9_.heap[b5]?=some (.cells #[I lc2,I lt,I le,I ln] 100 (0,0))):=⟨zac.o,zbG.o⟩;refine zae fun K h=>?_; go_simp; refine h _ ?_; clear h K;refine zaD 4 (by kernel_rfl) rfl rfl _ rfl HSS.o ?_;refine zae fun K h=>?_; go_simp; refine h _ ?_; clear h K;refine wpAnyH_done (by kernel_rfl) ?_ _;clear HSS;go_wp2
  have z0:=zap (P:=Tryz.prog) 42 zai.o zcj (by kernel_rfl);refine bodyPost_ret (by simp [results,Tryz.results92,asAddr,z0]; rfl) rfl ?_
  have hX:zaC ⟨sc,su,sa,sp⟩ ⟨gen,(b::l),false,⟨nc,nt,⟨nk,na,no,nn⟩⟩,pl,⟨se,sn⟩⟩=(⟨sc,su,sa,sp⟩,⟨gen,l,false,⟨nc,nt,⟨nk,na,no,nn⟩⟩,pl,⟨se,sn⟩⟩,zbX ⟨lc2,lt,⟨le,ln⟩⟩,0):=by
   show (if (readRq b).2≠0 then _ else if (lastAn sa (readRq b).1.client).2=true/\(readRq b).1.token<=(lastAn sa (readRq b).1.client).1.token then (if (lastAn sa (readRq b).1.client).1.token=(readRq b).1.token then _ else _) else _)=_
   rw [HRR.o];simp only [];rw [HL.o];rw [if_neg (by simp),if_pos ⟨rfl,Int.le_refl _⟩,if_pos rfl]
  have ht:=HT.o;rw [hX] at ht;replace R0:=zwr M9 R0 zaN;replace HB:=zwr M9 HB zaN;replace HBY:=zwr M9 HBY zaN;replace EW:=zwe M9 EW zbm;exact ⟨_,rfl,EW.o,ht _ _ _ (Rd.widen (A:=B11) (zhO (zdI (v:=⟨gen,l,false,⟨nc,nt,⟨nk,na,no,nn⟩⟩,pl,⟨se,sn⟩⟩) HB.o R0.o.right) (HBY.o)) (fun k _ h=>HK.o.2.2.2 k (zf1.o k (zi2.o k h))))⟩
 by_cases hq2:LB=true/\rt < lt
 case pos =>
  obtain ⟨rfl,hlt⟩:=hq2;have hb2:(lt == rt)=false:=by simp; omega
  go_wp2_with (with_reducible refine zT ?_)
  clear d1 l1;refine zah rfl 42 (.tmp 3) rfl b1 rfl zac zcj zda (fun v55 H_v55=>?_);go_wp2_with (with_reducible refine zT ?_)
  refine zab rfl 42 (.tmp 4) (.tmp 55) rfl b2 rfl _ (zcv H_v55) zai rfl zda rfl (fun w9_ M9=>?_);replace zai:=zwb M9;go_wp2
  have z0:=zap (P:=Tryz.prog) 42 zai.o zcj (by kernel_rfl);refine bodyPost_ret (by simp [results,Tryz.results92,asAddr,z0]; rfl) rfl ?_
  have hX:zaC ⟨sc,su,sa,sp⟩ ⟨gen,(b::l),false,⟨nc,nt,⟨nk,na,no,nn⟩⟩,pl,⟨se,sn⟩⟩=(⟨sc,su,sa,sp⟩,⟨gen,l,false,⟨nc,nt,⟨nk,na,no,nn⟩⟩,pl,⟨se,sn⟩⟩,[],0):=by
   show (if (readRq b).2≠0 then _ else if (lastAn sa (readRq b).1.client).2=true/\(readRq b).1.token<=(lastAn sa (readRq b).1.client).1.token then (if (lastAn sa (readRq b).1.client).1.token=(readRq b).1.token then _ else _) else _)=_
   rw [HRR.o];simp only [];rw [HL.o];rw [if_neg (by simp),if_pos ⟨rfl,by simp only []; omega⟩,if_neg (by simp only []; omega)]
  have ht:=HT.o;rw [hX] at ht;replace R0:=zwr M9 R0 zaN;replace HB:=zwr M9 HB zaN;replace EW:=zwe M9 EW zbm;exact ⟨_,rfl,EW.o,ht _ _ _ (Rd.widen (A:=B11) (zhO (zdI (v:=⟨gen,l,false,⟨nc,nt,⟨nk,na,no,nn⟩⟩,pl,⟨se,sn⟩⟩) HB.o R0.o.right) (Rd.all fun w=>zbb w)) (fun k _ h=>HK.o.2.2.2 k (zf1.o k (zi2.o k h))))⟩
 have hcr:wrongCl ⟨rk,ra,ro,rn⟩=0:=by
  have q:=zjb (b:=b) (by rw [HRR.o]);rw [HRR.o] at q;exact (zeo q).2
 have HCR:=zhd hcr;clear hcr
 have hsel:LB=false∨(LB=true/\lt < rt):=by
  cases LB
  ·exact .inl rfl
  ·exact .inr ⟨rfl,by have q1:¬ lt=rt:=fun h=>hq1 ⟨rfl,h⟩; have q2:¬ rt < lt:=fun h=>hq2 ⟨rfl,h⟩; omega⟩
 clear hq1 hq2;obtain ⟨de,dn,hD⟩:∃ x y,(zbk (zbI sc) ⟨rk,ra,ro,rn⟩).2=⟨x,y⟩:=⟨_,_,rfl⟩;obtain ⟨PL,hPL⟩:∃ x,zbn (zbI sc) ⟨rk,ra,ro,rn⟩=x:=⟨_,rfl⟩;have HD:=zhd hD;have HPL:=zhd hPL;clear hD hPL;rcases hsel with rfl | ⟨rfl,hns⟩
 ·go_wp2_with fail
  clear d1 l1;refine zbh (S:=fun w'=>w'.heap[b4]?=some (.cells #[I rc,I rt,I rk,I ra,I ro,I rn] 37 (0,0))) (by kernel_rfl) (fun wd ed _=>?_);replace zaH:=zbx zaH ed;have HSS:Hid (wd.heap[b4]?=some (.cells #[I rc,I rt,I rk,I ra,I ro,I rn] 37 (0,0))):=zaH.o;refine zaM 0 rfl (by kernel_rfl) (by kernel_rfl) (by kernel_rfl) (fun _ _ _ _ h=>h) rfl 37 (.tmp 7) rfl b4 rfl (fun w' hS=>hS) zoU (by kernel_rfl) HSS ?_;refine zae fun K h=>?_; go_simp; refine h _ ?_; clear h K;refine zaq 1 rfl (by kernel_rfl) (by kernel_rfl) (by kernel_rfl) (fun _ _ _ _ h=>h) rfl HSS.o (fun K hK=>?_); go_simp; refine hK _ ?_; clear hK K;replace zaa:=zbx zaa ed;replace zac:=zbx zac ed;replace zai:=zbx zai ed;replace zbG:=zbx zbG ed;replace R0:=zrx R0 ed;replace HB:=zrx HB ed;replace EW:=zhd (EW.o.trans ed);refine zbK 2 (by kernel_rfl) rfl rfl 4 (.tmp 57) (.const (.bool true)) rfl b1 2 rfl [.bool true] (rfl) zac.o (Nat.le_of_ble_eq_true rfl) (by kernel_rfl) (zbB rfl) #[I gen,.slice na' l.length nc',.bool true,I nc,I nt,I nk,I na,I no,I nn,.slice la pl.length lc,I se,I sn] ((zcc _ _ _ (Nat.le_of_ble_eq_true rfl)).trans rfl) (fun w9_ M9=>⟨?_,?_⟩)
  ·exact M9.o.old zaH.o (Nat.ne_of_gt zbp.o)
  replace zac:=zwb M9;clear HSS;replace zaH:=zwg M9 zaH zbp;have HSS:Hid (w9_.heap[b4]?=some (.cells #[I rc,I rt,I rk,I ra,I ro,I rn] 37 (0,0))):=zaH.o;refine zae fun K h=>?_; go_simp; refine h _ ?_; clear h K;refine zaq 3 rfl (by kernel_rfl) (by kernel_rfl) (by kernel_rfl) (fun _ _ _ _ h=>h) rfl HSS.o (fun K hK=>?_); go_simp; refine hK _ ?_; clear hK K;replace zaa:=zwl M9 zaa zav;replace zai:=zwg M9 zai zaG;replace zbG:=zwg M9 zbG zc5;replace R0:=zwr M9 R0 zas;replace HB:=zwr M9 HB zas;replace EW:=zwe M9 EW zaZ;refine zbK 4 (by kernel_rfl) rfl rfl 37 (.tmp 58) (.tmp 56) rfl b1 3 rfl [I rc,I rt,I rk,I ra,I ro,I rn] (rfl) zac.o (Nat.le_of_ble_eq_true rfl) (by kernel_rfl) (zbB rfl) #[I gen,.slice na' l.length nc',.bool true,I rc,I rt,I rk,I ra,I ro,I rn,.slice la pl.length lc,I se,I sn] ((zcc _ _ _ (Nat.le_of_ble_eq_true rfl)).trans rfl) (fun w10_ M10=>⟨?_,?_⟩)
  ·exact M10.o.old zaH.o (Nat.ne_of_gt zbp.o)
  replace zac:=zwb M10;clear HSS;replace zaH:=zwg M10 zaH zbp;have HSS:Hid (w10_.heap[b4]?=some (.cells #[I rc,I rt,I rk,I ra,I ro,I rn] 37 (0,0))):=zaH.o;refine zae fun K h=>?_; go_simp; refine h _ ?_; clear h K;refine wpAnyH_done (by kernel_rfl) ?_ _;clear HSS;replace zaa:=zwl M10 zaa zav;have s0:=zad (i:=0) zaa.o rfl;have d2:=zad (i:=2) zaH.o rfl;have d3:=zad (i:=3) zaH.o rfl;have d4:=zad (i:=4) zaH.o rfl;have d5:=zad (i:=5) zaH.o rfl;go_wp2_with fail
  clear s0 d2 d3 d4 d5;replace R0:=zwr M10 R0 zas;refine (zki _ sc rk ra ro rn w10_ (zc7.1 R0.o.left.o).1 HWO.o HCR.o).mono ?_;rintro e w9 ⟨⟨uu,rfl,hu⟩,e9⟩
  replace hu:Has w10_.heap.size w9 uu (zbn (zbI sc) ⟨rk,ra,ro,rn⟩):=hu;rw [HPL.o] at hu;obtain ⟨ua',uc',rfl⟩:=zao hu.writes;rw [show (zbk (zaK sc (sc.getD 0 0).toNat) ⟨rk,ra,ro,rn⟩).2=⟨de,dn⟩ from HD.o];replace zai:=zwg M10 zai zaG;have hsz:w.heap.size+3<=w10_.heap.size:=by have q:=(zlt zai); have q2:=zb5.o; omega
  have hz4:b4 < w10_.heap.size:=(zlt zaH);replace zbG:=zwg M10 zbG zc5;have hz5:b5 < w10_.heap.size:=(zlt zbG);have HPN:=zhd (hu.rd.widen (B:=B11) (fun k _ h=>(HB11.o k).2 ⟨(HB1.o k).2 ⟨HK.o.2.1 k (by omega),by omega⟩,by omega⟩));clear hu hsz hz4 hz5;go_wp2_with (with_reducible refine zT ?_)
  replace zac:=zbx zac e9;refine zal rfl 28 (.tmp 67) (.tmp 65) rfl b1 9 rfl [.slice ua' PL.length uc'] (rfl) zac rfl zmj rfl [I gen,.slice na' l.length nc',.bool true,I rc,I rt,I rk,I ra,I ro,I rn,.slice ua' PL.length uc',I se,I sn] rfl (fun w11_ M11=>?_);replace zac:=zwb M11;go_wp2_with (with_reducible refine zT ?_)
  refine zal rfl 40 (.tmp 68) (.tmp 66) rfl b1 10 rfl [I de,I dn] (rfl) zac rfl zqV rfl [I gen,.slice na' l.length nc',.bool true,I rc,I rt,I rk,I ra,I ro,I rn,.slice ua' PL.length uc',I de,I dn] rfl (fun w12_ M12=>?_);replace zac:=zwb M12;go_wp2_with (with_reducible refine zT ?_)
  refine zah rfl 42 (.tmp 3) rfl b1 rfl zac zcj zda (fun v69 H_v69=>?_);go_wp2_with (with_reducible refine zT ?_)
  replace zai:=zwg M12 (zwg M11 (zbx zai e9) zaG) zaG;refine zab rfl 42 (.tmp 4) (.tmp 69) rfl b2 rfl _ (zcv H_v69) zai rfl zda rfl (fun w13_ M13=>?_);replace zai:=zwb M13;go_wp2
  have z0:=zap (P:=Tryz.prog) 42 zai.o zcj (by kernel_rfl);refine bodyPost_ret (by simp [results,Tryz.results92,asAddr,z0]; rfl) rfl ?_
  have hX:zaC ⟨sc,su,sa,sp⟩ ⟨gen,(b::l),false,⟨nc,nt,⟨nk,na,no,nn⟩⟩,pl,⟨se,sn⟩⟩=(⟨sc,su,sa,sp⟩,⟨gen,l,true,⟨rc,rt,⟨rk,ra,ro,rn⟩⟩,PL,⟨de,dn⟩⟩,[],0):=by
   show (if (readRq b).2≠0 then _ else if (lastAn sa (readRq b).1.client).2=true/\(readRq b).1.token<=(lastAn sa (readRq b).1.client).1.token then (if (lastAn sa (readRq b).1.client).1.token=(readRq b).1.token then _ else _) else _)=_
   rw [HRR.o];simp only [];rw [HL.o];rw [if_neg (by simp),if_neg (fun h=>by cases h.1),HPL.o,HD.o]
  have ht:=HT.o;rw [hX] at ht;replace HB:=zwr M13 (zwr M12 (zwr M11 (zrx (zwr M10 HB zas) e9) zas) zas) zaN;replace EW:=zwe M13 (zwe M12 (zwe M11 (zhd ((zwe M10 EW zaZ).o.trans e9)) zaZ) zaZ) zbm;replace HPN:=zwr M13 (zwr M12 (zwr M11 HPN zas) zas) zaN;exact ⟨_,rfl,EW.o,ht _ _ _ (Rd.widen (A:=B11) (zhO (zdI (v:=⟨gen,l,true,⟨rc,rt,⟨rk,ra,ro,rn⟩⟩,PL,⟨de,dn⟩⟩) HB.o HPN.o) (Rd.all fun w=>zbb w)) (fun k _ h=>HK.o.2.2.2 k (zf1.o k (zi2.o k h))))⟩
 ·have hb2:(lt == rt)=false:=by simp; omega
  go_wp2_with fail
  clear d1 l1;refine zbh (S:=fun w'=>w'.heap[b4]?=some (.cells #[I rc,I rt,I rk,I ra,I ro,I rn] 37 (0,0))) (by kernel_rfl) (fun wd ed _=>?_);replace zaH:=zbx zaH ed;have HSS:Hid (wd.heap[b4]?=some (.cells #[I rc,I rt,I rk,I ra,I ro,I rn] 37 (0,0))):=zaH.o;refine zaM 0 rfl (by kernel_rfl) (by kernel_rfl) (by kernel_rfl) (fun _ _ _ _ h=>h) rfl 37 (.tmp 7) rfl b4 rfl (fun w' hS=>hS) zoU (by kernel_rfl) HSS ?_;refine zae fun K h=>?_; go_simp; refine h _ ?_; clear h K;refine zaq 1 rfl (by kernel_rfl) (by kernel_rfl) (by kernel_rfl) (fun _ _ _ _ h=>h) rfl HSS.o (fun K hK=>?_); go_simp; refine hK _ ?_; clear hK K;replace zaa:=zbx zaa ed;replace zac:=zbx zac ed;replace zai:=zbx zai ed;replace zbG:=zbx zbG ed;replace R0:=zrx R0 ed;replace HB:=zrx HB ed;replace EW:=zhd (EW.o.trans ed);refine zbK 2 (by kernel_rfl) rfl rfl 4 (.tmp 57) (.const (.bool true)) rfl b1 2 rfl [.bool true] (rfl) zac.o (Nat.le_of_ble_eq_true rfl) (by kernel_rfl) (zbB rfl) #[I gen,.slice na' l.length nc',.bool true,I nc,I nt,I nk,I na,I no,I nn,.slice la pl.length lc,I se,I sn] ((zcc _ _ _ (Nat.le_of_ble_eq_true rfl)).trans rfl) (fun w9_ M9=>⟨?_,?_⟩)
  ·exact M9.o.old zaH.o (Nat.ne_of_gt zbp.o)
  replace zac:=zwb M9;clear HSS;replace zaH:=zwg M9 zaH zbp;have HSS:Hid (w9_.heap[b4]?=some (.cells #[I rc,I rt,I rk,I ra,I ro,I rn] 37 (0,0))):=zaH.o;refine zae fun K h=>?_; go_simp; refine h _ ?_; clear h K;refine zaq 3 rfl (by kernel_rfl) (by kernel_rfl) (by kernel_rfl) (fun _ _ _ _ h=>h) rfl HSS.o (fun K hK=>?_); go_simp; refine hK _ ?_; clear hK K;replace zaa:=zwl M9 zaa zav;replace zai:=zwg M9 zai zaG;replace zbG:=zwg M9 zbG zc5;replace R0:=zwr M9 R0 zas;replace HB:=zwr M9 HB zas;replace EW:=zwe M9 EW zaZ;refine zbK 4 (by kernel_rfl) rfl rfl 37 (.tmp 58) (.tmp 56) rfl b1 3 rfl [I rc,I rt,I rk,I ra,I ro,I rn] (rfl) zac.o (Nat.le_of_ble_eq_true rfl) (by kernel_rfl) (zbB rfl) #[I gen,.slice na' l.length nc',.bool true,I rc,I rt,I rk,I ra,I ro,I rn,.slice la pl.length lc,I se,I sn] ((zcc _ _ _ (Nat.le_of_ble_eq_true rfl)).trans rfl) (fun w10_ M10=>⟨?_,?_⟩)
  ·exact M10.o.old zaH.o (Nat.ne_of_gt zbp.o)
  replace zac:=zwb M10;clear HSS;replace zaH:=zwg M10 zaH zbp;have HSS:Hid (w10_.heap[b4]?=some (.cells #[I rc,I rt,I rk,I ra,I ro,I rn] 37 (0,0))):=zaH.o;refine zae fun K h=>?_; go_simp; refine h _ ?_; clear h K;refine wpAnyH_done (by kernel_rfl) ?_ _;clear HSS;replace zaa:=zwl M10 zaa zav;have s0:=zad (i:=0) zaa.o rfl;have d2:=zad (i:=2) zaH.o rfl;have d3:=zad (i:=3) zaH.o rfl;have d4:=zad (i:=4) zaH.o rfl;have d5:=zad (i:=5) zaH.o rfl;go_wp2_with fail
  clear s0 d2 d3 d4 d5;replace R0:=zwr M10 R0 zas;refine (zki _ sc rk ra ro rn w10_ (zc7.1 R0.o.left.o).1 HWO.o HCR.o).mono ?_;rintro e w9 ⟨⟨uu,rfl,hu⟩,e9⟩
  replace hu:Has w10_.heap.size w9 uu (zbn (zbI sc) ⟨rk,ra,ro,rn⟩):=hu;rw [HPL.o] at hu;obtain ⟨ua',uc',rfl⟩:=zao hu.writes;rw [show (zbk (zaK sc (sc.getD 0 0).toNat) ⟨rk,ra,ro,rn⟩).2=⟨de,dn⟩ from HD.o];replace zai:=zwg M10 zai zaG;have hsz:w.heap.size+3<=w10_.heap.size:=by have q:=(zlt zai); have q2:=zb5.o; omega
  have hz4:b4 < w10_.heap.size:=(zlt zaH);replace zbG:=zwg M10 zbG zc5;have hz5:b5 < w10_.heap.size:=(zlt zbG);have HPN:=zhd (hu.rd.widen (B:=B11) (fun k _ h=>(HB11.o k).2 ⟨(HB1.o k).2 ⟨HK.o.2.1 k (by omega),by omega⟩,by omega⟩));clear hu hsz hz4 hz5;go_wp2_with (with_reducible refine zT ?_)
  replace zac:=zbx zac e9;refine zal rfl 28 (.tmp 67) (.tmp 65) rfl b1 9 rfl [.slice ua' PL.length uc'] (rfl) zac rfl zmj rfl [I gen,.slice na' l.length nc',.bool true,I rc,I rt,I rk,I ra,I ro,I rn,.slice ua' PL.length uc',I se,I sn] rfl (fun w11_ M11=>?_);replace zac:=zwb M11;go_wp2_with (with_reducible refine zT ?_)
  refine zal rfl 40 (.tmp 68) (.tmp 66) rfl b1 10 rfl [I de,I dn] (rfl) zac rfl zqV rfl [I gen,.slice na' l.length nc',.bool true,I rc,I rt,I rk,I ra,I ro,I rn,.slice ua' PL.length uc',I de,I dn] rfl (fun w12_ M12=>?_);replace zac:=zwb M12;go_wp2_with (with_reducible refine zT ?_)
  refine zah rfl 42 (.tmp 3) rfl b1 rfl zac zcj zda (fun v69 H_v69=>?_);go_wp2_with (with_reducible refine zT ?_)
  replace zai:=zwg M12 (zwg M11 (zbx zai e9) zaG) zaG;refine zab rfl 42 (.tmp 4) (.tmp 69) rfl b2 rfl _ (zcv H_v69) zai rfl zda rfl (fun w13_ M13=>?_);replace zai:=zwb M13;go_wp2
  have z0:=zap (P:=Tryz.prog) 42 zai.o zcj (by kernel_rfl);refine bodyPost_ret (by simp [results,Tryz.results92,asAddr,z0]; rfl) rfl ?_
  have hX:zaC ⟨sc,su,sa,sp⟩ ⟨gen,(b::l),false,⟨nc,nt,⟨nk,na,no,nn⟩⟩,pl,⟨se,sn⟩⟩=(⟨sc,su,sa,sp⟩,⟨gen,l,true,⟨rc,rt,⟨rk,ra,ro,rn⟩⟩,PL,⟨de,dn⟩⟩,[],0):=by
   show (if (readRq b).2≠0 then _ else if (lastAn sa (readRq b).1.client).2=true/\(readRq b).1.token<=(lastAn sa (readRq b).1.client).1.token then (if (lastAn sa (readRq b).1.client).1.token=(readRq b).1.token then _ else _) else _)=_
   rw [HRR.o];simp only [];rw [HL.o];rw [if_neg (by simp),if_neg (fun h=>by have q:=h.2; simp only [] at q; omega),HPL.o,HD.o]
  have ht:=HT.o;rw [hX] at ht;replace HB:=zwr M13 (zwr M12 (zwr M11 (zrx (zwr M10 HB zas) e9) zas) zas) zaN;replace EW:=zwe M13 (zwe M12 (zwe M11 (zhd ((zwe M10 EW zaZ).o.trans e9)) zaZ) zaZ) zbm;replace HPN:=zwr M13 (zwr M12 (zwr M11 HPN zas) zas) zaN;exact ⟨_,rfl,EW.o,ht _ _ _ (Rd.widen (A:=B11) (zhO (zdI (v:=⟨gen,l,true,⟨rc,rt,⟨rk,ra,ro,rn⟩⟩,PL,⟨de,dn⟩⟩) HB.o HPN.o) (Rd.all fun w=>zbb w)) (fun k _ h=>HK.o.2.2.2 k (zf1.o k (zi2.o k h))))⟩

open Go.RowKit Go.Mk

theorem zrg {w:World} (e:TypeId) (r:Rq):Row (w.alloc (.cells #[I r.client,I r.token,I r.call.kind,I r.call.name,I r.call.other,I r.call.n] e)) 6 (.slice (some ⟨w.heap.size,0,none⟩) 1 1) 1 (zbo [r]) :=
 Row.of_owns (World.ownsRow_lit (base:=0) (e:=e) (size:=6) w #[I r.client,I r.token,I r.call.kind,I r.call.name,I r.call.other,I r.call.n] 1 (Nat.zero_le _) (by decide) rfl)

theorem znP {w:World} {base e size n:Nat} {v:Value} {xs:List Value} (h:w.ownsRow base e size v n xs):∀ k,v.ownBlock=some k->base<=k:=fun k hk=>(h.lt k hk).1

theorem znt (c u a p:Value) (s:St) (rc rt rk ra ro rn x n:Int) (w:World) (h:zcn w [c,u,a,p] s) (hs:zji s) :
  zaJ Tryz.prog 90 #[.agg #[c,u,a,p],.agg #[I rc,I rt,I rk,I ra,I ro,I rn],.agg #[I x,I n]] w (fun _=>False) (fun r w'=>Agg zcn (zbW s ⟨rc,rt,⟨rk,ra,ro,rn⟩⟩ ⟨x,n⟩) r w'):=by
 unfold zaJ;have HS:=zhd hs;clear hs;have HE:=zhd h;clear h;obtain ⟨i0,hi,hz0,hz1,hz2⟩:=info_parts Tryz.infoRequest;have HI:=zhd hi;clear hi;have e0:Ext w ((((w.alloc (.cells #[c,u,a,p] 32)).alloc (.cells #[I rc,I rt,I rk,I ra,I ro,I rn] 37)).alloc (.cells #[I x,I n] 40)).alloc (.cells zT4 32)):=((((Ext.refl w).alloc _).alloc _).alloc _).alloc _;have HB:=zhd (fun wx (h:Ext ((((w.alloc (.cells #[c,u,a,p] 32)).alloc (.cells #[I rc,I rt,I rk,I ra,I ro,I rn] 37)).alloc (.cells #[I x,I n] 40)).alloc (.cells zT4 32)) wx)=>(zlf h).2);have hsz:((((w.alloc (.cells #[c,u,a,p] 32)).alloc (.cells #[I rc,I rt,I rk,I ra,I ro,I rn] 37)).alloc (.cells #[I x,I n] 40)).alloc (.cells zT4 32)).heap.size=w.heap.size+4:=by simp
 have HSZ:=zhd hsz;clear hsz;go_enter Tryz.func90,Tryz.ntmps90
 go_wp2_with fail
 generalize hw0:(((w.alloc (.cells #[c,u,a,p] 32)).alloc (.cells #[I rc,I rt,I rk,I ra,I ro,I rn] 37)).alloc (.cells #[I x,I n] 40)).alloc (.cells zT4 32)=w0 at *;clear hw0;refine (zhN c u a p s w0 (zhj _ _ _ _ e0 HE.o) HS.o).to fun r w1 e1 hr=>?_;obtain ⟨c',u',a',p',rfl,ho⟩:=hr;obtain ⟨ka,kc,hk0⟩:=za3 ho.cells;obtain ⟨la,lc,hk1⟩:=za3 ho.undo
 obtain ⟨ma,mc,hk2⟩:=za3 ho.answers;obtain ⟨na,nc,hk3⟩:=za3 ho.past;subst hk0 hk1 hk2 hk3;have hle:=e1.size;have hz0':=HSZ.o;have HLE:=zhd hle;have HZ0:=zhd hz0';have HO:=zhd (ho.low (Nat.le_add_right w0.heap.size 2));clear ho;have hng:∀ {e size m:Nat} {v:Value} {xs:List Value},w1.ownsRow (w0.heap.size) e size v m xs->v.ownBlock≠some w1.heap.size:=fun h e=>by have:=(h.lt _ e).2; omega
 have HNG:=zhd (And.intro (hng HO.o.cells) (And.intro (hng HO.o.answers) (hng HO.o.past)));clear hng;obtain ⟨t1,t2,t3⟩:=HB.o _ (e1.alloc (.cells #[(.slice ka s.cells.length kc),(.slice la s.undo.length lc),(.slice ma s.answers.length mc),(.slice na s.past.length nc)] 32));have T1:=zhd t1;have T2:=zhd t2;have T3:=zhd t3;have B3:=zhd (heap_alloc_new w1 (.cells #[(.slice ka s.cells.length kc),(.slice none 0 0),(.slice ma s.answers.length mc),(.slice na s.past.length nc)] 32));have hn1:¬ (w1.heap.size=w.heap.size+1):=by omega
 have hn1':¬ (w.heap.size+1=w1.heap.size):=by omega
 have hn2:¬ (w1.heap.size=w.heap.size+1+1):=by omega
 have hn2':¬ (w.heap.size+1+1=w1.heap.size):=by omega
 obtain ⟨t1,t2,t3⟩:=HB.o _ (e1.alloc (.cells #[(.slice ka s.cells.length kc),(.slice none 0 0),(.slice ma s.answers.length mc),(.slice na s.past.length nc)] 32));have T1:=zhd t1;have T2:=zhd t2;have T3:=zhd t3;clear hle hz0';obtain ⟨⟨r0,r1,r2,r3,r4,r5⟩,-⟩:=zhl T1.o;clear t1 t2 t3;go_wp2_with (at_builtin; refine zbv ?_)
 unfold Hid;clear r0 r1 r2 r3 r4 r5;have hlit:=zrg (w:=w1.alloc (.cells #[(.slice ka s.cells.length kc),(.slice none 0 0),(.slice ma s.answers.length mc),(.slice na s.past.length nc)] 32)) 37 ⟨rc,rt,⟨rk,ra,ro,rn⟩⟩;rw [show (w1.alloc (.cells #[(.slice ka s.cells.length kc),(.slice none 0 0),(.slice ma s.answers.length mc),(.slice na s.past.length nc)] 32)).heap.size=w1.heap.size+1 by simp] at hlit;have ea:=((Ext.refl w1).alloc (.cells #[(.slice ka s.cells.length kc),(.slice none 0 0),(.slice ma s.answers.length mc),(.slice na s.past.length nc)] 32)).alloc (.cells #[I rc,I rt,I rk,I ra,I ro,I rn] 37);have hsA:((w1.alloc (.cells #[(.slice ka s.cells.length kc),(.slice none 0 0),(.slice ma s.answers.length mc),(.slice na s.past.length nc)] 32)).alloc (.cells #[I rc,I rt,I rk,I ra,I ro,I rn] 37)).heap.size=w1.heap.size+2:=by simp
 have bA:=zbV B3.o ((Ext.refl _).alloc (.cells #[I rc,I rt,I rk,I ra,I ro,I rn] 37));have uA:=zbV T1.o ((Ext.refl _).alloc (.cells #[I rc,I rt,I rk,I ra,I ro,I rn] 37));have vA:=zbV T2.o ((Ext.refl _).alloc (.cells #[I rc,I rt,I rk,I ra,I ro,I rn] 37));have zA:=zbV T3.o ((Ext.refl _).alloc (.cells #[I rc,I rt,I rk,I ra,I ro,I rn] 37));refine zay _ rfl (.tmp 12) (.tmp 14) 30 rfl (w0.heap.size) 37 i0 (.agg #[.int .i64 0,.int .i64 0,.int .i64 0,.int .i64 0,.int .i64 0,.int .i64 0]) 6 48 zlX HI.o hz0 hz1 hz2 rfl (by decide) (.slice na s.past.length nc) s.past.length (zbo s.past) rfl (zak HO.o.past ea) _ rfl 1 _ hlit (zdM _) (by have:=HS.o.2.2.2; omega) (by decide) (by have:=HLE.o; rw [hsA]; omega) ?_;intro v15 w2 ho2 hg2;rw [<- zek] at ho2;clear hlit;have hP:=HNG.o.2.2;have hPs:=znP HO.o.past;have hz0':=HZ0.o;have oc:=(zak HO.o.cells ea).kept hg2 (zdR (zak HO.o.cells ea) (zak HO.o.past ea) (by decide));have oa:=(zak HO.o.answers ea).kept hg2 (zdR (zak HO.o.answers ea) (zak HO.o.past ea) (by decide));have b2:=zef hg2 bA hP;have u2:=zef hg2 uA (fun e=>by have:=hPs _ e; omega);have v2:=zef hg2 vA (fun e=>by have:=hPs _ e; omega);have z2:=zef hg2 zA (fun e=>by have:=hPs _ e; omega);have ew:Ext w w2:=((e0.trans e1).trans ea).grown hg2 (fun k e=>by have:=hPs _ e; omega);have hle2:=hg2.size;rw [hsA] at hle2;clear bA uA vA zA ea hsA hg2 hP hPs hz0';have hnv:v15.ownBlock≠some w1.heap.size:=za6 ho2 b2 (by decide);obtain ⟨va,vc,hvs⟩:=za3 ho2;subst hvs;have OC:=zhd (zbq oc HNG.o.1 3 (.slice va (s.past.length+1) vc));have OA:=zhd (zbq oa HNG.o.2.1 3 (.slice va (s.past.length+1) vc));have OP:=zhd (zbq ho2 hnv 3 (.slice va (s.past.length+1) vc));have hz0':=HZ0.o;have EW:=zhd (ew.setCell (p:=⟨w1.heap.size,3,none⟩) (by have:=HLE.o; show w.heap.size<=w1.heap.size; omega) (.slice va (s.past.length+1) vc))
 have BB:Hid ((w2.setCell ⟨w1.heap.size,3,none⟩ (.slice va (s.past.length+1) vc)).heap[w1.heap.size]?=some (.cells #[(.slice ka s.cells.length kc),(.slice none 0 0),(.slice ma s.answers.length mc),.slice va (s.past.length+1) vc] 32 (0,0))):=by
  have:=heap_setCell_same _ _ 3 _ _ (.slice va (s.past.length+1) vc) b2;unfold Hid;simpa using this
 have ZZ:=zhd (zcE (i:=3) (x:=.slice va (s.past.length+1) vc) z2 (show w.heap.size+1+1+1≠w1.heap.size by have:=HLE.o; omega));have HLE2:=zhd hle2;obtain ⟨⟨r0,r1,r2,r3,r4,r5⟩,-⟩:=zhl u2;obtain ⟨s0,s1,-⟩:=box2 v2;obtain ⟨x0,x1,x2,x3,f0,f1,f2,f3⟩:=zcl b2;clear oc oa ho2 b2 u2 v2 z2 ew hle2 hz0' hnv;go_wp2_with fail
 clear r0 r1 r2 r3 r4 r5 s0 s1 x0 x1 x2 x3 f0 f1 f2 f3
 have hbase:w0.heap.size<=(w2.setCell ⟨w1.heap.size,3,none⟩ (.slice va (s.past.length+1) vc)).heap.size:=by
  have h1:=HLE.o;have h2:=HLE2.o;simp;omega
 generalize hw3:w2.setCell ⟨w1.heap.size,3,none⟩ (.slice va (s.past.length+1) vc)=w3 at *;clear hw3;refine (zps (.slice ma s.answers.length mc) s.answers rc rt x n (w0.heap.size) w3 OA.o (by have:=HS.o.2.2.1; omega) hbase).mono ?_;rintro e w4 ⟨r25,rfl,ho4,hg4⟩
 have hPs:=znP OA.o;have hz0':=HZ0.o;have oc:=OC.o.kept hg4 (zdR OC.o OA.o (by decide));have op:=OP.o.kept hg4 (zdR OP.o OA.o (by decide));have b4:=zef hg4 BB.o HNG.o.2.1;have z4:=zef hg4 ZZ.o (fun e=>by have:=hPs _ e; omega);have ew:Ext w w4:=EW.o.grown hg4 (fun k e=>by have:=hPs _ e; omega);have hnr:r25.ownBlock≠some w1.heap.size:=za6 ho4 b4 (by decide);have hnp:(Value.slice va (s.past.length+1) vc).ownBlock≠some w1.heap.size:=za6 op b4 (by decide);obtain ⟨qa,qc,hqs⟩:=za3 ho4;subst hqs;generalize hM:(zb9 s.answers ⟨rc,rt,⟨x,n⟩⟩).length=M at *;have OC2:=zhd (zbq oc HNG.o.1 2 (.slice qa M qc));have OA2:=zhd (zbq ho4 hnr 2 (.slice qa M qc));have OP2:=zhd (zbq op hnp 2 (.slice qa M qc));have hn3:¬ (w1.heap.size=w.heap.size+1+1+1):=by have:=HLE.o; omega
 have hn3':¬ (w.heap.size+1+1+1=w1.heap.size):=by have:=HLE.o; omega
 have EW4:=zhd ew;clear oc op ho4 hg4 hPs hz0' hnr hnp ew hbase OC OA OP;obtain ⟨x0,x1,x2,x3,f0,f1,f2,f3⟩:=zcl b4;obtain ⟨y0,y1,y2,y3,g0,g1,g2,g3⟩:=zcl z4;go_wp2_with fail
 clear x0 x1 x2 x3 f0 f1 f2 f3 y0 y1 y2 y3 g0 g1 g2 g3;have d4:=set4 (zcE (i:=2) (x:=.slice qa M qc) z4 hn3') (.slice ka s.cells.length kc) (.slice none 0 0) (.slice qa M qc) (.slice va (s.past.length+1) vc);obtain ⟨q0,q1,q2,q3,-⟩:=zcl d4;have hle:=HLE.o;have hz0':=HZ0.o;have m2:=zb8 (EW4.o.setCell (p:=⟨w1.heap.size,2,none⟩) (by show w.heap.size<=w1.heap.size; omega) (.slice qa M qc)) (b:=w.heap.size+1+1+1) (by omega) (.slice ka s.cells.length kc) (.slice none 0 0) (.slice qa M qc) (.slice va (s.past.length+1) vc);have n3:¬ (w0.heap.size<=w.heap.size+1+1+1):=by omega
 refine bodyPost_ret (by simp [results,Tryz.results90,go_sem,q0,q1,q2,q3]; rfl) rfl ?_;refine ⟨_,rfl,m2,Rd.widen (A:=fun k=>w0.heap.size<=k) (zb1 (zdp (s:=zbW s ⟨rc,rt,⟨rk,ra,ro,rn⟩⟩ ⟨x,n⟩) ?_ ?_ ?_ ?_)) (fun k _ h=>.inr (by omega))⟩
 ·exact (zdY OC2.o).set4 n3 _ _ _ _
 ·exact Rd.all fun w=>zbt w
 ·exact (zel OA2.o).set4 n3 _ _ _ _
 ·exact (zg8 OP2.o).set4 n3 _ _ _ _

end Go.Proofs.YtdmipnnfoolelagGreat
