/- Texts of the proof, merged: V4 S10. -/
import Derived.Test.YtdmipnnfoolelafGreatKTA
import Derived.Test.YtdmipnnfoolelafGreatKTT
import Derived.Test.YtdmipnnfoolelafGreatKTU
import Derived.Test.YtdmipnnfoolelafGreatKTI
import Derived.Test.YtdmipnnfoolelafGreatKT6
import Derived.Test.YtdmipnnfoolelafGreatKTQ
import Derived.Test.YtdmipnnfoolelafGreatKTE
import Derived.Test.YtdmipnnfoolelafGreatKTV
set_option maxHeartbeats 4000000
set_option maxRecDepth 100000

namespace Go.Proofs.YtdmipnnfoolelafGreat
open Go.RowKit Go.Mk

def zp2 (v:Sv) (b:List UInt8) (r:Value) (w:World):Prop:=∃ (ds:List Value) (bv:Value),r=.tuple #[.agg ds.toArray,bv]/\zhm w ds v/\zbd w bv b
theorem zrL {v:Sv} {b:List UInt8} {r:Value} {A:Nat->Prop} {w:World} (h:Rd A (zp2 v b r) w):∃ (ds:List Value) (bv:Value),r=.tuple #[.agg ds.toArray,bv]/\Rd A (fun w=>zhm w ds v) w/\Rd A (fun w=>zbd w bv b) w:=by
 obtain ⟨ds,bv,e1,h1,h2⟩:=h.o
 have key:∀ w',zp2 v b r w'->zhm w' ds v/\zbd w' bv b:=fun w' hw=>by
  obtain ⟨ds',bv',e1',h3,h4⟩:=hw
  rw [e1] at e1'
  simp only [Value.tuple.injEq,Array.mk.injEq,List.cons.injEq,Value.agg.injEq,and_true] at e1'
  obtain ⟨q1,q2⟩:=e1'
  have q1:ds=ds':=by simpa using q1
  subst q1 q2
  exact ⟨h3,h4⟩
 exact ⟨ds,bv,e1,h.imp fun w' hw=>(key w' hw).1,h.imp fun w' hw=>(key w' hw).2⟩
theorem zij {v:Sv} {b:List UInt8} {ds:List Value} {bv:Value} {A:Nat->Prop} {w:World} (h2:Rd A (fun w=>zhm w ds v) w) (h3:Rd A (fun w=>zbd w bv b) w):Rd A (zp2 v b (.tuple #[.agg ds.toArray,bv])) w :=
 (h2.and h3).imp fun _ h=>⟨ds,bv,rfl,h.1,h.2⟩
theorem zoC {base:Nat} {w:World} {v:Value} {l:List UInt8} {n:Nat} (hn:l.length=n) (h:w.ownsRow base 5 1 v n (l.map U)):Rd (fun k=>base<=k) (fun w=>zbd w v l) w:=by
 subst hn
 exact zdV h

theorem zop (c u a p:Value) (s:St) (n:Int) (w:World) (h:zcn w [c,u,a,p] s) :
  zaK Tryz.prog 98 #[.agg #[c,u,a,p],I n] w (fun _=>False) (fun r w'=>zbd w' r (zb1 (lastAn s.answers n).1)):=by
 unfold zaK;obtain ⟨h1,h2,h3,h4⟩:=zcK.1 h;obtain ⟨ca,cc,rfl⟩:=zao h1;obtain ⟨ua,uc,rfl⟩:=zao h2;obtain ⟨aa,ac,rfl⟩:=zag h3;obtain ⟨pa,pc,rfl⟩:=zag h4;clear h1 h2 h3 h4;have HE:=zhd h;clear h;have EW:=zhd (Ext.refl w);obtain ⟨⟨lc2,lt,⟨le,ln⟩⟩,LB,hL⟩:∃ x y,lastAn s.answers n=(x,y):=⟨_,_,rfl⟩;have HL:=zhd hL;rw [hL];clear hL;go_enter Tryz.func98,Tryz.ntmps98
 go_wp2_with (with_reducible refine zT ?_)
 refine zaj rfl 31 (.tmp 0) rfl #[.slice ca s.cells.length cc,.slice ua s.undo.length uc,.slice aa s.answers.length ac,.slice pa s.past.length pc] rfl (fun b0 w1_ M1=>?_);have zab:=zmb M1;go_wp2_with (with_reducible refine zT ?_)
 unfold Hid;refine zgs rfl 31 (.tmp 2) rfl b0 0 rfl zab.o [.slice ca s.cells.length cc,.slice ua s.undo.length uc,.slice aa s.answers.length ac,.slice pa s.past.length pc] rfl zcX (by kernel_rfl) (fun v8 H_v8=>?_);go_wp2_with fail
 rw [show _=Value.agg #[.slice ca s.cells.length cc,.slice ua s.undo.length uc,.slice aa s.answers.length ac,.slice pa s.past.length pc] from H_v8.o];replace EW:=zet EW M1;have hl:=zmz _ _ _ _ s n w1_ (zf2 _ _ _ _ EW.o HE.o);rw [HL.o] at hl;refine Calls.exts hl (fun wl el=>?_);clear hl H_v8;replace zab:=zhd (zbW zab.o el);replace EW:=zhd (EW.o.trans el);clear el;go_wp2_with (with_reducible refine zT ?_)
 refine zae rfl 97 #[I 0,I 0,I 0,I 0] (by kernel_rfl) (fun b1 w2_ M2=>?_);have zaw:=zld zab M2;have zad:=zmb M2;replace zab:=zmo M2 zab;replace EW:=zet EW M2;have zaZ:Hid (w.heap.size<=b1):=by unfold Hid; have q:=M2.o.size; have q2:=EW.o.size; have q3:=M2.o.at_; have q4:=zaw.o; have q5:=(zlt zab); have q6:=M1.o.at_; omega
 go_wp2_with (with_reducible refine zT ?_)
 unfold Hid;refine zcG rfl 97 (.tmp 5) (.tmp 11) rfl b1 0 rfl [I lc2,I lt,I le,I ln] (rfl) zad.o (Nat.le_of_ble_eq_true rfl) (by kernel_rfl) (zbC rfl) #[I lc2,I lt,I le,I ln] ((zcm _ _ _ (Nat.le_of_ble_eq_true rfl)).trans rfl) (fun w3_ M3=>?_);replace zad:=zwb M3;have l0:=zaa (i:=0) zad.o rfl;have l1:=zaa (i:=1) zad.o rfl;have l2:=zaa (i:=2) zad.o rfl;have l3:=zaa (i:=3) zad.o rfl;go_wp2_with fail
 clear l0 l1 l2 l3;refine (zjZ lc2 lt le ln w3_).mono ?_;rintro e w9 ⟨v',rfl,ho,e9⟩
 have hb:=zoC (l:=zb1 ⟨lc2,lt,⟨le,ln⟩⟩) rfl ho;replace EW:=zwe M3 EW zaZ;have hsz:=EW.o.size;go_wp2
 go_ret
 replace EW:=zhd (EW.o.trans e9);exact ⟨_,rfl,EW.o,hb.widen fun k _ h=>.inr (by omega)⟩

theorem zon (sc:List Int) (su:List (Int×Int)) (sa:List An) (sp:List Rq) (gen:Int) (nc nt nk na no nn:Int) (se sn:Int) (b:List UInt8) (l:List (List UInt8)) (pl:List (Int×Int)) (c u a p box plan:Value) (w:World) (A:Nat->Prop) (hs:Rd A (fun w=>zcn w [c,u,a,p] ⟨sc,su,sa,sp⟩) w) (hb:Rd A (fun w=>zas 1 zcc w box (b::l)) w) (hp:Rd A (fun w=>zax w plan pl) w) (hwo:zfx sc) :
  zaK Tryz.prog 99 #[.agg #[c,u,a,p],.agg #[I gen,box,.bool false,I nc,I nt,I nk,I na,I no,I nn,plan,I se,I sn]] w A (fun r w'=>zp2 (zaz ⟨sc,su,sa,sp⟩ ⟨gen,(b::l),false,⟨nc,nt,⟨nk,na,no,nn⟩⟩,pl,⟨se,sn⟩⟩).2.1 (zaz ⟨sc,su,sa,sp⟩ ⟨gen,(b::l),false,⟨nc,nt,⟨nk,na,no,nn⟩⟩,pl,⟨se,sn⟩⟩).2.2.1 r w'):=by
 suffices hall:∀ T:Value->World->Prop,(∀ r A w,Rd A (zp2 (zaz ⟨sc,su,sa,sp⟩ ⟨gen,(b::l),false,⟨nc,nt,⟨nk,na,no,nn⟩⟩,pl,⟨se,sn⟩⟩).2.1 (zaz ⟨sc,su,sa,sp⟩ ⟨gen,(b::l),false,⟨nc,nt,⟨nk,na,no,nn⟩⟩,pl,⟨se,sn⟩⟩).2.2.1 r) w->Rd A (T r) w)->zaK Tryz.prog 99 #[.agg #[c,u,a,p],.agg #[I gen,box,.bool false,I nc,I nt,I nk,I na,I no,I nn,plan,I se,I sn]] w A T from hall _ (fun _ _ _ h=>h)
 intro T hT;have HT:=zhd hT;clear hT;unfold zaK;obtain ⟨h1,h2,h3,h4⟩:=zcK.1 hs.o;obtain ⟨ca,cc,rfl⟩:=zao h1;obtain ⟨ua,uc,rfl⟩:=zao h2;obtain ⟨aa,ac,rfl⟩:=zag h3;obtain ⟨pa,pc,rfl⟩:=zag h4;simp only [] at *;have EW:=zhd (Ext.refl w);obtain ⟨B,hB⟩:=zdF A w.heap.size 3;have HK:=zhd hB;clear hB;have R0:=zhd ((hs.and hp).widen HK.o.1);obtain ⟨la,lc,rfl⟩:=zao hp.o;obtain ⟨xb,xo,xc,bv,rfl,hx1,hx2,hf,hrest⟩:=zg8 (hb.widen HK.o.1);have HF:=zhd hf;have HB:=zhd hrest;unfold maxLen at hx2;have HWO:=zhd hwo;clear h1 h2 h3 h4 hs hb hp hf hrest hwo;obtain ⟨⟨rc,rt,⟨rk,ra,ro,rn⟩⟩,re,hrr⟩:∃ x y,readRq b=(x,y):=⟨_,_,rfl⟩;have HRR:=zhd hrr;clear hrr;obtain ⟨⟨lc2,lt,⟨le,ln⟩⟩,LB,hL⟩:∃ x y,lastAn sa rc=(x,y):=⟨_,_,rfl⟩;have HL:=zhd hL;clear hL;go_enter Tryz.func99,Tryz.ntmps99
 go_wp2_with (with_reducible refine zT ?_)
 refine zaj rfl 31 (.tmp 0) rfl #[.slice ca sc.length cc,.slice ua su.length uc,.slice aa sa.length ac,.slice pa sp.length pc] rfl (fun b0 w1_ M1=>?_);have zab:=zmb M1;go_wp2_with (with_reducible refine zT ?_)
 refine zaj rfl 41 (.tmp 1) rfl #[I gen,.slice (some ⟨xb,xo,none⟩) (l.length+1) xc,.bool false,I nc,I nt,I nk,I na,I no,I nn,.slice la pl.length lc,I se,I sn] rfl (fun b1 w2_ M2=>?_);have zaw:=zld zab M2;have zad:=zmb M2;go_wp2_with (with_reducible refine zT ?_)
 refine zae rfl 41 zS (by kernel_rfl) (fun b2 w3_ M3=>?_);replace zab:=zmo M2 zab;have zaI:=zld zad M3;have zak:=zmb M3;have za0:=zA0 M1;have zaF:=znb HK za0 (by decide);have za2:=zA1 za0 M1 M2;have zat:=znb HK za2 (by decide);have zaZ:=zob za2;have zcd:=zA1 za2 M2 M3;have zaO:=znb HK zcd (by decide);have zbp:=zob zcd;replace zad:=zmo M3 zad;have c1:=zaa (i:=1) zad.o rfl;replace HF:=zme M3 (zme M2 (zme M1 HF));have cx:=HF.o.o.1;go_wp2_with (first | (with_reducible refine zT ?_) | ((with_reducible refine zsc ?_ ?_); exact rfl))
 unfold Hid;clear c1 cx;replace R0:=zme M3 (zme M2 (zme M1 R0));replace HB:=zme M3 (zme M2 (zme M1 HB));replace EW:=zet (zet (zet EW M1) M2) M3;replace zab:=zmo M3 zab;refine zf0 rfl l.length (fun na nc=>Rd B (fun w=>zas 1 zcc w (.slice na l.length nc) l) w3_) ?_ (fun na' nc' hn=>?_)
 ·by_cases hcap:xc=1
  ·have hl0:l=[]:=List.eq_nil_of_length_eq_zero (by omega);refine ⟨some ⟨xb,xo,none⟩,0,by rw [hl0]; exact Rd.all fun w=>zfm w xb xo 0 (by decide),?_⟩;rw [hl0];subst hcap;go_simp
  ·exact ⟨some ⟨xb,xo+1,none⟩,xc - 1,HB.o,by go_simp; intro h; omega⟩
 replace HB:=zhd hn;clear hn hx1 hx2;go_wp2_with (with_reducible refine zT ?_)
 refine zal rfl 32 (.tmp 18) (.tmp 17) rfl b1 1 rfl [.slice na' l.length nc'] (rfl) zad rfl zlu rfl [I gen,.slice na' l.length nc',.bool false,I nc,I nt,I nk,I na,I no,I nn,.slice la pl.length lc,I se,I sn] rfl (fun w4_ M4=>?_);replace zad:=zwb M4;go_wp2_with fail
 replace HF:=zwr M4 HF zat;have hl:=ziZ bv b w4_ HF.o.o.2;rw [HRR.o] at hl;refine Calls.exts hl (fun wa ea=>?_);clear hl HF;replace zab:=zbx (zwl M4 zab zaw) ea;replace zak:=zbx (zwg M4 zak zaI) ea;replace R0:=zrx (zwr M4 R0 zat) ea;replace HB:=zrx (zwr M4 HB zat) ea;replace EW:=zhd ((zwe M4 EW zaZ).o.trans ea);replace zad:=zbx zad ea;clear ea;go_wp2_with (with_reducible refine zT ?_)
 refine zae rfl 36 #[I 0,I 0,I 0,I 0,I 0,I 0] (by kernel_rfl) (fun b4 w5_ M5=>?_);have zco:=zld zab M5;have zbr:=zld zad M5;have zcR:=zld zak M5;obtain ⟨B1,HB1⟩:=zEx B b4;have zc6:=zNn HB1;have zgp:=zIn HB1;have zee:=zOn M5 EW;have zaJ:=zmb M5;go_wp2_with (with_reducible refine zT ?_)
 refine zac rfl 36 (.tmp 7) (.tmp 22) rfl b4 rfl [I rc,I rt,I rk,I ra,I ro,I rn] (rfl) zaJ rfl zru rfl (fun w6_ M6=>?_);replace zaJ:=zwb M6;replace R0:=zwr M6 (zme M5 (zmd HB1 M5 R0)) zc6;replace HB:=zwr M6 (zme M5 (zmd HB1 M5 HB)) zc6;replace zaF:=znw HB1 zaF;replace zat:=znw HB1 zat;replace zaO:=znw HB1 zaO;replace zab:=zwl M6 (zmo M5 zab) zco;replace zad:=zwl M6 (zmo M5 zad) zbr;replace zak:=zwl M6 (zmo M5 zak) zcR;replace EW:=zwe M6 (zet EW M5) zee;by_cases hre:re=0
 case neg =>
  have hbe:(re != 0)=true:=by simpa using hre
  go_wp2_with (with_reducible refine zT ?_)
  refine zah rfl 41 (.tmp 3) rfl b1 rfl zad zcr zdg (fun v26 H_v26=>?_);go_wp2_with (with_reducible refine zT ?_)
  refine zac rfl 41 (.tmp 4) (.tmp 26) rfl b2 rfl _ (zcv H_v26) zak rfl zdg rfl (fun w7_ M7=>?_);replace zak:=zwb M7;go_wp2
  have z0:=zaq (P:=Tryz.prog) 41 zak.o zcr (by kernel_rfl);refine bodyPost_ret (by simp [results,Tryz.results99,asAddr,z0]; rfl) rfl ?_
  have hX:zaz ⟨sc,su,sa,sp⟩ ⟨gen,(b::l),false,⟨nc,nt,⟨nk,na,no,nn⟩⟩,pl,⟨se,sn⟩⟩=(⟨sc,su,sa,sp⟩,⟨gen,l,false,⟨nc,nt,⟨nk,na,no,nn⟩⟩,pl,⟨se,sn⟩⟩,[],0):=by
   show (if (readRq b).2≠0 then _ else if (lastAn sa (readRq b).1.client).2=true/\(readRq b).1.token<=(lastAn sa (readRq b).1.client).1.token then (if (lastAn sa (readRq b).1.client).1.token=(readRq b).1.token then _ else _) else _)=_
   rw [HRR.o];simp only [];rw [HL.o];rw [if_pos hre]
  have ht:=HT.o;rw [hX] at ht;replace R0:=zwr M7 R0 zaO;replace HB:=zwr M7 HB zaO;replace EW:=zwe M7 EW zbp;exact ⟨_,rfl,EW.o,ht _ _ _ (Rd.widen (A:=B1) (zij (zdL (v:=⟨gen,l,false,⟨nc,nt,⟨nk,na,no,nn⟩⟩,pl,⟨se,sn⟩⟩) HB.o R0.o.right) (Rd.all fun w=>zbf w)) (fun k _ h=>HK.o.2.2.2 k (zgp.o k h)))⟩
 subst hre;go_wp2_with (with_reducible refine zT ?_)
 refine zah rfl 31 (.tmp 2) rfl b0 rfl zab zcX zgh (fun v28 H_v28=>?_);have d0:=zaa (i:=0) zaJ.o rfl;go_wp2_with fail
 clear d0;rw [H_v28.o];have hl:=zmz _ _ _ _ ⟨sc,su,sa,sp⟩ rc w6_ R0.o.left.o;rw [HL.o] at hl;refine Calls.exts hl (fun wl el=>?_);clear hl H_v28;replace zab:=zbx zab el;replace zad:=zbx zad el;replace zak:=zbx zak el;replace zaJ:=zbx zaJ el;replace R0:=zrx R0 el;replace HB:=zrx HB el;replace EW:=zhd (EW.o.trans el);clear el;go_wp2_with (with_reducible refine zT ?_)
 refine zae rfl 97 #[I 0,I 0,I 0,I 0] (by kernel_rfl) (fun b5 w7_ M7=>?_);have zfY:=zld zab M7;have zcQ:=zld zad M7;have zfs:=zld zak M7;have zgk:=zld zaJ M7;obtain ⟨B11,HB11⟩:=zEx B1 b5;have zdM:=zNn HB11;have zjz:=zIn HB11;have zhU:=zOn M7 EW;have zba:=zmb M7;go_wp2_with (with_reducible refine zT ?_)
 refine zac rfl 97 (.tmp 9) (.tmp 32) rfl b5 rfl [I lc2,I lt,I le,I ln] (rfl) zba rfl zoc rfl (fun w8_ M8=>?_);replace zba:=zwb M8;replace zaJ:=zwl M8 (zmo M7 zaJ) zgk;have d1:=zaa (i:=1) zaJ.o rfl;have l1:=zaa (i:=1) zba.o rfl;replace R0:=zwr M8 (zme M7 (zmd HB11 M7 R0)) zdM;replace HB:=zwr M8 (zme M7 (zmd HB11 M7 HB)) zdM;replace zat:=znw HB11 zat;replace zaO:=znw HB11 zaO;replace zab:=zwl M8 (zmo M7 zab) zfY;replace zad:=zwl M8 (zmo M7 zad) zcQ;replace zak:=zwl M8 (zmo M7 zak) zfs;replace EW:=zwe M8 (zet EW M7) zhU;by_cases hq1:LB=true/\lt=rt
 case pos =>
  obtain ⟨rfl,rfl⟩:=hq1;go_wp2_with fail
  clear d1 l1;refine zbk (S:=fun w'=>w'.heap[b1]?=some (.cells #[I gen,.slice na' l.length nc',.bool false,I nc,I nt,I nk,I na,I no,I nn,.slice la pl.length lc,I se,I sn] 41 (0,0))/\w'.heap[b5]?=some (.cells #[I lc2,I lt,I le,I ln] 97 (0,0))) (by kernel_rfl) (fun wd ed _=>?_);replace zad:=zbx zad ed;replace zba:=zbx zba ed;have HSS:Hid (wd.heap[b1]?=some (.cells #[I gen,.slice na' l.length nc',.bool false,I nc,I nt,I nk,I na,I no,I nn,.slice la pl.length lc,I se,I sn] 41 (0,0))/\wd.heap[b5]?=some (.cells #[I lc2,I lt,I le,I ln] 97 (0,0))):=⟨zad.o,zba.o⟩;refine zaM 0 rfl (by kernel_rfl) (by kernel_rfl) (by kernel_rfl) (fun _ _ _ _ h=>h) rfl 41 (.tmp 3) rfl b1 rfl (fun w' hS=>hS.1) zcr (by kernel_rfl) HSS ?_;refine zaf fun K h=>?_; go_simp; refine h _ ?_; clear h K;refine zaM 1 rfl (by kernel_rfl) (by kernel_rfl) (by kernel_rfl) (fun _ _ _ _ h=>h) rfl 97 (.tmp 9) rfl b5 rfl (fun w' hS=>hS.2) zs9 (by kernel_rfl) HSS ?_;refine zaf fun K h=>?_; go_simp; refine h _ ?_; clear h K;refine zc5 2 (by kernel_rfl) rfl rfl 114 #[.agg #[I lc2,I lt,I le,I ln]] (by go_simp) ?_;refine (zjZ lc2 lt le ln wd).mono ?_;rintro e w9 ⟨v45,rfl,ho,e9⟩
  have hby:=zoC (l:=zb1 ⟨lc2,lt,⟨le,ln⟩⟩) rfl ho;clear ho;replace zak:=zbx zak ed;have hsz:w.heap.size+3<=wd.heap.size:=by have q:=(zlt zak); have q2:=zcd.o; omega
  replace zaJ:=zbx zaJ ed;have hz4:b4 < wd.heap.size:=(zlt zaJ);have hz5:b5 < wd.heap.size:=(zlt zba);have HBY:=zhd (hby.widen (B:=B11) (fun k _ h=>(HB11.o k).2 ⟨(HB1.o k).2 ⟨HK.o.2.1 k (by omega),by omega⟩,by omega⟩));clear hby hsz hz4 hz5;clear HSS;replace zad:=zbx zad e9;replace zba:=zbx zba e9;refine ⟨_,rfl,⟨zad.o,zba.o⟩,?_⟩;have HSS:Hid (w9.heap[b1]?=some (.cells #[I gen,.slice na' l.length nc',.bool false,I nc,I nt,I nk,I na,I no,I nn,.slice la pl.length lc,I se,I sn] 41 (0,0))/\w9.heap[b5]?=some (.cells #[I lc2,I lt,I le,I ln] 97 (0,0))):=⟨zad.o,zba.o⟩;refine zaf fun K h=>?_; go_simp; refine h _ ?_; clear h K;replace zab:=zbx (zbx zab ed) e9;replace R0:=zrx (zrx R0 ed) e9;replace HB:=zrx (zrx HB ed) e9;replace EW:=zhd ((zhd (EW.o.trans ed)).o.trans e9);replace zak:=zbx zak e9;replace zaJ:=zbx zaJ e9;refine zaR 3 (by kernel_rfl) rfl rfl 41 (.tmp 4) (.tmp 43) rfl b2 rfl [I gen,.slice na' l.length nc',.bool false,I nc,I nt,I nk,I na,I no,I nn,.slice la pl.length lc,I se,I sn] (rfl) zak rfl (by kernel_rfl) rfl (fun w9_ M9=>⟨?_,?_⟩)
  ·exact ⟨M9.o.old zad.o (Nat.ne_of_lt zaI.o),M9.o.old zba.o (Nat.ne_of_gt zfs.o)⟩
  replace zak:=zwb M9;clear HSS;replace zad:=zwl M9 zad zaI;replace zba:=zwg M9 zba zfs;have HSS:Hid (w9_.heap[b1]?=some (.cells #[I gen,.slice na' l.length nc',.bool false,I nc,I nt,I nk,I na,I no,I nn,.slice la pl.length lc,I se,I sn] 41 (0,0))/\w9_.heap[b5]?=some (.cells #[I lc2,I lt,I le,I ln] 97 (0,0))):=⟨zad.o,zba.o⟩;refine zaf fun K h=>?_; go_simp; refine h _ ?_; clear h K;refine zaE 4 (by kernel_rfl) rfl rfl _ rfl HSS.o ?_;refine zaf fun K h=>?_; go_simp; refine h _ ?_; clear h K;refine wpAnyH_done (by kernel_rfl) ?_ _;clear HSS;go_wp2
  have z0:=zaq (P:=Tryz.prog) 41 zak.o zcr (by kernel_rfl);refine bodyPost_ret (by simp [results,Tryz.results99,asAddr,z0]; rfl) rfl ?_
  have hX:zaz ⟨sc,su,sa,sp⟩ ⟨gen,(b::l),false,⟨nc,nt,⟨nk,na,no,nn⟩⟩,pl,⟨se,sn⟩⟩=(⟨sc,su,sa,sp⟩,⟨gen,l,false,⟨nc,nt,⟨nk,na,no,nn⟩⟩,pl,⟨se,sn⟩⟩,zb1 ⟨lc2,lt,⟨le,ln⟩⟩,0):=by
   show (if (readRq b).2≠0 then _ else if (lastAn sa (readRq b).1.client).2=true/\(readRq b).1.token<=(lastAn sa (readRq b).1.client).1.token then (if (lastAn sa (readRq b).1.client).1.token=(readRq b).1.token then _ else _) else _)=_
   rw [HRR.o];simp only [];rw [HL.o];rw [if_neg (by simp),if_pos ⟨rfl,Int.le_refl _⟩,if_pos rfl]
  have ht:=HT.o;rw [hX] at ht;replace R0:=zwr M9 R0 zaO;replace HB:=zwr M9 HB zaO;replace HBY:=zwr M9 HBY zaO;replace EW:=zwe M9 EW zbp;exact ⟨_,rfl,EW.o,ht _ _ _ (Rd.widen (A:=B11) (zij (zdL (v:=⟨gen,l,false,⟨nc,nt,⟨nk,na,no,nn⟩⟩,pl,⟨se,sn⟩⟩) HB.o R0.o.right) (HBY.o)) (fun k _ h=>HK.o.2.2.2 k (zgp.o k (zjz.o k h))))⟩
 by_cases hq2:LB=true/\rt < lt
 case pos =>
  obtain ⟨rfl,hlt⟩:=hq2;have hb2:(lt == rt)=false:=by simp; omega
  go_wp2_with (with_reducible refine zT ?_)
  clear d1 l1;refine zah rfl 41 (.tmp 3) rfl b1 rfl zad zcr zdg (fun v55 H_v55=>?_);go_wp2_with (with_reducible refine zT ?_)
  refine zac rfl 41 (.tmp 4) (.tmp 55) rfl b2 rfl _ (zcv H_v55) zak rfl zdg rfl (fun w9_ M9=>?_);replace zak:=zwb M9;go_wp2
  have z0:=zaq (P:=Tryz.prog) 41 zak.o zcr (by kernel_rfl);refine bodyPost_ret (by simp [results,Tryz.results99,asAddr,z0]; rfl) rfl ?_
  have hX:zaz ⟨sc,su,sa,sp⟩ ⟨gen,(b::l),false,⟨nc,nt,⟨nk,na,no,nn⟩⟩,pl,⟨se,sn⟩⟩=(⟨sc,su,sa,sp⟩,⟨gen,l,false,⟨nc,nt,⟨nk,na,no,nn⟩⟩,pl,⟨se,sn⟩⟩,[],0):=by
   show (if (readRq b).2≠0 then _ else if (lastAn sa (readRq b).1.client).2=true/\(readRq b).1.token<=(lastAn sa (readRq b).1.client).1.token then (if (lastAn sa (readRq b).1.client).1.token=(readRq b).1.token then _ else _) else _)=_
   rw [HRR.o];simp only [];rw [HL.o];rw [if_neg (by simp),if_pos ⟨rfl,by simp only []; omega⟩,if_neg (by simp only []; omega)]
  have ht:=HT.o;rw [hX] at ht;replace R0:=zwr M9 R0 zaO;replace HB:=zwr M9 HB zaO;replace EW:=zwe M9 EW zbp;exact ⟨_,rfl,EW.o,ht _ _ _ (Rd.widen (A:=B11) (zij (zdL (v:=⟨gen,l,false,⟨nc,nt,⟨nk,na,no,nn⟩⟩,pl,⟨se,sn⟩⟩) HB.o R0.o.right) (Rd.all fun w=>zbf w)) (fun k _ h=>HK.o.2.2.2 k (zgp.o k (zjz.o k h))))⟩
 have hcr:wrongCl ⟨rk,ra,ro,rn⟩=0:=by
  have q:=zj7 (b:=b) (by rw [HRR.o]);rw [HRR.o] at q;exact (zeq q).2
 have HCR:=zhd hcr;clear hcr
 have hsel:LB=false∨(LB=true/\lt < rt):=by
  cases LB
  ·exact .inl rfl
  ·exact .inr ⟨rfl,by have q1:¬ lt=rt:=fun h=>hq1 ⟨rfl,h⟩; have q2:¬ rt < lt:=fun h=>hq2 ⟨rfl,h⟩; omega⟩
 clear hq1 hq2;obtain ⟨de,dn,hD⟩:∃ x y,(zbw (zbR sc) ⟨rk,ra,ro,rn⟩).2=⟨x,y⟩:=⟨_,_,rfl⟩;obtain ⟨PL,hPL⟩:∃ x,zbq (zbR sc) ⟨rk,ra,ro,rn⟩=x:=⟨_,rfl⟩;have HD:=zhd hD;have HPL:=zhd hPL;clear hD hPL;rcases hsel with rfl | ⟨rfl,hns⟩
 ·go_wp2_with fail
  clear d1 l1;refine zbk (S:=fun w'=>w'.heap[b4]?=some (.cells #[I rc,I rt,I rk,I ra,I ro,I rn] 36 (0,0))) (by kernel_rfl) (fun wd ed _=>?_);replace zaJ:=zbx zaJ ed;have HSS:Hid (wd.heap[b4]?=some (.cells #[I rc,I rt,I rk,I ra,I ro,I rn] 36 (0,0))):=zaJ.o;refine zaM 0 rfl (by kernel_rfl) (by kernel_rfl) (by kernel_rfl) (fun _ _ _ _ h=>h) rfl 36 (.tmp 7) rfl b4 rfl (fun w' hS=>hS) zn6 (by kernel_rfl) HSS ?_;refine zaf fun K h=>?_; go_simp; refine h _ ?_; clear h K;refine zar 1 rfl (by kernel_rfl) (by kernel_rfl) (by kernel_rfl) (fun _ _ _ _ h=>h) rfl HSS.o (fun K hK=>?_); go_simp; refine hK _ ?_; clear hK K;replace zab:=zbx zab ed;replace zad:=zbx zad ed;replace zak:=zbx zak ed;replace zba:=zbx zba ed;replace R0:=zrx R0 ed;replace HB:=zrx HB ed;replace EW:=zhd (EW.o.trans ed);refine zbL 2 (by kernel_rfl) rfl rfl 4 (.tmp 57) (.const (.bool true)) rfl b1 2 rfl [.bool true] (rfl) zad.o (Nat.le_of_ble_eq_true rfl) (by kernel_rfl) (zbC rfl) #[I gen,.slice na' l.length nc',.bool true,I nc,I nt,I nk,I na,I no,I nn,.slice la pl.length lc,I se,I sn] ((zcm _ _ _ (Nat.le_of_ble_eq_true rfl)).trans rfl) (fun w9_ M9=>⟨?_,?_⟩)
  ·exact M9.o.old zaJ.o (Nat.ne_of_gt zbr.o)
  replace zad:=zwb M9;clear HSS;replace zaJ:=zwg M9 zaJ zbr;have HSS:Hid (w9_.heap[b4]?=some (.cells #[I rc,I rt,I rk,I ra,I ro,I rn] 36 (0,0))):=zaJ.o;refine zaf fun K h=>?_; go_simp; refine h _ ?_; clear h K;refine zar 3 rfl (by kernel_rfl) (by kernel_rfl) (by kernel_rfl) (fun _ _ _ _ h=>h) rfl HSS.o (fun K hK=>?_); go_simp; refine hK _ ?_; clear hK K;replace zab:=zwl M9 zab zaw;replace zak:=zwg M9 zak zaI;replace zba:=zwg M9 zba zcQ;replace R0:=zwr M9 R0 zat;replace HB:=zwr M9 HB zat;replace EW:=zwe M9 EW zaZ;refine zbL 4 (by kernel_rfl) rfl rfl 36 (.tmp 58) (.tmp 56) rfl b1 3 rfl [I rc,I rt,I rk,I ra,I ro,I rn] (rfl) zad.o (Nat.le_of_ble_eq_true rfl) (by kernel_rfl) (zbC rfl) #[I gen,.slice na' l.length nc',.bool true,I rc,I rt,I rk,I ra,I ro,I rn,.slice la pl.length lc,I se,I sn] ((zcm _ _ _ (Nat.le_of_ble_eq_true rfl)).trans rfl) (fun w10_ M10=>⟨?_,?_⟩)
  ·exact M10.o.old zaJ.o (Nat.ne_of_gt zbr.o)
  replace zad:=zwb M10;clear HSS;replace zaJ:=zwg M10 zaJ zbr;have HSS:Hid (w10_.heap[b4]?=some (.cells #[I rc,I rt,I rk,I ra,I ro,I rn] 36 (0,0))):=zaJ.o;refine zaf fun K h=>?_; go_simp; refine h _ ?_; clear h K;refine wpAnyH_done (by kernel_rfl) ?_ _;clear HSS;replace zab:=zwl M10 zab zaw;have s0:=zaa (i:=0) zab.o rfl;have d2:=zaa (i:=2) zaJ.o rfl;have d3:=zaa (i:=3) zaJ.o rfl;have d4:=zaa (i:=4) zaJ.o rfl;have d5:=zaa (i:=5) zaJ.o rfl;go_wp2_with fail
  clear s0 d2 d3 d4 d5;replace R0:=zwr M10 R0 zat;refine (zk5 _ sc rk ra ro rn w10_ (zcK.1 R0.o.left.o).1 HWO.o HCR.o).mono ?_;rintro e w9 ⟨⟨uu,rfl,hu⟩,e9⟩
  replace hu:Has w10_.heap.size w9 uu (zbq (zbR sc) ⟨rk,ra,ro,rn⟩):=hu;rw [HPL.o] at hu;obtain ⟨ua',uc',rfl⟩:=zao hu.writes;rw [show (zbw (zaN sc (sc.getD 0 0).toNat) ⟨rk,ra,ro,rn⟩).2=⟨de,dn⟩ from HD.o];replace zak:=zwg M10 zak zaI;have hsz:w.heap.size+3<=w10_.heap.size:=by have q:=(zlt zak); have q2:=zcd.o; omega
  have hz4:b4 < w10_.heap.size:=(zlt zaJ);replace zba:=zwg M10 zba zcQ;have hz5:b5 < w10_.heap.size:=(zlt zba);have HPN:=zhd (hu.rd.widen (B:=B11) (fun k _ h=>(HB11.o k).2 ⟨(HB1.o k).2 ⟨HK.o.2.1 k (by omega),by omega⟩,by omega⟩));clear hu hsz hz4 hz5;go_wp2_with (with_reducible refine zT ?_)
  replace zad:=zbx zad e9;refine zal rfl 27 (.tmp 67) (.tmp 65) rfl b1 9 rfl [.slice ua' PL.length uc'] (rfl) zad rfl zng rfl [I gen,.slice na' l.length nc',.bool true,I rc,I rt,I rk,I ra,I ro,I rn,.slice ua' PL.length uc',I se,I sn] rfl (fun w11_ M11=>?_);replace zad:=zwb M11;go_wp2_with (with_reducible refine zT ?_)
  refine zal rfl 39 (.tmp 68) (.tmp 66) rfl b1 10 rfl [I de,I dn] (rfl) zad rfl zrY rfl [I gen,.slice na' l.length nc',.bool true,I rc,I rt,I rk,I ra,I ro,I rn,.slice ua' PL.length uc',I de,I dn] rfl (fun w12_ M12=>?_);replace zad:=zwb M12;go_wp2_with (with_reducible refine zT ?_)
  refine zah rfl 41 (.tmp 3) rfl b1 rfl zad zcr zdg (fun v69 H_v69=>?_);go_wp2_with (with_reducible refine zT ?_)
  replace zak:=zwg M12 (zwg M11 (zbx zak e9) zaI) zaI;refine zac rfl 41 (.tmp 4) (.tmp 69) rfl b2 rfl _ (zcv H_v69) zak rfl zdg rfl (fun w13_ M13=>?_);replace zak:=zwb M13;go_wp2
  have z0:=zaq (P:=Tryz.prog) 41 zak.o zcr (by kernel_rfl);refine bodyPost_ret (by simp [results,Tryz.results99,asAddr,z0]; rfl) rfl ?_
  have hX:zaz ⟨sc,su,sa,sp⟩ ⟨gen,(b::l),false,⟨nc,nt,⟨nk,na,no,nn⟩⟩,pl,⟨se,sn⟩⟩=(⟨sc,su,sa,sp⟩,⟨gen,l,true,⟨rc,rt,⟨rk,ra,ro,rn⟩⟩,PL,⟨de,dn⟩⟩,[],0):=by
   show (if (readRq b).2≠0 then _ else if (lastAn sa (readRq b).1.client).2=true/\(readRq b).1.token<=(lastAn sa (readRq b).1.client).1.token then (if (lastAn sa (readRq b).1.client).1.token=(readRq b).1.token then _ else _) else _)=_
   rw [HRR.o];simp only [];rw [HL.o];rw [if_neg (by simp),if_neg (fun h=>by cases h.1),HPL.o,HD.o]
  have ht:=HT.o;rw [hX] at ht;replace HB:=zwr M13 (zwr M12 (zwr M11 (zrx (zwr M10 HB zat) e9) zat) zat) zaO;replace EW:=zwe M13 (zwe M12 (zwe M11 (zhd ((zwe M10 EW zaZ).o.trans e9)) zaZ) zaZ) zbp;replace HPN:=zwr M13 (zwr M12 (zwr M11 HPN zat) zat) zaO;exact ⟨_,rfl,EW.o,ht _ _ _ (Rd.widen (A:=B11) (zij (zdL (v:=⟨gen,l,true,⟨rc,rt,⟨rk,ra,ro,rn⟩⟩,PL,⟨de,dn⟩⟩) HB.o HPN.o) (Rd.all fun w=>zbf w)) (fun k _ h=>HK.o.2.2.2 k (zgp.o k (zjz.o k h))))⟩
 ·have hb2:(lt == rt)=false:=by simp; omega
  go_wp2_with fail
  clear d1 l1;refine zbk (S:=fun w'=>w'.heap[b4]?=some (.cells #[I rc,I rt,I rk,I ra,I ro,I rn] 36 (0,0))) (by kernel_rfl) (fun wd ed _=>?_);replace zaJ:=zbx zaJ ed;have HSS:Hid (wd.heap[b4]?=some (.cells #[I rc,I rt,I rk,I ra,I ro,I rn] 36 (0,0))):=zaJ.o;refine zaM 0 rfl (by kernel_rfl) (by kernel_rfl) (by kernel_rfl) (fun _ _ _ _ h=>h) rfl 36 (.tmp 7) rfl b4 rfl (fun w' hS=>hS) zn6 (by kernel_rfl) HSS ?_;refine zaf fun K h=>?_; go_simp; refine h _ ?_; clear h K;refine zar 1 rfl (by kernel_rfl) (by kernel_rfl) (by kernel_rfl) (fun _ _ _ _ h=>h) rfl HSS.o (fun K hK=>?_); go_simp; refine hK _ ?_; clear hK K;replace zab:=zbx zab ed;replace zad:=zbx zad ed;replace zak:=zbx zak ed;replace zba:=zbx zba ed;replace R0:=zrx R0 ed;replace HB:=zrx HB ed;replace EW:=zhd (EW.o.trans ed);refine zbL 2 (by kernel_rfl) rfl rfl 4 (.tmp 57) (.const (.bool true)) rfl b1 2 rfl [.bool true] (rfl) zad.o (Nat.le_of_ble_eq_true rfl) (by kernel_rfl) (zbC rfl) #[I gen,.slice na' l.length nc',.bool true,I nc,I nt,I nk,I na,I no,I nn,.slice la pl.length lc,I se,I sn] ((zcm _ _ _ (Nat.le_of_ble_eq_true rfl)).trans rfl) (fun w9_ M9=>⟨?_,?_⟩)
  ·exact M9.o.old zaJ.o (Nat.ne_of_gt zbr.o)
  replace zad:=zwb M9;clear HSS;replace zaJ:=zwg M9 zaJ zbr;have HSS:Hid (w9_.heap[b4]?=some (.cells #[I rc,I rt,I rk,I ra,I ro,I rn] 36 (0,0))):=zaJ.o;refine zaf fun K h=>?_; go_simp; refine h _ ?_; clear h K;refine zar 3 rfl (by kernel_rfl) (by kernel_rfl) (by kernel_rfl) (fun _ _ _ _ h=>h) rfl HSS.o (fun K hK=>?_); go_simp; refine hK _ ?_; clear hK K;replace zab:=zwl M9 zab zaw;replace zak:=zwg M9 zak zaI;replace zba:=zwg M9 zba zcQ;replace R0:=zwr M9 R0 zat;replace HB:=zwr M9 HB zat;replace EW:=zwe M9 EW zaZ;refine zbL 4 (by kernel_rfl) rfl rfl 36 (.tmp 58) (.tmp 56) rfl b1 3 rfl [I rc,I rt,I rk,I ra,I ro,I rn] (rfl) zad.o (Nat.le_of_ble_eq_true rfl) (by kernel_rfl) (zbC rfl) #[I gen,.slice na' l.length nc',.bool true,I rc,I rt,I rk,I ra,I ro,I rn,.slice la pl.length lc,I se,I sn] ((zcm _ _ _ (Nat.le_of_ble_eq_true rfl)).trans rfl) (fun w10_ M10=>⟨?_,?_⟩)
  ·exact M10.o.old zaJ.o (Nat.ne_of_gt zbr.o)
  replace zad:=zwb M10;clear HSS;replace zaJ:=zwg M10 zaJ zbr;have HSS:Hid (w10_.heap[b4]?=some (.cells #[I rc,I rt,I rk,I ra,I ro,I rn] 36 (0,0))):=zaJ.o;refine zaf fun K h=>?_; go_simp; refine h _ ?_; clear h K;refine wpAnyH_done (by kernel_rfl) ?_ _;clear HSS;replace zab:=zwl M10 zab zaw;have s0:=zaa (i:=0) zab.o rfl;have d2:=zaa (i:=2) zaJ.o rfl;have d3:=zaa (i:=3) zaJ.o rfl;have d4:=zaa (i:=4) zaJ.o rfl;have d5:=zaa (i:=5) zaJ.o rfl;go_wp2_with fail
  clear s0 d2 d3 d4 d5;replace R0:=zwr M10 R0 zat;refine (zk5 _ sc rk ra ro rn w10_ (zcK.1 R0.o.left.o).1 HWO.o HCR.o).mono ?_;rintro e w9 ⟨⟨uu,rfl,hu⟩,e9⟩
  replace hu:Has w10_.heap.size w9 uu (zbq (zbR sc) ⟨rk,ra,ro,rn⟩):=hu;rw [HPL.o] at hu;obtain ⟨ua',uc',rfl⟩:=zao hu.writes;rw [show (zbw (zaN sc (sc.getD 0 0).toNat) ⟨rk,ra,ro,rn⟩).2=⟨de,dn⟩ from HD.o];replace zak:=zwg M10 zak zaI;have hsz:w.heap.size+3<=w10_.heap.size:=by have q:=(zlt zak); have q2:=zcd.o; omega
  have hz4:b4 < w10_.heap.size:=(zlt zaJ);replace zba:=zwg M10 zba zcQ;have hz5:b5 < w10_.heap.size:=(zlt zba);have HPN:=zhd (hu.rd.widen (B:=B11) (fun k _ h=>(HB11.o k).2 ⟨(HB1.o k).2 ⟨HK.o.2.1 k (by omega),by omega⟩,by omega⟩));clear hu hsz hz4 hz5;go_wp2_with (with_reducible refine zT ?_)
  replace zad:=zbx zad e9;refine zal rfl 27 (.tmp 67) (.tmp 65) rfl b1 9 rfl [.slice ua' PL.length uc'] (rfl) zad rfl zng rfl [I gen,.slice na' l.length nc',.bool true,I rc,I rt,I rk,I ra,I ro,I rn,.slice ua' PL.length uc',I se,I sn] rfl (fun w11_ M11=>?_);replace zad:=zwb M11;go_wp2_with (with_reducible refine zT ?_)
  refine zal rfl 39 (.tmp 68) (.tmp 66) rfl b1 10 rfl [I de,I dn] (rfl) zad rfl zrY rfl [I gen,.slice na' l.length nc',.bool true,I rc,I rt,I rk,I ra,I ro,I rn,.slice ua' PL.length uc',I de,I dn] rfl (fun w12_ M12=>?_);replace zad:=zwb M12;go_wp2_with (with_reducible refine zT ?_)
  refine zah rfl 41 (.tmp 3) rfl b1 rfl zad zcr zdg (fun v69 H_v69=>?_);go_wp2_with (with_reducible refine zT ?_)
  replace zak:=zwg M12 (zwg M11 (zbx zak e9) zaI) zaI;refine zac rfl 41 (.tmp 4) (.tmp 69) rfl b2 rfl _ (zcv H_v69) zak rfl zdg rfl (fun w13_ M13=>?_);replace zak:=zwb M13;go_wp2
  have z0:=zaq (P:=Tryz.prog) 41 zak.o zcr (by kernel_rfl);refine bodyPost_ret (by simp [results,Tryz.results99,asAddr,z0]; rfl) rfl ?_
  have hX:zaz ⟨sc,su,sa,sp⟩ ⟨gen,(b::l),false,⟨nc,nt,⟨nk,na,no,nn⟩⟩,pl,⟨se,sn⟩⟩=(⟨sc,su,sa,sp⟩,⟨gen,l,true,⟨rc,rt,⟨rk,ra,ro,rn⟩⟩,PL,⟨de,dn⟩⟩,[],0):=by
   show (if (readRq b).2≠0 then _ else if (lastAn sa (readRq b).1.client).2=true/\(readRq b).1.token<=(lastAn sa (readRq b).1.client).1.token then (if (lastAn sa (readRq b).1.client).1.token=(readRq b).1.token then _ else _) else _)=_
   rw [HRR.o];simp only [];rw [HL.o];rw [if_neg (by simp),if_neg (fun h=>by have q:=h.2; simp only [] at q; omega),HPL.o,HD.o]
  have ht:=HT.o;rw [hX] at ht;replace HB:=zwr M13 (zwr M12 (zwr M11 (zrx (zwr M10 HB zat) e9) zat) zat) zaO;replace EW:=zwe M13 (zwe M12 (zwe M11 (zhd ((zwe M10 EW zaZ).o.trans e9)) zaZ) zaZ) zbp;replace HPN:=zwr M13 (zwr M12 (zwr M11 HPN zat) zat) zaO;exact ⟨_,rfl,EW.o,ht _ _ _ (Rd.widen (A:=B11) (zij (zdL (v:=⟨gen,l,true,⟨rc,rt,⟨rk,ra,ro,rn⟩⟩,PL,⟨de,dn⟩⟩) HB.o HPN.o) (Rd.all fun w=>zbf w)) (fun k _ h=>HK.o.2.2.2 k (zgp.o k (zjz.o k h))))⟩

open Go.RowKit Go.Mk

theorem zsE {w:World} (e:TypeId) (r:Rq):Row (w.alloc (.cells #[I r.client,I r.token,I r.call.kind,I r.call.name,I r.call.other,I r.call.n] e)) 6 (.slice (some ⟨w.heap.size,0,none⟩) 1 1) 1 (zbE [r]) :=
 Row.of_owns (World.ownsRow_lit (base:=0) (e:=e) (size:=6) w #[I r.client,I r.token,I r.call.kind,I r.call.name,I r.call.other,I r.call.n] 1 (Nat.zero_le _) (by decide) rfl)

theorem zoM {w:World} {base e size n:Nat} {v:Value} {xs:List Value} (h:w.ownsRow base e size v n xs):∀ k,v.ownBlock=some k->base<=k:=fun k hk=>(h.lt k hk).1

theorem zot (c u a p:Value) (s:St) (rc rt rk ra ro rn x n:Int) (w:World) (h:zcn w [c,u,a,p] s) (hs:zj3 s) :
  zaK Tryz.prog 97 #[.agg #[c,u,a,p],.agg #[I rc,I rt,I rk,I ra,I ro,I rn],.agg #[I x,I n]] w (fun _=>False) (fun r w'=>Agg zcn (zb3 s ⟨rc,rt,⟨rk,ra,ro,rn⟩⟩ ⟨x,n⟩) r w'):=by
 unfold zaK;have HS:=zhd hs;clear hs;have HE:=zhd h;clear h;obtain ⟨i0,hi,hz0,hz1,hz2⟩:=info_parts Tryz.infoRequest;have HI:=zhd hi;clear hi;have e0:Ext w ((((w.alloc (.cells #[c,u,a,p] 31)).alloc (.cells #[I rc,I rt,I rk,I ra,I ro,I rn] 36)).alloc (.cells #[I x,I n] 39)).alloc (.cells zT4 31)):=((((Ext.refl w).alloc _).alloc _).alloc _).alloc _;have HB:=zhd (fun wx (h:Ext ((((w.alloc (.cells #[c,u,a,p] 31)).alloc (.cells #[I rc,I rt,I rk,I ra,I ro,I rn] 36)).alloc (.cells #[I x,I n] 39)).alloc (.cells zT4 31)) wx)=>(zlP h).2);have hsz:((((w.alloc (.cells #[c,u,a,p] 31)).alloc (.cells #[I rc,I rt,I rk,I ra,I ro,I rn] 36)).alloc (.cells #[I x,I n] 39)).alloc (.cells zT4 31)).heap.size=w.heap.size+4:=by simp
 have HSZ:=zhd hsz;clear hsz;go_enter Tryz.func97,Tryz.ntmps97
 go_wp2_with fail
 generalize hw0:(((w.alloc (.cells #[c,u,a,p] 31)).alloc (.cells #[I rc,I rt,I rk,I ra,I ro,I rn] 36)).alloc (.cells #[I x,I n] 39)).alloc (.cells zT4 31)=w0 at *;clear hw0;refine (zig c u a p s w0 (zf2 _ _ _ _ e0 HE.o) HS.o).to fun r w1 e1 hr=>?_;obtain ⟨c',u',a',p',rfl,ho⟩:=hr;obtain ⟨ka,kc,hk0⟩:=za4 ho.cells;obtain ⟨la,lc,hk1⟩:=za4 ho.undo
 obtain ⟨ma,mc,hk2⟩:=za4 ho.answers;obtain ⟨na,nc,hk3⟩:=za4 ho.past;subst hk0 hk1 hk2 hk3;have hle:=e1.size;have hz0':=HSZ.o;have HLE:=zhd hle;have HZ0:=zhd hz0';have HO:=zhd (ho.low (Nat.le_add_right w0.heap.size 2));clear ho;have hng:∀ {e size m:Nat} {v:Value} {xs:List Value},w1.ownsRow (w0.heap.size) e size v m xs->v.ownBlock≠some w1.heap.size:=fun h e=>by have:=(h.lt _ e).2; omega
 have HNG:=zhd (And.intro (hng HO.o.cells) (And.intro (hng HO.o.answers) (hng HO.o.past)));clear hng;obtain ⟨t1,t2,t3⟩:=HB.o _ (e1.alloc (.cells #[(.slice ka s.cells.length kc),(.slice la s.undo.length lc),(.slice ma s.answers.length mc),(.slice na s.past.length nc)] 31));have T1:=zhd t1;have T2:=zhd t2;have T3:=zhd t3;have B3:=zhd (heap_alloc_new w1 (.cells #[(.slice ka s.cells.length kc),(.slice none 0 0),(.slice ma s.answers.length mc),(.slice na s.past.length nc)] 31));have hn1:¬ (w1.heap.size=w.heap.size+1):=by omega
 have hn1':¬ (w.heap.size+1=w1.heap.size):=by omega
 have hn2:¬ (w1.heap.size=w.heap.size+1+1):=by omega
 have hn2':¬ (w.heap.size+1+1=w1.heap.size):=by omega
 obtain ⟨t1,t2,t3⟩:=HB.o _ (e1.alloc (.cells #[(.slice ka s.cells.length kc),(.slice none 0 0),(.slice ma s.answers.length mc),(.slice na s.past.length nc)] 31));have T1:=zhd t1;have T2:=zhd t2;have T3:=zhd t3;clear hle hz0';obtain ⟨⟨r0,r1,r2,r3,r4,r5⟩,-⟩:=box6 T1.o;clear t1 t2 t3;go_wp2_with (at_builtin; refine zbG ?_)
 unfold Hid;clear r0 r1 r2 r3 r4 r5;have hlit:=zsE (w:=w1.alloc (.cells #[(.slice ka s.cells.length kc),(.slice none 0 0),(.slice ma s.answers.length mc),(.slice na s.past.length nc)] 31)) 36 ⟨rc,rt,⟨rk,ra,ro,rn⟩⟩;rw [show (w1.alloc (.cells #[(.slice ka s.cells.length kc),(.slice none 0 0),(.slice ma s.answers.length mc),(.slice na s.past.length nc)] 31)).heap.size=w1.heap.size+1 by simp] at hlit;have ea:=((Ext.refl w1).alloc (.cells #[(.slice ka s.cells.length kc),(.slice none 0 0),(.slice ma s.answers.length mc),(.slice na s.past.length nc)] 31)).alloc (.cells #[I rc,I rt,I rk,I ra,I ro,I rn] 36);have hsA:((w1.alloc (.cells #[(.slice ka s.cells.length kc),(.slice none 0 0),(.slice ma s.answers.length mc),(.slice na s.past.length nc)] 31)).alloc (.cells #[I rc,I rt,I rk,I ra,I ro,I rn] 36)).heap.size=w1.heap.size+2:=by simp
 have bA:=zb2 B3.o ((Ext.refl _).alloc (.cells #[I rc,I rt,I rk,I ra,I ro,I rn] 36));have uA:=zb2 T1.o ((Ext.refl _).alloc (.cells #[I rc,I rt,I rk,I ra,I ro,I rn] 36));have vA:=zb2 T2.o ((Ext.refl _).alloc (.cells #[I rc,I rt,I rk,I ra,I ro,I rn] 36));have zA:=zb2 T3.o ((Ext.refl _).alloc (.cells #[I rc,I rt,I rk,I ra,I ro,I rn] 36));refine zaA _ rfl (.tmp 12) (.tmp 14) 29 rfl (w0.heap.size) 36 i0 (.agg #[.int .i64 0,.int .i64 0,.int .i64 0,.int .i64 0,.int .i64 0,.int .i64 0]) 6 48 zn1 HI.o hz0 hz1 hz2 rfl (by decide) (.slice na s.past.length nc) s.past.length (zbE s.past) rfl (zam HO.o.past ea) _ rfl 1 _ hlit (zel _) (by have:=HS.o.2.2.2; omega) (by decide) (by have:=HLE.o; rw [hsA]; omega) ?_;intro v15 w2 ho2 hg2;rw [<- zfw] at ho2;clear hlit;have hP:=HNG.o.2.2;have hPs:=zoM HO.o.past;have hz0':=HZ0.o;have oc:=(zam HO.o.cells ea).kept hg2 (zd4 (zam HO.o.cells ea) (zam HO.o.past ea) (by decide));have oa:=(zam HO.o.answers ea).kept hg2 (zd4 (zam HO.o.answers ea) (zam HO.o.past ea) (by decide));have b2:=zep hg2 bA hP;have u2:=zep hg2 uA (fun e=>by have:=hPs _ e; omega);have v2:=zep hg2 vA (fun e=>by have:=hPs _ e; omega);have z2:=zep hg2 zA (fun e=>by have:=hPs _ e; omega);have ew:Ext w w2:=((e0.trans e1).trans ea).grown hg2 (fun k e=>by have:=hPs _ e; omega);have hle2:=hg2.size;rw [hsA] at hle2;clear bA uA vA zA ea hsA hg2 hP hPs hz0';have hnv:v15.ownBlock≠some w1.heap.size:=zbc ho2 b2 (by decide);obtain ⟨va,vc,hvs⟩:=za4 ho2;subst hvs;have OC:=zhd (zbs oc HNG.o.1 3 (.slice va (s.past.length+1) vc));have OA:=zhd (zbs oa HNG.o.2.1 3 (.slice va (s.past.length+1) vc));have OP:=zhd (zbs ho2 hnv 3 (.slice va (s.past.length+1) vc));have hz0':=HZ0.o;have EW:=zhd (ew.setCell (p:=⟨w1.heap.size,3,none⟩) (by have:=HLE.o; show w.heap.size<=w1.heap.size; omega) (.slice va (s.past.length+1) vc))
 have BB:Hid ((w2.setCell ⟨w1.heap.size,3,none⟩ (.slice va (s.past.length+1) vc)).heap[w1.heap.size]?=some (.cells #[(.slice ka s.cells.length kc),(.slice none 0 0),(.slice ma s.answers.length mc),.slice va (s.past.length+1) vc] 31 (0,0))):=by
  have:=heap_setCell_same _ _ 3 _ _ (.slice va (s.past.length+1) vc) b2;unfold Hid;simpa using this
 have ZZ:=zhd (zcP (i:=3) (x:=.slice va (s.past.length+1) vc) z2 (show w.heap.size+1+1+1≠w1.heap.size by have:=HLE.o; omega));have HLE2:=zhd hle2;obtain ⟨⟨r0,r1,r2,r3,r4,r5⟩,-⟩:=box6 u2;obtain ⟨s0,s1,-⟩:=box2 v2;obtain ⟨x0,x1,x2,x3,f0,f1,f2,f3⟩:=zb4 b2;clear oc oa ho2 b2 u2 v2 z2 ew hle2 hz0' hnv;go_wp2_with fail
 clear r0 r1 r2 r3 r4 r5 s0 s1 x0 x1 x2 x3 f0 f1 f2 f3
 have hbase:w0.heap.size<=(w2.setCell ⟨w1.heap.size,3,none⟩ (.slice va (s.past.length+1) vc)).heap.size:=by
  have h1:=HLE.o;have h2:=HLE2.o;simp;omega
 generalize hw3:w2.setCell ⟨w1.heap.size,3,none⟩ (.slice va (s.past.length+1) vc)=w3 at *;clear hw3;refine (zro (.slice ma s.answers.length mc) s.answers rc rt x n (w0.heap.size) w3 OA.o (by have:=HS.o.2.2.1; omega) hbase).mono ?_;rintro e w4 ⟨r25,rfl,ho4,hg4⟩
 have hPs:=zoM OA.o;have hz0':=HZ0.o;have oc:=OC.o.kept hg4 (zd4 OC.o OA.o (by decide));have op:=OP.o.kept hg4 (zd4 OP.o OA.o (by decide));have b4:=zep hg4 BB.o HNG.o.2.1;have z4:=zep hg4 ZZ.o (fun e=>by have:=hPs _ e; omega);have ew:Ext w w4:=EW.o.grown hg4 (fun k e=>by have:=hPs _ e; omega);have hnr:r25.ownBlock≠some w1.heap.size:=zbc ho4 b4 (by decide);have hnp:(Value.slice va (s.past.length+1) vc).ownBlock≠some w1.heap.size:=zbc op b4 (by decide);obtain ⟨qa,qc,hqs⟩:=za4 ho4;subst hqs;generalize hM:(zci s.answers ⟨rc,rt,⟨x,n⟩⟩).length=M at *;have OC2:=zhd (zbs oc HNG.o.1 2 (.slice qa M qc));have OA2:=zhd (zbs ho4 hnr 2 (.slice qa M qc));have OP2:=zhd (zbs op hnp 2 (.slice qa M qc));have hn3:¬ (w1.heap.size=w.heap.size+1+1+1):=by have:=HLE.o; omega
 have hn3':¬ (w.heap.size+1+1+1=w1.heap.size):=by have:=HLE.o; omega
 have EW4:=zhd ew;clear oc op ho4 hg4 hPs hz0' hnr hnp ew hbase OC OA OP;obtain ⟨x0,x1,x2,x3,f0,f1,f2,f3⟩:=zb4 b4;obtain ⟨y0,y1,y2,y3,g0,g1,g2,g3⟩:=zb4 z4;go_wp2_with fail
 clear x0 x1 x2 x3 f0 f1 f2 f3 y0 y1 y2 y3 g0 g1 g2 g3;have d4:=set4 (zcP (i:=2) (x:=.slice qa M qc) z4 hn3') (.slice ka s.cells.length kc) (.slice none 0 0) (.slice qa M qc) (.slice va (s.past.length+1) vc);obtain ⟨q0,q1,q2,q3,-⟩:=zb4 d4;have hle:=HLE.o;have hz0':=HZ0.o;have m2:=zcj (EW4.o.setCell (p:=⟨w1.heap.size,2,none⟩) (by show w.heap.size<=w1.heap.size; omega) (.slice qa M qc)) (b:=w.heap.size+1+1+1) (by omega) (.slice ka s.cells.length kc) (.slice none 0 0) (.slice qa M qc) (.slice va (s.past.length+1) vc);have n3:¬ (w0.heap.size<=w.heap.size+1+1+1):=by omega
 refine bodyPost_ret (by simp [results,Tryz.results97,go_sem,q0,q1,q2,q3]; rfl) rfl ?_;refine ⟨_,rfl,m2,Rd.widen (A:=fun k=>w0.heap.size<=k) (zca (zdJ (s:=zb3 s ⟨rc,rt,⟨rk,ra,ro,rn⟩⟩ ⟨x,n⟩) ?_ ?_ ?_ ?_)) (fun k _ h=>.inr (by omega))⟩
 ·exact (zeb OC2.o).set4 n3 _ _ _ _
 ·exact Rd.all fun w=>zbu w
 ·exact (zes OA2.o).set4 n3 _ _ _ _
 ·exact (zhR OP2.o).set4 n3 _ _ _ _

end Go.Proofs.YtdmipnnfoolelafGreat
