/- Texts of the proof, merged: V4. -/
import Derived.Test.YtikbhmnjlmbeeaeGreatKOA
import Derived.Test.YtikbhmnjlmbeeaeGreatKOY
import Derived.Test.YtikbhmnjlmbeeaeGreatKOZ
import Derived.Test.YtikbhmnjlmbeeaeGreatKOK
import Derived.Test.YtikbhmnjlmbeeaeGreatKOL
import Derived.Test.YtikbhmnjlmbeeaeGreatKOA3
import Derived.Test.YtikbhmnjlmbeeaeGreatKOV
import Derived.Test.YtikbhmnjlmbeeaeGreatKOG
set_option maxHeartbeats 4000000
set_option maxRecDepth 100000

namespace Go.Proofs.YtikbhmnjlmbeeaeGreat
open Go.RowKit Go.Mk

def zn5 (v : Sv) (b : List UInt8) (r : Value) (w : World) : Prop:=∃ (ds : List Value) (bv : Value),r = .tuple #[.agg ds.toArray,bv] /\ zgH w ds v /\ zbb w bv b
theorem zpf {v : Sv} {b : List UInt8} {r : Value} {A : Nat -> Prop} {w : World} (h : Rd A (zn5 v b r) w) : ∃ (ds : List Value) (bv : Value),r = .tuple #[.agg ds.toArray,bv] /\ Rd A (fun w=>zgH w ds v) w /\ Rd A (fun w=>zbb w bv b) w:=by
 obtain ⟨ds,bv,e1,h1,h2⟩:=h.o
 have key : ∀ w',zn5 v b r w' -> zgH w' ds v /\ zbb w' bv b:=fun w' hw=>by
  obtain ⟨ds',bv',e1',h3,h4⟩:=hw
  rw [e1] at e1'
  simp only [Value.tuple.injEq,Array.mk.injEq,List.cons.injEq,Value.agg.injEq,and_true] at e1'
  obtain ⟨q1,q2⟩:=e1'
  have q1 : ds = ds':=by simpa using q1
  subst q1 q2
  exact ⟨h3,h4⟩
 exact ⟨ds,bv,e1,h.imp fun w' hw=>(key w' hw).1,h.imp fun w' hw=>(key w' hw).2⟩
theorem zg0 {v : Sv} {b : List UInt8} {ds : List Value} {bv : Value} {A : Nat -> Prop} {w : World} (h2 : Rd A (fun w=>zgH w ds v) w) (h3 : Rd A (fun w=>zbb w bv b) w) : Rd A (zn5 v b (.tuple #[.agg ds.toArray,bv])) w :=
 (h2.and h3).imp fun _ h=>⟨ds,bv,rfl,h.1,h.2⟩
theorem zmD {base : Nat} {w : World} {v : Value} {l : List UInt8} {n : Nat} (hn : l.length = n) (h : w.ownsRow base 5 1 v n (l.map U)) : Rd (fun k=>base <= k) (fun w=>zbb w v l) w:=by
 subst hn
 exact zdG h

theorem zlU (c u a p : Value) (s : St) (n : Int) (w : World) (h : zcf w [c,u,a,p] s) :
  zaR Tryz.prog 90 #[.agg #[c,u,a,p],I n] w (fun _=>False) (fun r w'=>zbb w' r (zch (lastAn s.answers n).1)):=by
 unfold zaR;obtain ⟨h1,h2,h3,h4⟩:=zcO.1 h;obtain ⟨ca,cc,rfl⟩:=zan h1;obtain ⟨ua,uc,rfl⟩:=zan h2;obtain ⟨aa,ac,rfl⟩:=zaf h3;obtain ⟨pa,pc,rfl⟩:=zaf h4;clear h1 h2 h3 h4;have HE:=hd h;clear h;have EW:=hd (Ext.refl w);obtain ⟨⟨lc2,lt,⟨le,ln⟩⟩,LB,hL⟩ : ∃ x y,lastAn s.answers n = (x,y):=⟨_,_,rfl⟩;have HL:=hd hL;rw [hL];clear hL;go_enter Tryz.func90,Tryz.ntmps90
 go_wp2_with ((with_reducible refine zT ?_ ?_); exact rfl)
 unfold Hid;refine zaj rfl 31 (.tmp 0) rfl #[.slice ca s.cells.length cc,.slice ua s.undo.length uc,.slice aa s.answers.length ac,.slice pa s.past.length pc] rfl (fun b0 w1_ M1=>?_);have zaa:=zmb M1;go_wp2_with ((with_reducible refine zT ?_ ?_); exact rfl)
 unfold Hid;refine zfw rfl 31 (.tmp 2) rfl b0 0 rfl zaa.o [.slice ca s.cells.length cc,.slice ua s.undo.length uc,.slice aa s.answers.length ac,.slice pa s.past.length pc] rfl zu31 (by kernel_rfl) (fun v8 H_v8=>?_);go_wp2_with fail
 rw [show _ = Value.agg #[.slice ca s.cells.length cc,.slice ua s.undo.length uc,.slice aa s.answers.length ac,.slice pa s.past.length pc] from H_v8.o];replace EW:=zet EW M1;have hl:=zk1 _ _ _ _ s n w1_ (zgX _ _ _ _ EW.o HE.o);rw [HL.o] at hl;refine Calls.exts hl (fun wl el=>?_);clear hl H_v8;replace zaa:=hd (zcB zaa.o el);replace EW:=hd (EW.o.trans el);clear el;go_wp2_with ((with_reducible refine zT ?_ ?_); exact rfl)
 unfold Hid;refine zae rfl 99 #[I 0,I 0,I 0,I 0] (by kernel_rfl) (fun b1 w2_ M2=>?_);have zao:=zld zaa M2;have zad:=zmb M2;replace zaa:=zmo M2 zaa;replace EW:=zet EW M2;have zaU : Hid (w.heap.size <= b1):=by unfold Hid; have q:=M2.o.size; have q2:=EW.o.size; have q3:=M2.o.at_; have q4:=zao.o; have q5:=(zlt zaa); have q6:=M1.o.at_; omega
 go_wp2_with ((with_reducible refine zT ?_ ?_); exact rfl)
 unfold Hid;refine zcD rfl 99 (.tmp 5) (.tmp 11) rfl b1 0 rfl [I lc2,I lt,I le,I ln] (rfl) zad.o (Nat.le_of_ble_eq_true rfl) (by kernel_rfl) (zbw rfl) #[I lc2,I lt,I le,I ln] ((zbO _ _ _ (Nat.le_of_ble_eq_true rfl)).trans rfl) (fun w3_ M3=>?_);replace zad:=zwb M3;have l0:=zab (i:=0) zad.o rfl;have l1:=zab (i:=1) zad.o rfl;have l2:=zab (i:=2) zad.o rfl;have l3:=zab (i:=3) zad.o rfl;go_wp2_with fail
 clear l0 l1 l2 l3;refine (ziT lc2 lt le ln w3_).mono ?_;rintro e w9 ⟨v',rfl,ho,e9⟩
 have hb:=zmD (l:=zch ⟨lc2,lt,⟨le,ln⟩⟩) rfl ho;replace EW:=zwe M3 EW zaU;have hsz:=EW.o.size;go_wp2
 go_ret
 replace EW:=hd (EW.o.trans e9);exact ⟨_,rfl,EW.o,hb.widen fun k _ h=>.inr (by omega)⟩

theorem zl6 (sc : List Int) (su : List (Int × Int)) (sa : List An) (sp : List Rq) (gen : Int) (nc nt nk na no nn : Int) (se sn : Int) (b : List UInt8) (l : List (List UInt8)) (pl : List (Int × Int)) (c u a p box plan : Value) (w : World) (A : Nat -> Prop) (hs : Rd A (fun w=>zcf w [c,u,a,p] ⟨sc,su,sa,sp⟩) w) (hb : Rd A (fun w=>zax 1 zb6 w box (b :: l)) w) (hp : Rd A (fun w=>zaC w plan pl) w) (hwo : zeW sc) :
  zaR Tryz.prog 91 #[.agg #[c,u,a,p],.agg #[I gen,box,.bool false,I nc,I nt,I nk,I na,I no,I nn,plan,I se,I sn]] w A (fun r w'=>zn5 (zaL ⟨sc,su,sa,sp⟩ ⟨gen,(b :: l),false,⟨nc,nt,⟨nk,na,no,nn⟩⟩,pl,⟨se,sn⟩⟩).2.1 (zaL ⟨sc,su,sa,sp⟩ ⟨gen,(b :: l),false,⟨nc,nt,⟨nk,na,no,nn⟩⟩,pl,⟨se,sn⟩⟩).2.2.1 r w'):=by
 suffices hall : ∀ T : Value -> World -> Prop,(∀ r A w,Rd A (zn5 (zaL ⟨sc,su,sa,sp⟩ ⟨gen,(b :: l),false,⟨nc,nt,⟨nk,na,no,nn⟩⟩,pl,⟨se,sn⟩⟩).2.1 (zaL ⟨sc,su,sa,sp⟩ ⟨gen,(b :: l),false,⟨nc,nt,⟨nk,na,no,nn⟩⟩,pl,⟨se,sn⟩⟩).2.2.1 r) w -> Rd A (T r) w) -> zaR Tryz.prog 91 #[.agg #[c,u,a,p],.agg #[I gen,box,.bool false,I nc,I nt,I nk,I na,I no,I nn,plan,I se,I sn]] w A T from hall _ (fun _ _ _ h=>h)
 intro T hT;have HT:=hd hT;clear hT;unfold zaR;obtain ⟨h1,h2,h3,h4⟩:=zcO.1 hs.o;obtain ⟨ca,cc,rfl⟩:=zan h1;obtain ⟨ua,uc,rfl⟩:=zan h2;obtain ⟨aa,ac,rfl⟩:=zaf h3;obtain ⟨pa,pc,rfl⟩:=zaf h4;simp only [] at *;have EW:=hd (Ext.refl w);obtain ⟨B,hB⟩:=zda A w.heap.size 3;have HK:=hd hB;clear hB;have R0:=hd ((hs.and hp).widen HK.o.1);obtain ⟨la,lc,rfl⟩:=zan hp.o;obtain ⟨xb,xo,xc,bv,rfl,hx1,hx2,hf,hrest⟩:=zgc (hb.widen HK.o.1);have HF:=hd hf;have HB:=hd hrest;unfold maxLen at hx2;have HWO:=hd hwo;clear h1 h2 h3 h4 hs hb hp hf hrest hwo;obtain ⟨⟨rc,rt,⟨rk,ra,ro,rn⟩⟩,re,hrr⟩ : ∃ x y,readRq b = (x,y):=⟨_,_,rfl⟩;have HRR:=hd hrr;clear hrr;obtain ⟨⟨lc2,lt,⟨le,ln⟩⟩,LB,hL⟩ : ∃ x y,lastAn sa rc = (x,y):=⟨_,_,rfl⟩;have HL:=hd hL;clear hL;go_enter Tryz.func91,Tryz.ntmps91
 go_wp2_with ((with_reducible refine zT ?_ ?_); exact rfl)
 unfold Hid;refine zaj rfl 31 (.tmp 0) rfl #[.slice ca sc.length cc,.slice ua su.length uc,.slice aa sa.length ac,.slice pa sp.length pc] rfl (fun b0 w1_ M1=>?_);have zaa:=zmb M1;go_wp2_with ((with_reducible refine zT ?_ ?_); exact rfl)
 unfold Hid;refine zaj rfl 41 (.tmp 1) rfl #[I gen,.slice (some ⟨xb,xo,none⟩) (l.length + 1) xc,.bool false,I nc,I nt,I nk,I na,I no,I nn,.slice la pl.length lc,I se,I sn] rfl (fun b1 w2_ M2=>?_);have zao:=zld zaa M2;have zad:=zmb M2;go_wp2_with ((with_reducible refine zT ?_ ?_); exact rfl)
 unfold Hid;refine zae rfl 41 zS (by kernel_rfl) (fun b2 w3_ M3=>?_);replace zaa:=zmo M2 zaa;have zaB:=zld zad M3;have zak:=zmb M3;have zaD:=zA0 M1;have zaq:=znb HK zaD (by decide);have zaJ:=zA1 zaD M1 M2;have zar:=znb HK zaJ (by decide);have zaU:=zob zaJ;have zbL:=zA1 zaJ M2 M3;have zaA:=znb HK zbL (by decide);have zba:=zob zbL;replace zad:=zmo M3 zad;have c1:=zab (i:=1) zad.o rfl;replace HF:=zme M3 (zme M2 (zme M1 HF));have cx:=HF.o.o.1;go_wp2_with (first | ((with_reducible refine zT ?_ ?_); exact rfl) | ((with_reducible refine zsc ?_ ?_); exact rfl))
 unfold Hid;clear c1 cx;replace R0:=zme M3 (zme M2 (zme M1 R0));replace HB:=zme M3 (zme M2 (zme M1 HB));replace EW:=zet (zet (zet EW M1) M2) M3;replace zaa:=zmo M3 zaa;refine zc6 rfl l.length (fun na nc=>Rd B (fun w=>zax 1 zb6 w (.slice na l.length nc) l) w3_) ?_ (fun na' nc' hn=>?_)
 ·by_cases hcap : xc = 1
  ·have hl0 : l = []:=List.eq_nil_of_length_eq_zero (by omega);refine ⟨some ⟨xb,xo,none⟩,0,by rw [hl0]; exact Rd.all fun w=>zcM w xb xo 0 (by decide),?_⟩;rw [hl0];subst hcap;go_simp
  ·exact ⟨some ⟨xb,xo + 1,none⟩,xc - 1,HB.o,by go_simp; intro h; omega⟩
 replace HB:=hd hn;clear hn hx1 hx2;go_wp2_with ((with_reducible refine zT ?_ ?_); exact rfl)
 unfold Hid;refine zai rfl 32 (.tmp 18) (.tmp 17) rfl b1 1 rfl [.slice na' l.length nc'] (rfl) zad rfl zeX rfl [I gen,.slice na' l.length nc',.bool false,I nc,I nt,I nk,I na,I no,I nn,.slice la pl.length lc,I se,I sn] rfl (fun w4_ M4=>?_);replace zad:=zwb M4;go_wp2_with fail
 replace HF:=zwr M4 HF zar;have hl:=zh0 bv b w4_ HF.o.o.2;rw [HRR.o] at hl;refine Calls.exts hl (fun wa ea=>?_);clear hl HF;replace zaa:=zbx (zwl M4 zaa zao) ea;replace zak:=zbx (zwg M4 zak zaB) ea;replace R0:=zrx (zwr M4 R0 zar) ea;replace HB:=zrx (zwr M4 HB zar) ea;replace EW:=hd ((zwe M4 EW zaU).o.trans ea);replace zad:=zbx zad ea;clear ea;go_wp2_with ((with_reducible refine zT ?_ ?_); exact rfl)
 unfold Hid;refine zae rfl 36 #[I 0,I 0,I 0,I 0,I 0,I 0] (by kernel_rfl) (fun b4 w5_ M5=>?_);have zbq:=zld zaa M5;have zbk:=zld zad M5;have zbR:=zld zak M5;obtain ⟨B1,HB1⟩:=zEx B b4;have zbJ:=zNn HB1;have zcY:=zIn HB1;have zdc:=zOn M5 EW;have zaI:=zmb M5;go_wp2_with ((with_reducible refine zT ?_ ?_); exact rfl)
 unfold Hid;refine zac rfl 36 (.tmp 7) (.tmp 22) rfl b4 rfl [I rc,I rt,I rk,I ra,I ro,I rn] (rfl) zaI rfl zpj rfl (fun w6_ M6=>?_);replace zaI:=zwb M6;replace R0:=zwr M6 (zme M5 (zmd HB1 M5 R0)) zbJ;replace HB:=zwr M6 (zme M5 (zmd HB1 M5 HB)) zbJ;replace zaq:=znw HB1 zaq;replace zar:=znw HB1 zar;replace zaA:=znw HB1 zaA;replace zaa:=zwl M6 (zmo M5 zaa) zbq;replace zad:=zwl M6 (zmo M5 zad) zbk;replace zak:=zwl M6 (zmo M5 zak) zbR;replace EW:=zwe M6 (zet EW M5) zdc;by_cases hre : re = 0
 case neg =>
  have hbe : (re != 0) = true:=by simpa using hre
  go_wp2_with ((with_reducible refine zT ?_ ?_); exact rfl)
  unfold Hid;refine zah rfl 41 (.tmp 3) rfl b1 rfl zad zu41 zcb (fun v26 H_v26=>?_);go_wp2_with ((with_reducible refine zT ?_ ?_); exact rfl)
  unfold Hid;refine zac rfl 41 (.tmp 4) (.tmp 26) rfl b2 rfl _ (zcv H_v26) zak rfl zcb rfl (fun w7_ M7=>?_);replace zak:=zwb M7;go_wp2
  have z0:=zas (P:=Tryz.prog) 41 zak.o zu41 (by kernel_rfl);refine bodyPost_ret (by simp [results,Tryz.results91,asAddr,z0]; rfl) rfl ?_
  have hX : zaL ⟨sc,su,sa,sp⟩ ⟨gen,(b :: l),false,⟨nc,nt,⟨nk,na,no,nn⟩⟩,pl,⟨se,sn⟩⟩ = (⟨sc,su,sa,sp⟩,⟨gen,l,false,⟨nc,nt,⟨nk,na,no,nn⟩⟩,pl,⟨se,sn⟩⟩,[],0):=by
   show (if (readRq b).2 ≠ 0 then _ else if (lastAn sa (readRq b).1.client).2 = true /\ (readRq b).1.token <= (lastAn sa (readRq b).1.client).1.token then (if (lastAn sa (readRq b).1.client).1.token = (readRq b).1.token then _ else _) else _) = _
   rw [HRR.o];simp only [];rw [HL.o];rw [if_pos hre]
  have ht:=HT.o;rw [hX] at ht;replace R0:=zwr M7 R0 zaA;replace HB:=zwr M7 HB zaA;replace EW:=zwe M7 EW zba;exact ⟨_,rfl,EW.o,ht _ _ _ (Rd.widen (A:=B1) (zg0 (zdm (v:=⟨gen,l,false,⟨nc,nt,⟨nk,na,no,nn⟩⟩,pl,⟨se,sn⟩⟩) HB.o R0.o.right) (Rd.all fun w=>zbd w)) (fun k _ h=>HK.o.2.2.2 k (zcY.o k h)))⟩
 subst hre;go_wp2_with ((with_reducible refine zT ?_ ?_); exact rfl)
 unfold Hid;refine zah rfl 31 (.tmp 2) rfl b0 rfl zaa zu31 zdP (fun v28 H_v28=>?_);have d0:=zab (i:=0) zaI.o rfl;go_wp2_with fail
 clear d0;rw [H_v28.o];have hl:=zk1 _ _ _ _ ⟨sc,su,sa,sp⟩ rc w6_ R0.o.left.o;rw [HL.o] at hl;refine Calls.exts hl (fun wl el=>?_);clear hl H_v28;replace zaa:=zbx zaa el;replace zad:=zbx zad el;replace zak:=zbx zak el;replace zaI:=zbx zaI el;replace R0:=zrx R0 el;replace HB:=zrx HB el;replace EW:=hd (EW.o.trans el);clear el;go_wp2_with ((with_reducible refine zT ?_ ?_); exact rfl)
 unfold Hid;refine zae rfl 99 #[I 0,I 0,I 0,I 0] (by kernel_rfl) (fun b5 w7_ M7=>?_);have zfI:=zld zaa M7;have zcA:=zld zad M7;have zeL:=zld zak M7;have zfC:=zld zaI M7;obtain ⟨B11,HB11⟩:=zEx B1 b5;have zff:=zNn HB11;have zfX:=zIn HB11;have zj0:=zOn M7 EW;have zbj:=zmb M7;go_wp2_with ((with_reducible refine zT ?_ ?_); exact rfl)
 unfold Hid;refine zac rfl 99 (.tmp 9) (.tmp 32) rfl b5 rfl [I lc2,I lt,I le,I ln] (rfl) zbj rfl zfn rfl (fun w8_ M8=>?_);replace zbj:=zwb M8;replace zaI:=zwl M8 (zmo M7 zaI) zfC;have d1:=zab (i:=1) zaI.o rfl;have l1:=zab (i:=1) zbj.o rfl;replace R0:=zwr M8 (zme M7 (zmd HB11 M7 R0)) zff;replace HB:=zwr M8 (zme M7 (zmd HB11 M7 HB)) zff;replace zar:=znw HB11 zar;replace zaA:=znw HB11 zaA;replace zaa:=zwl M8 (zmo M7 zaa) zfI;replace zad:=zwl M8 (zmo M7 zad) zcA;replace zak:=zwl M8 (zmo M7 zak) zeL;replace EW:=zwe M8 (zet EW M7) zj0;by_cases hq1 : LB = true /\ lt = rt
 case pos =>
  obtain ⟨rfl,rfl⟩:=hq1;go_wp2_with fail
  clear d1 l1;refine zbg (S:=fun w'=>w'.heap[b1]? = some (.cells #[I gen,.slice na' l.length nc',.bool false,I nc,I nt,I nk,I na,I no,I nn,.slice la pl.length lc,I se,I sn] 41 (0,0)) /\ w'.heap[b5]? = some (.cells #[I lc2,I lt,I le,I ln] 99 (0,0))) (by kernel_rfl) (fun wd ed _=>?_);replace zad:=zbx zad ed;replace zbj:=zbx zbj ed;have HSS : Hid (wd.heap[b1]? = some (.cells #[I gen,.slice na' l.length nc',.bool false,I nc,I nt,I nk,I na,I no,I nn,.slice la pl.length lc,I se,I sn] 41 (0,0)) /\ wd.heap[b5]? = some (.cells #[I lc2,I lt,I le,I ln] 99 (0,0))):=⟨zad.o,zbj.o⟩;refine zaM 0 rfl (by kernel_rfl) (by kernel_rfl) (by kernel_rfl) (fun _ _ _ _ h=>h) rfl 41 (.tmp 3) rfl b1 rfl (fun w' hS=>hS.1) zu41 (by kernel_rfl) HSS ?_;refine zag fun K h=>?_; go_simp; refine h _ ?_; clear h K;refine zaM 1 rfl (by kernel_rfl) (by kernel_rfl) (by kernel_rfl) (fun _ _ _ _ h=>h) rfl 99 (.tmp 9) rfl b5 rfl (fun w' hS=>hS.2) zu99 (by kernel_rfl) HSS ?_;refine zag fun K h=>?_; go_simp; refine h _ ?_; clear h K;refine zdy 2 (by kernel_rfl) rfl rfl 103 #[.agg #[I lc2,I lt,I le,I ln]] (by go_simp) ?_;refine (ziT lc2 lt le ln wd).mono ?_;rintro e w9 ⟨v45,rfl,ho,e9⟩
  have hby:=zmD (l:=zch ⟨lc2,lt,⟨le,ln⟩⟩) rfl ho;clear ho;replace zak:=zbx zak ed;have hsz : w.heap.size + 3 <= wd.heap.size:=by have q:=(zlt zak); have q2:=zbL.o; omega
  replace zaI:=zbx zaI ed;have hz4 : b4 < wd.heap.size:=(zlt zaI);have hz5 : b5 < wd.heap.size:=(zlt zbj);have HBY:=hd (hby.widen (B:=B11) (fun k _ h=>(HB11.o k).2 ⟨(HB1.o k).2 ⟨HK.o.2.1 k (by omega),by omega⟩,by omega⟩));clear hby hsz hz4 hz5;clear HSS;replace zad:=zbx zad e9;replace zbj:=zbx zbj e9;refine ⟨_,rfl,⟨zad.o,zbj.o⟩,?_⟩;have HSS : Hid (w9.heap[b1]? = some (.cells #[I gen,.slice na' l.length nc',.bool false,I nc,I nt,I nk,I na,I no,I nn,.slice la pl.length lc,I se,I sn] 41 (0,0)) /\ w9.heap[b5]? = some (.cells #[I lc2,I lt,I le,I ln] 99 (0,0))):=⟨zad.o,zbj.o⟩;refine zag fun K h=>?_; go_simp; refine h _ ?_; clear h K;replace zaa:=zbx (zbx zaa ed) e9;replace R0:=zrx (zrx R0 ed) e9;replace HB:=zrx (zrx HB ed) e9;replace EW:=hd ((hd (EW.o.trans ed)).o.trans e9);replace zak:=zbx zak e9;replace zaI:=zbx zaI e9;refine zaZ 3 (by kernel_rfl) rfl rfl 41 (.tmp 4) (.tmp 43) rfl b2 rfl [I gen,.slice na' l.length nc',.bool false,I nc,I nt,I nk,I na,I no,I nn,.slice la pl.length lc,I se,I sn] (rfl) zak rfl (by kernel_rfl) rfl (fun w9_ M9=>⟨?_,?_⟩)
  ·exact ⟨M9.o.old zad.o (Nat.ne_of_lt zaB.o),M9.o.old zbj.o (Nat.ne_of_gt zeL.o)⟩
  replace zak:=zwb M9;clear HSS;replace zad:=zwl M9 zad zaB;replace zbj:=zwg M9 zbj zeL;have HSS : Hid (w9_.heap[b1]? = some (.cells #[I gen,.slice na' l.length nc',.bool false,I nc,I nt,I nk,I na,I no,I nn,.slice la pl.length lc,I se,I sn] 41 (0,0)) /\ w9_.heap[b5]? = some (.cells #[I lc2,I lt,I le,I ln] 99 (0,0))):=⟨zad.o,zbj.o⟩;refine zag fun K h=>?_; go_simp; refine h _ ?_; clear h K;refine zaK 4 (by kernel_rfl) rfl rfl _ rfl HSS.o ?_;refine zag fun K h=>?_; go_simp; refine h _ ?_; clear h K;refine wpAnyH_done (by kernel_rfl) ?_ _;clear HSS;go_wp2
  have z0:=zas (P:=Tryz.prog) 41 zak.o zu41 (by kernel_rfl);refine bodyPost_ret (by simp [results,Tryz.results91,asAddr,z0]; rfl) rfl ?_
  have hX : zaL ⟨sc,su,sa,sp⟩ ⟨gen,(b :: l),false,⟨nc,nt,⟨nk,na,no,nn⟩⟩,pl,⟨se,sn⟩⟩ = (⟨sc,su,sa,sp⟩,⟨gen,l,false,⟨nc,nt,⟨nk,na,no,nn⟩⟩,pl,⟨se,sn⟩⟩,zch ⟨lc2,lt,⟨le,ln⟩⟩,0):=by
   show (if (readRq b).2 ≠ 0 then _ else if (lastAn sa (readRq b).1.client).2 = true /\ (readRq b).1.token <= (lastAn sa (readRq b).1.client).1.token then (if (lastAn sa (readRq b).1.client).1.token = (readRq b).1.token then _ else _) else _) = _
   rw [HRR.o];simp only [];rw [HL.o];rw [if_neg (by simp),if_pos ⟨rfl,Int.le_refl _⟩,if_pos rfl]
  have ht:=HT.o;rw [hX] at ht;replace R0:=zwr M9 R0 zaA;replace HB:=zwr M9 HB zaA;replace HBY:=zwr M9 HBY zaA;replace EW:=zwe M9 EW zba;exact ⟨_,rfl,EW.o,ht _ _ _ (Rd.widen (A:=B11) (zg0 (zdm (v:=⟨gen,l,false,⟨nc,nt,⟨nk,na,no,nn⟩⟩,pl,⟨se,sn⟩⟩) HB.o R0.o.right) (HBY.o)) (fun k _ h=>HK.o.2.2.2 k (zcY.o k (zfX.o k h))))⟩
 by_cases hq2 : LB = true /\ rt < lt
 case pos =>
  obtain ⟨rfl,hlt⟩:=hq2;have hb2 : (lt == rt) = false:=by simp; omega
  go_wp2_with ((with_reducible refine zT ?_ ?_); exact rfl)
  unfold Hid;clear d1 l1;refine zah rfl 41 (.tmp 3) rfl b1 rfl zad zu41 zcb (fun v55 H_v55=>?_);go_wp2_with ((with_reducible refine zT ?_ ?_); exact rfl)
  unfold Hid;refine zac rfl 41 (.tmp 4) (.tmp 55) rfl b2 rfl _ (zcv H_v55) zak rfl zcb rfl (fun w9_ M9=>?_);replace zak:=zwb M9;go_wp2
  have z0:=zas (P:=Tryz.prog) 41 zak.o zu41 (by kernel_rfl);refine bodyPost_ret (by simp [results,Tryz.results91,asAddr,z0]; rfl) rfl ?_
  have hX : zaL ⟨sc,su,sa,sp⟩ ⟨gen,(b :: l),false,⟨nc,nt,⟨nk,na,no,nn⟩⟩,pl,⟨se,sn⟩⟩ = (⟨sc,su,sa,sp⟩,⟨gen,l,false,⟨nc,nt,⟨nk,na,no,nn⟩⟩,pl,⟨se,sn⟩⟩,[],0):=by
   show (if (readRq b).2 ≠ 0 then _ else if (lastAn sa (readRq b).1.client).2 = true /\ (readRq b).1.token <= (lastAn sa (readRq b).1.client).1.token then (if (lastAn sa (readRq b).1.client).1.token = (readRq b).1.token then _ else _) else _) = _
   rw [HRR.o];simp only [];rw [HL.o];rw [if_neg (by simp),if_pos ⟨rfl,by simp only []; omega⟩,if_neg (by simp only []; omega)]
  have ht:=HT.o;rw [hX] at ht;replace R0:=zwr M9 R0 zaA;replace HB:=zwr M9 HB zaA;replace EW:=zwe M9 EW zba;exact ⟨_,rfl,EW.o,ht _ _ _ (Rd.widen (A:=B11) (zg0 (zdm (v:=⟨gen,l,false,⟨nc,nt,⟨nk,na,no,nn⟩⟩,pl,⟨se,sn⟩⟩) HB.o R0.o.right) (Rd.all fun w=>zbd w)) (fun k _ h=>HK.o.2.2.2 k (zcY.o k (zfX.o k h))))⟩
 have hcr : wrongCl ⟨rk,ra,ro,rn⟩ = 0:=by
  have q:=zik (b:=b) (by rw [HRR.o]);rw [HRR.o] at q;exact (zdZ q).2
 have HCR:=hd hcr;clear hcr
 have hsel : LB = false ∨ (LB = true /\ lt < rt):=by
  cases LB
  ·exact .inl rfl
  ·exact .inr ⟨rfl,by have q1 : ¬ lt = rt:=fun h=>hq1 ⟨rfl,h⟩; have q2 : ¬ rt < lt:=fun h=>hq2 ⟨rfl,h⟩; omega⟩
 clear hq1 hq2;obtain ⟨de,dn,hD⟩ : ∃ x y,(zbr (zbP sc) ⟨rk,ra,ro,rn⟩).2 = ⟨x,y⟩:=⟨_,_,rfl⟩;obtain ⟨PL,hPL⟩ : ∃ x,zbn (zbP sc) ⟨rk,ra,ro,rn⟩ = x:=⟨_,rfl⟩;have HD:=hd hD;have HPL:=hd hPL;clear hD hPL;rcases hsel with rfl | ⟨rfl,hns⟩
 ·go_wp2_with fail
  clear d1 l1;refine zbg (S:=fun w'=>w'.heap[b4]? = some (.cells #[I rc,I rt,I rk,I ra,I ro,I rn] 36 (0,0))) (by kernel_rfl) (fun wd ed _=>?_);replace zaI:=zbx zaI ed;have HSS : Hid (wd.heap[b4]? = some (.cells #[I rc,I rt,I rk,I ra,I ro,I rn] 36 (0,0))):=zaI.o;refine zaM 0 rfl (by kernel_rfl) (by kernel_rfl) (by kernel_rfl) (fun _ _ _ _ h=>h) rfl 36 (.tmp 7) rfl b4 rfl (fun w' hS=>hS) zu36 (by kernel_rfl) HSS ?_;refine zag fun K h=>?_; go_simp; refine h _ ?_; clear h K;refine zaw 1 rfl (by kernel_rfl) (by kernel_rfl) (by kernel_rfl) (fun _ _ _ _ h=>h) rfl HSS.o (fun K hK=>?_); go_simp; refine hK _ ?_; clear hK K;replace zaa:=zbx zaa ed;replace zad:=zbx zad ed;replace zak:=zbx zak ed;replace zbj:=zbx zbj ed;replace R0:=zrx R0 ed;replace HB:=zrx HB ed;replace EW:=hd (EW.o.trans ed);refine zbm 2 (by kernel_rfl) rfl rfl 4 (.tmp 57) (.const (.bool true)) rfl b1 2 rfl [.bool true] (rfl) zad.o (Nat.le_of_ble_eq_true rfl) (by kernel_rfl) (zbw rfl) #[I gen,.slice na' l.length nc',.bool true,I nc,I nt,I nk,I na,I no,I nn,.slice la pl.length lc,I se,I sn] ((zbO _ _ _ (Nat.le_of_ble_eq_true rfl)).trans rfl) (fun w9_ M9=>⟨?_,?_⟩)
  ·exact M9.o.old zaI.o (Nat.ne_of_gt zbk.o)
  replace zad:=zwb M9;clear HSS;replace zaI:=zwg M9 zaI zbk;have HSS : Hid (w9_.heap[b4]? = some (.cells #[I rc,I rt,I rk,I ra,I ro,I rn] 36 (0,0))):=zaI.o;refine zag fun K h=>?_; go_simp; refine h _ ?_; clear h K;refine zaw 3 rfl (by kernel_rfl) (by kernel_rfl) (by kernel_rfl) (fun _ _ _ _ h=>h) rfl HSS.o (fun K hK=>?_); go_simp; refine hK _ ?_; clear hK K;replace zaa:=zwl M9 zaa zao;replace zak:=zwg M9 zak zaB;replace zbj:=zwg M9 zbj zcA;replace R0:=zwr M9 R0 zar;replace HB:=zwr M9 HB zar;replace EW:=zwe M9 EW zaU;refine zbm 4 (by kernel_rfl) rfl rfl 36 (.tmp 58) (.tmp 56) rfl b1 3 rfl [I rc,I rt,I rk,I ra,I ro,I rn] (rfl) zad.o (Nat.le_of_ble_eq_true rfl) (by kernel_rfl) (zbw rfl) #[I gen,.slice na' l.length nc',.bool true,I rc,I rt,I rk,I ra,I ro,I rn,.slice la pl.length lc,I se,I sn] ((zbO _ _ _ (Nat.le_of_ble_eq_true rfl)).trans rfl) (fun w10_ M10=>⟨?_,?_⟩)
  ·exact M10.o.old zaI.o (Nat.ne_of_gt zbk.o)
  replace zad:=zwb M10;clear HSS;replace zaI:=zwg M10 zaI zbk;have HSS : Hid (w10_.heap[b4]? = some (.cells #[I rc,I rt,I rk,I ra,I ro,I rn] 36 (0,0))):=zaI.o;refine zag fun K h=>?_; go_simp; refine h _ ?_; clear h K;refine wpAnyH_done (by kernel_rfl) ?_ _;clear HSS;replace zaa:=zwl M10 zaa zao;have s0:=zab (i:=0) zaa.o rfl;have d2:=zab (i:=2) zaI.o rfl;have d3:=zab (i:=3) zaI.o rfl;have d4:=zab (i:=4) zaI.o rfl;have d5:=zab (i:=5) zaI.o rfl;go_wp2_with fail
  clear s0 d2 d3 d4 d5;replace R0:=zwr M10 R0 zar;refine (zjS _ sc rk ra ro rn w10_ (zcO.1 R0.o.left.o).1 HWO.o HCR.o).mono ?_;rintro e w9 ⟨⟨uu,rfl,hu⟩,e9⟩
  replace hu : Has w10_.heap.size w9 uu (zbn (zbP sc) ⟨rk,ra,ro,rn⟩):=hu;rw [HPL.o] at hu;obtain ⟨ua',uc',rfl⟩:=zan hu.writes;rw [show (zbr (zaO sc (sc.getD 0 0).toNat) ⟨rk,ra,ro,rn⟩).2 = ⟨de,dn⟩ from HD.o];replace zak:=zwg M10 zak zaB;have hsz : w.heap.size + 3 <= w10_.heap.size:=by have q:=(zlt zak); have q2:=zbL.o; omega
  have hz4 : b4 < w10_.heap.size:=(zlt zaI);replace zbj:=zwg M10 zbj zcA;have hz5 : b5 < w10_.heap.size:=(zlt zbj);have HPN:=hd (hu.rd.widen (B:=B11) (fun k _ h=>(HB11.o k).2 ⟨(HB1.o k).2 ⟨HK.o.2.1 k (by omega),by omega⟩,by omega⟩));clear hu hsz hz4 hz5;go_wp2_with ((with_reducible refine zT ?_ ?_); exact rfl)
  unfold Hid;replace zad:=zbx zad e9;refine zai rfl 27 (.tmp 67) (.tmp 65) rfl b1 9 rfl [.slice ua' PL.length uc'] (rfl) zad rfl zlz rfl [I gen,.slice na' l.length nc',.bool true,I rc,I rt,I rk,I ra,I ro,I rn,.slice ua' PL.length uc',I se,I sn] rfl (fun w11_ M11=>?_);replace zad:=zwb M11;go_wp2_with ((with_reducible refine zT ?_ ?_); exact rfl)
  unfold Hid;refine zai rfl 39 (.tmp 68) (.tmp 66) rfl b1 10 rfl [I de,I dn] (rfl) zad rfl zo8 rfl [I gen,.slice na' l.length nc',.bool true,I rc,I rt,I rk,I ra,I ro,I rn,.slice ua' PL.length uc',I de,I dn] rfl (fun w12_ M12=>?_);replace zad:=zwb M12;go_wp2_with ((with_reducible refine zT ?_ ?_); exact rfl)
  unfold Hid;refine zah rfl 41 (.tmp 3) rfl b1 rfl zad zu41 zcb (fun v69 H_v69=>?_);go_wp2_with ((with_reducible refine zT ?_ ?_); exact rfl)
  unfold Hid;replace zak:=zwg M12 (zwg M11 (zbx zak e9) zaB) zaB;refine zac rfl 41 (.tmp 4) (.tmp 69) rfl b2 rfl _ (zcv H_v69) zak rfl zcb rfl (fun w13_ M13=>?_);replace zak:=zwb M13;go_wp2
  have z0:=zas (P:=Tryz.prog) 41 zak.o zu41 (by kernel_rfl);refine bodyPost_ret (by simp [results,Tryz.results91,asAddr,z0]; rfl) rfl ?_
  have hX : zaL ⟨sc,su,sa,sp⟩ ⟨gen,(b :: l),false,⟨nc,nt,⟨nk,na,no,nn⟩⟩,pl,⟨se,sn⟩⟩ = (⟨sc,su,sa,sp⟩,⟨gen,l,true,⟨rc,rt,⟨rk,ra,ro,rn⟩⟩,PL,⟨de,dn⟩⟩,[],0):=by
   show (if (readRq b).2 ≠ 0 then _ else if (lastAn sa (readRq b).1.client).2 = true /\ (readRq b).1.token <= (lastAn sa (readRq b).1.client).1.token then (if (lastAn sa (readRq b).1.client).1.token = (readRq b).1.token then _ else _) else _) = _
   rw [HRR.o];simp only [];rw [HL.o];rw [if_neg (by simp),if_neg (fun h=>by cases h.1),HPL.o,HD.o]
  have ht:=HT.o;rw [hX] at ht;replace HB:=zwr M13 (zwr M12 (zwr M11 (zrx (zwr M10 HB zar) e9) zar) zar) zaA;replace EW:=zwe M13 (zwe M12 (zwe M11 (hd ((zwe M10 EW zaU).o.trans e9)) zaU) zaU) zba;replace HPN:=zwr M13 (zwr M12 (zwr M11 HPN zar) zar) zaA;exact ⟨_,rfl,EW.o,ht _ _ _ (Rd.widen (A:=B11) (zg0 (zdm (v:=⟨gen,l,true,⟨rc,rt,⟨rk,ra,ro,rn⟩⟩,PL,⟨de,dn⟩⟩) HB.o HPN.o) (Rd.all fun w=>zbd w)) (fun k _ h=>HK.o.2.2.2 k (zcY.o k (zfX.o k h))))⟩
 ·have hb2 : (lt == rt) = false:=by simp; omega
  go_wp2_with fail
  clear d1 l1;refine zbg (S:=fun w'=>w'.heap[b4]? = some (.cells #[I rc,I rt,I rk,I ra,I ro,I rn] 36 (0,0))) (by kernel_rfl) (fun wd ed _=>?_);replace zaI:=zbx zaI ed;have HSS : Hid (wd.heap[b4]? = some (.cells #[I rc,I rt,I rk,I ra,I ro,I rn] 36 (0,0))):=zaI.o;refine zaM 0 rfl (by kernel_rfl) (by kernel_rfl) (by kernel_rfl) (fun _ _ _ _ h=>h) rfl 36 (.tmp 7) rfl b4 rfl (fun w' hS=>hS) zu36 (by kernel_rfl) HSS ?_;refine zag fun K h=>?_; go_simp; refine h _ ?_; clear h K;refine zaw 1 rfl (by kernel_rfl) (by kernel_rfl) (by kernel_rfl) (fun _ _ _ _ h=>h) rfl HSS.o (fun K hK=>?_); go_simp; refine hK _ ?_; clear hK K;replace zaa:=zbx zaa ed;replace zad:=zbx zad ed;replace zak:=zbx zak ed;replace zbj:=zbx zbj ed;replace R0:=zrx R0 ed;replace HB:=zrx HB ed;replace EW:=hd (EW.o.trans ed);refine zbm 2 (by kernel_rfl) rfl rfl 4 (.tmp 57) (.const (.bool true)) rfl b1 2 rfl [.bool true] (rfl) zad.o (Nat.le_of_ble_eq_true rfl) (by kernel_rfl) (zbw rfl) #[I gen,.slice na' l.length nc',.bool true,I nc,I nt,I nk,I na,I no,I nn,.slice la pl.length lc,I se,I sn] ((zbO _ _ _ (Nat.le_of_ble_eq_true rfl)).trans rfl) (fun w9_ M9=>⟨?_,?_⟩)
  ·exact M9.o.old zaI.o (Nat.ne_of_gt zbk.o)
  replace zad:=zwb M9;clear HSS;replace zaI:=zwg M9 zaI zbk;have HSS : Hid (w9_.heap[b4]? = some (.cells #[I rc,I rt,I rk,I ra,I ro,I rn] 36 (0,0))):=zaI.o;refine zag fun K h=>?_; go_simp; refine h _ ?_; clear h K;refine zaw 3 rfl (by kernel_rfl) (by kernel_rfl) (by kernel_rfl) (fun _ _ _ _ h=>h) rfl HSS.o (fun K hK=>?_); go_simp; refine hK _ ?_; clear hK K;replace zaa:=zwl M9 zaa zao;replace zak:=zwg M9 zak zaB;replace zbj:=zwg M9 zbj zcA;replace R0:=zwr M9 R0 zar;replace HB:=zwr M9 HB zar;replace EW:=zwe M9 EW zaU;refine zbm 4 (by kernel_rfl) rfl rfl 36 (.tmp 58) (.tmp 56) rfl b1 3 rfl [I rc,I rt,I rk,I ra,I ro,I rn] (rfl) zad.o (Nat.le_of_ble_eq_true rfl) (by kernel_rfl) (zbw rfl) #[I gen,.slice na' l.length nc',.bool true,I rc,I rt,I rk,I ra,I ro,I rn,.slice la pl.length lc,I se,I sn] ((zbO _ _ _ (Nat.le_of_ble_eq_true rfl)).trans rfl) (fun w10_ M10=>⟨?_,?_⟩)
  ·exact M10.o.old zaI.o (Nat.ne_of_gt zbk.o)
  replace zad:=zwb M10;clear HSS;replace zaI:=zwg M10 zaI zbk;have HSS : Hid (w10_.heap[b4]? = some (.cells #[I rc,I rt,I rk,I ra,I ro,I rn] 36 (0,0))):=zaI.o;refine zag fun K h=>?_; go_simp; refine h _ ?_; clear h K;refine wpAnyH_done (by kernel_rfl) ?_ _;clear HSS;replace zaa:=zwl M10 zaa zao;have s0:=zab (i:=0) zaa.o rfl;have d2:=zab (i:=2) zaI.o rfl;have d3:=zab (i:=3) zaI.o rfl;have d4:=zab (i:=4) zaI.o rfl;have d5:=zab (i:=5) zaI.o rfl;go_wp2_with fail
  clear s0 d2 d3 d4 d5;replace R0:=zwr M10 R0 zar;refine (zjS _ sc rk ra ro rn w10_ (zcO.1 R0.o.left.o).1 HWO.o HCR.o).mono ?_;rintro e w9 ⟨⟨uu,rfl,hu⟩,e9⟩
  replace hu : Has w10_.heap.size w9 uu (zbn (zbP sc) ⟨rk,ra,ro,rn⟩):=hu;rw [HPL.o] at hu;obtain ⟨ua',uc',rfl⟩:=zan hu.writes;rw [show (zbr (zaO sc (sc.getD 0 0).toNat) ⟨rk,ra,ro,rn⟩).2 = ⟨de,dn⟩ from HD.o];replace zak:=zwg M10 zak zaB;have hsz : w.heap.size + 3 <= w10_.heap.size:=by have q:=(zlt zak); have q2:=zbL.o; omega
  have hz4 : b4 < w10_.heap.size:=(zlt zaI);replace zbj:=zwg M10 zbj zcA;have hz5 : b5 < w10_.heap.size:=(zlt zbj);have HPN:=hd (hu.rd.widen (B:=B11) (fun k _ h=>(HB11.o k).2 ⟨(HB1.o k).2 ⟨HK.o.2.1 k (by omega),by omega⟩,by omega⟩));clear hu hsz hz4 hz5;go_wp2_with ((with_reducible refine zT ?_ ?_); exact rfl)
  unfold Hid;replace zad:=zbx zad e9;refine zai rfl 27 (.tmp 67) (.tmp 65) rfl b1 9 rfl [.slice ua' PL.length uc'] (rfl) zad rfl zlz rfl [I gen,.slice na' l.length nc',.bool true,I rc,I rt,I rk,I ra,I ro,I rn,.slice ua' PL.length uc',I se,I sn] rfl (fun w11_ M11=>?_);replace zad:=zwb M11;go_wp2_with ((with_reducible refine zT ?_ ?_); exact rfl)
  unfold Hid;refine zai rfl 39 (.tmp 68) (.tmp 66) rfl b1 10 rfl [I de,I dn] (rfl) zad rfl zo8 rfl [I gen,.slice na' l.length nc',.bool true,I rc,I rt,I rk,I ra,I ro,I rn,.slice ua' PL.length uc',I de,I dn] rfl (fun w12_ M12=>?_);replace zad:=zwb M12;go_wp2_with ((with_reducible refine zT ?_ ?_); exact rfl)
  unfold Hid;refine zah rfl 41 (.tmp 3) rfl b1 rfl zad zu41 zcb (fun v69 H_v69=>?_);go_wp2_with ((with_reducible refine zT ?_ ?_); exact rfl)
  unfold Hid;replace zak:=zwg M12 (zwg M11 (zbx zak e9) zaB) zaB;refine zac rfl 41 (.tmp 4) (.tmp 69) rfl b2 rfl _ (zcv H_v69) zak rfl zcb rfl (fun w13_ M13=>?_);replace zak:=zwb M13;go_wp2
  have z0:=zas (P:=Tryz.prog) 41 zak.o zu41 (by kernel_rfl);refine bodyPost_ret (by simp [results,Tryz.results91,asAddr,z0]; rfl) rfl ?_
  have hX : zaL ⟨sc,su,sa,sp⟩ ⟨gen,(b :: l),false,⟨nc,nt,⟨nk,na,no,nn⟩⟩,pl,⟨se,sn⟩⟩ = (⟨sc,su,sa,sp⟩,⟨gen,l,true,⟨rc,rt,⟨rk,ra,ro,rn⟩⟩,PL,⟨de,dn⟩⟩,[],0):=by
   show (if (readRq b).2 ≠ 0 then _ else if (lastAn sa (readRq b).1.client).2 = true /\ (readRq b).1.token <= (lastAn sa (readRq b).1.client).1.token then (if (lastAn sa (readRq b).1.client).1.token = (readRq b).1.token then _ else _) else _) = _
   rw [HRR.o];simp only [];rw [HL.o];rw [if_neg (by simp),if_neg (fun h=>by have q:=h.2; simp only [] at q; omega),HPL.o,HD.o]
  have ht:=HT.o;rw [hX] at ht;replace HB:=zwr M13 (zwr M12 (zwr M11 (zrx (zwr M10 HB zar) e9) zar) zar) zaA;replace EW:=zwe M13 (zwe M12 (zwe M11 (hd ((zwe M10 EW zaU).o.trans e9)) zaU) zaU) zba;replace HPN:=zwr M13 (zwr M12 (zwr M11 HPN zar) zar) zaA;exact ⟨_,rfl,EW.o,ht _ _ _ (Rd.widen (A:=B11) (zg0 (zdm (v:=⟨gen,l,true,⟨rc,rt,⟨rk,ra,ro,rn⟩⟩,PL,⟨de,dn⟩⟩) HB.o HPN.o) (Rd.all fun w=>zbd w)) (fun k _ h=>HK.o.2.2.2 k (zcY.o k (zfX.o k h))))⟩

end Go.Proofs.YtikbhmnjlmbeeaeGreat
