/- zbb of the proof, merged: Y7. -/
import Derived.Test.YtdmipnnfoolelagGreatDoorKTA
import Derived.Test.YtdmipnnfoolelagGreatDoorKTA0
set_option maxHeartbeats 16000000
set_option maxRecDepth 100000

namespace Go.Proofs.YtdmipnnfoolelagGreatDoor
open Go.RowKit Go.Mk

structure OkC (k:Nat) (c:Cl):Prop where
 kind:1<=c.kind/\c.kind<=4
 name:1+100 * (k:Int)<=c.name/\c.name<=99+100 * (k:Int)
 other:c.other=0
 n:-1000<=c.n/\c.n<=1000
 none:c.kind≠1->c.kind≠4->c.n=0
theorem zcA {k:Nat} (hk:k < 2) {c:Cl} (h:OkC k c):wrongCl c=0:=by
 obtain ⟨⟨h1,h2⟩,⟨h3,h4⟩,h5,⟨h6,h7⟩,h8⟩:=h
 obtain ⟨ck,ca,co,cn⟩:=c
 simp only [] at *
 subst h5
 have hc:ck=1∨ck=2∨ck=3∨ck=4:=by omega
 rcases hc with rfl | rfl | rfl | rfl
 ·unfold wrongCl; simp; omega
 ·have:=h8 (by decide) (by decide); subst this; unfold wrongCl; simp; omega
 ·have:=h8 (by decide) (by decide); subst this; unfold wrongCl; simp; omega
 ·unfold wrongCl; simp; omega
def zuh (k:Nat) (x:Int):Prop:=1+100 * (k:Int)<=x/\x<=99+100 * (k:Int)
theorem zr3 (i k:Nat) (x:Int) (h1:zuh i x) (h2:zuh k x):i=k:=by
 unfold zuh at h1 h2
 omega
def zbf (ls:List (List Cl)):List Int:=ls.flatten.map Cl.name
theorem zpR {A B:List Cl} {X:Mc} (h:FixOk [A,B] X) (hA:∀ c ∈ A,OkC 0 c) (hB:∀ c ∈ B,OkC 1 c) (h5:(Mk.distinct (zbf [A,B])).length<=5) {k:Nat} (hk:k < 2):told X.store.past k=(zfd (([A,B]:List (List Cl)).getD k [])).2:=by
 refine zkQ h.donep h5 zr3 (fun i hi c hc=>?_) hk
 have hi2:i < 2:=hi
 have hmem:∀ c:Cl,c ∈ A∨c ∈ B->c.name ∈ Mk.distinct (zbf [A,B]):=fun c hc=>(zft c.name _ []).2 (.inr (by
  unfold zbf
  refine List.mem_map.2 ⟨c,?_,rfl⟩
  simp
  exact hc))
 match i,hi2 with
 | 0,_ =>
  have q:=hA c hc
  exact ⟨q.kind.1,q.kind.2,zcA (by decide) q,hmem c (.inl hc),q.name⟩
 | 1,_ =>
  have q:=hB c hc
  exact ⟨q.kind.1,q.kind.2,zcA (by decide) q,hmem c (.inr hc),q.name⟩
theorem zp5 {C:List Cl} {k:Nat} (hk:k < 2) {Y:Mc} (h:FixOk [C] Y) (hC:∀ c ∈ C,OkC k c) {ns:List Int} (h5:ns.length<=5) (hn:∀ c ∈ C,c.name ∈ ns):told Y.store.past 0=(zfd C).2:=by
 have:=zkQ h.donep h5 (R:=fun i _=>i=0) (fun i k x h1 h2=>h1.trans h2.symm) (fun i hi c hc=>by
  have hi1:i=0:=by
   have:i < 1:=hi
   omega
  subst hi1
  have q:=hC c hc
  exact ⟨q.kind.1,q.kind.2,zcA hk q,hn c hc,rfl⟩) (k:=0) (Nat.lt_succ_self 0)
 exact this
theorem zoH {A B:List Cl} (h1:A.length<=8) (h2:B.length<=8) (hA:∀ c ∈ A,OkC 0 c) (hB:∀ c ∈ B,OkC 1 c):zaG [A,B]:=by
 refine ⟨by simp,fun c hc=>?_⟩
 rcases List.mem_cons.1 hc with rfl | hc
 ·exact ⟨h1,fun x hx=>zcA (by decide) (hA x hx)⟩
 ·rw [List.mem_singleton.1 hc]
  exact ⟨h2,fun x hx=>zcA (by decide) (hB x hx)⟩
theorem zqL {A B:List Cl} (hr:zaG [A,B]) (h1:(printCl A).length<=100000) (h2:(printCl B).length<=100000):zbb [printCl A,printCl B] [A,B]:=by
 have qA:=hr.2 A (by simp)
 have qB:=hr.2 B (by simp)
 refine ⟨rfl,fun i s hs=>?_⟩
 match i,hs with
 | 0,hs=>cases hs; exact ⟨h1,zdz (l:=A) rfl qA.2 qA.1⟩
 | 1,hs=>cases hs; exact ⟨h2,zdz (l:=B) rfl qB.2 qB.1⟩
 | i+2,hs=>simp at hs
theorem zon {C:List Cl} (h1:C.length<=8) (h:∀ c ∈ C,wrongCl c=0):zaG [C]:=⟨by simp,fun c hc=>by rw [List.mem_singleton.1 hc]; exact ⟨h1,h⟩⟩
theorem zqa {C:List Cl} (hr:zaG [C]) (h1:(printCl C).length<=100000):zbb [printCl C] [C]:=by
 have qA:=hr.2 C (by simp)
 refine ⟨rfl,fun i s hs=>?_⟩
 match i,hs with
 | 0,hs=>cases hs; exact ⟨h1,zdz (l:=C) rfl qA.2 qA.1⟩
 | i+1,hs=>simp at hs
theorem zdY {w:World} {v:Value} {l:List Cl} {b:Nat} {es:Array MapEntry} {c:Nat} (h:zaj 4 zbX w v l) (hm:w.heap[b]?=some (.map es c)):Rd (fun k=>k < w.heap.size/\k≠b) (fun w=>zaj 4 zbX w v l) w:=fun w2 h2=>by
 have hf:∀ w,zaj 4 zbX w v l↔Row w 4 v l.length (l.flatMap fun x=>[I x.kind,I x.name,I x.other,I x.n]):=fun w=>zcc (f:=fun (x:Cl)=>[I x.kind,I x.name,I x.other,I x.n]) (fun _=>rfl)
 exact (hf w2).2 (zgN ((hf w).1 h) hm w2 h2)
theorem zoB {w:World} {v:Value} {ls:List (List Cl)} {b:Nat} {es:Array MapEntry} {c:Nat} (h:zaj 1 zeB w v ls) (hm:w.heap[b]?=some (.map es c)):Rd (fun k=>k < w.heap.size/\k≠b) (fun w=>zaj 1 zeB w v ls) w:=fun w2 h2=>by
 obtain ⟨css,he,hr⟩:=h
 refine ⟨css,⟨he.1,fun i c x hc hx=>?_⟩,zgN hr hm w2 h2⟩
 obtain ⟨h1,cv,e1,h3⟩:=he.2 i c x hc hx
 exact ⟨h1,cv,e1,zdY h3 hm w2 h2⟩
theorem zmE {V:Nat->Prop} {w:World} {b off n cap j:Nat} {ls:List (List Cl)} {D:List Cl} {cv:Value} (h:Rd V (fun w=>zaj 1 zeB w (.slice (some ⟨b,off,none⟩) n cap) ls) w) (hD:ls[j]?=some D) (hc:w.cell? ⟨b,off+j,none⟩=some cv) (hn:n=ls.length):Rd V (fun w=>zaj 4 zbX w cv D) w:=by
 subst hn
 obtain ⟨css,h2⟩:=zdo (by decide) h
 have hl:j < css.length:=by rw [h2.left.o.1]; exact (List.getElem?_eq_some_iff.1 hD).1
 obtain ⟨c,hcj⟩:∃ c,css[j]?=some c:=⟨css[j],List.getElem?_eq_getElem hl⟩
 have hr:=zdM h2.left hcj hD
 obtain ⟨h1,cv2,e1,h3⟩:=h2.left.o.2 j c D hcj hD
 subst e1
 have hce:=zcY (by decide) h2.right.o h2.left.o.sizes hcj 0 cv2 rfl
 rw [Nat.mul_one,Nat.add_zero] at hce
 rw [hce] at hc
 cases hc
 refine hr.imp fun w' hw=>?_
 obtain ⟨cv3,e3,h4⟩:=hw
 cases e3
 exact h4
theorem znI {ls:List (List Cl)} {j:Nat} {C:List Cl} (h:ls[j]?=some C):zbf (ls.take (j+1))=zbf (ls.take j)++C.map Cl.name:=by
 unfold zbf
 rw [List.take_add_one,h]
 simp

theorem znF {TV:World->Prop} (hText:TextOk TV) (hPlay:zfL) (hSettle:zdS) (hIdle:zfN) (v0 v1 v2:Value) (A C:List Cl) (steps:List (Int×Int)) (w:World) (hTV:TV w) (h0:zaj 4 zbX w v0 A) (h1:zaj 4 zbX w v1 C) (h2:zar w v2 steps) :
  zaw Tryz.prog 6 #[v0,v1,v2] w fun r _=>r=.bool true:=by
 refine zcP ?_;have HSTP:=zhd h2;have HA:=zhd h0;have HC:=zhd h1;obtain ⟨ta,tc,rfl⟩:=zao h2;obtain ⟨aa,ac,rfl⟩:=zaf h0;obtain ⟨ba,bc,rfl⟩:=zaf h1;clear h0 h1 h2;have HTX:=zhd hText;have HPL:=zhd hPlay;have HSE:=zhd hSettle;have HIO:=zhd hIdle;have HTV:=zhd hTV;clear hText hPlay hSettle hIdle hTV;have EW:=zhd (Ext.refl w);obtain ⟨B,HB0⟩:∃ B:Nat->Prop,Hid (∀ k,B k↔True):=⟨_,fun _=>Iff.rfl⟩;go_enter Tryz.func6,Tryz.ntmps6
 go_wp2_with fail
 refine (zd9 HTX.o HPL.o HSE.o HIO.o w (HTX.o.ext _ _ HTV.o EW.o)).to fun r wl el hr=>?_;subst hr;replace EW:=zhd (EW.o.trans el);clear el;by_cases hg:8 < A.length
 case pos =>
  have hb:decide ((8:Int) < (A.length:Int))=true:=decide_eq_true (by omega);go_wp2
  go_ret
  exact ⟨rfl,EW.o⟩
 have hb1:decide ((8:Int) < (A.length:Int))=false:=decide_eq_false (by omega);have Hhb1:Hid (A.length<=8):=by unfold Hid; omega
 clear hg;by_cases hg:8 < C.length
 case pos =>
  have hb:decide ((8:Int) < (C.length:Int))=true:=decide_eq_true (by omega);go_wp2
  go_ret
  exact ⟨rfl,EW.o⟩
 have hb2:decide ((8:Int) < (C.length:Int))=false:=decide_eq_false (by omega);have Hhb2:Hid (C.length<=8):=by unfold Hid; omega
 clear hg;by_cases hg:400 < steps.length
 case pos =>
  have hb:decide ((400:Int) < (steps.length:Int))=true:=decide_eq_true (by omega);go_wp2
  go_ret
  exact ⟨rfl,EW.o⟩
 have hb3:decide ((400:Int) < (steps.length:Int))=false:=decide_eq_false (by omega);have h400:Hid (steps.length<=400):=by unfold Hid; omega
 clear hg;go_wp2_with ((with_reducible refine zsm ?_ ?_); exact rfl)
 unfold Hid;clear hb1 hb2 hb3;refine zh8 rfl 56 3 4 rfl (fun bm wm hs0 hbm hem=>?_);have E0:=EW;replace HA:=zhd (HA.o.ext zbl EW.o);replace HC:=zhd (HC.o.ext zbl EW.o);replace EW:=hem;have HST:=hs0;clear hs0 hem;go_wp2_with (with_reducible refine zT ?_)
 unfold Hid;refine zbe rfl 46 2 #[.slice aa A.length ac,.slice ba C.length bc] (by kernel_rfl) (fun b38 w1_ M1=>?_);have zvn:=zmb M1;obtain ⟨ls,hls⟩:∃ x,[A,C]=x:=⟨_,rfl⟩;have HLS:=zhd hls;replace HA:=zhd (HA.o.ext zbl EW.o);replace HC:=zhd (HC.o.ext zbl EW.o)
 have hv:zaj 1 zeB w1_ (.slice (some ⟨b38,0,none⟩) 2 2) ls:=by
  rw [<- hls]
  exact ⟨[[.slice aa A.length ac],[.slice ba C.length bc]],⟨rfl,fun i c x hc hx=>by
   match i,hc,hx with
   | 0,hc,hx=>cases hc; cases hx; exact ⟨rfl,_,rfl,HA.o.ext zbl M1.o.ext⟩
   | 1,hc,hx=>cases hc; cases hx; exact ⟨rfl,_,rfl,HC.o.ext zbl M1.o.ext⟩
   | i+2,hc,hx=>simp at hc⟩,Row.of_owns (zbB (base:=0) M1.o (Nat.zero_le _) rfl (by decide))⟩
 replace HST:=zhd (HST.o.ext M1.o.ext);obtain ⟨es,cl,hmb⟩:=HST.o.map;obtain ⟨V3,HV3⟩:∃ X:Nat->Prop,Hid (∀ k,X k↔(k < w1_.heap.size/\k≠bm)):=⟨_,fun _=>Iff.rfl⟩;have HV:Hid (Rd V3 (fun w=>zaj 1 zeB w (.slice (some ⟨b38,0,none⟩) 2 2) ls/\zaj 4 zbX w (.slice aa A.length ac) A/\zaj 4 zbX w (.slice ba C.length bc) C) w1_):=Rd.widen (Rd.and (zoB hv hmb) (Rd.and (zdY (HA.o.ext zbl M1.o.ext) hmb) (zdY (HC.o.ext zbl M1.o.ext) hmb))) (fun k _ h=>(HV3.o k).2 h);have NV3:Hid (¬ V3 bm):=fun h=>((HV3.o _).1 h).2 rfl;have HLL:Hid (ls.length=2):=by unfold Hid; rw [<- hls]; rfl
 have HL8:Hid (∀ (k:Nat) (c:List Cl),ls[k]?=some c->c.length<=8):=fun k c hk=>by
  rw [<- hls] at hk;match k,hk with
  | 0,hk=>cases hk; exact Hhb1.o
  | 1,hk=>cases hk; exact Hhb2.o
  | k+2,hk=>simp at hk
 clear hv hls hmb HA HC zvn;go_wp2_with fail
 replace EW:=zet EW M1;go_loopw [40] (fun i wr=>∃ j:Nat,j<=2/\i=I j/\(∀ k c,k < j->c ∈ ls.getD k []->OkC k c)/\zeF Tryz.prog 3 4 bm (j * 8) (zbf (ls.take j)) wr/\Rd V3 (fun w=>zaj 1 zeB w (.slice (some ⟨b38,0,none⟩) 2 2) ls/\zaj 4 zbX w (.slice aa A.length ac) A/\zaj 4 zbX w (.slice ba C.length bc) C) wr/\Ext wl wr) (fun i _=>2 - (intOf i).toNat)
 case atStart=>exact ⟨0,by decide,rfl,fun k c hk=>absurd hk (Nat.not_lt_zero _),HST.o,HV.o,EW.o⟩
 case round =>
  obtain ⟨j,hj,rfl,hok,hs,hv,hex⟩:=hrel;clear HST HV EW;have HST:=zhd hs;have HV:=zhd hv;have EW:=zhd hex;have HOK:=zhd hok;clear hs hv hex hok;by_cases hlt:j < 2
  case pos =>
   obtain ⟨D,hD⟩:∃ x,ls[j]?=some x:=⟨ls[j]'(by rw [HLL.o]; exact hlt),List.getElem?_eq_getElem _⟩;obtain ⟨_,_,e1,_,_,cvs,_,hcv⟩:=zjc HV.o.o.1;simp only [Value.slice.injEq] at e1;obtain ⟨rfl,-,rfl⟩:=e1;obtain ⟨vb,vo,cv,e2,-,lc0,hrow⟩:=hcv j D hD;simp only [Option.some.injEq,Addr.mk.injEq,and_true] at e2;obtain ⟨rfl,rfl⟩:=e2;obtain ⟨la2,lcap2,rfl⟩:=zaf hrow;have HDR:Hid (Rd V3 (fun w=>zaj 4 zbX w (.slice la2 D.length lcap2) D) wr):=zmE HV.o.left hD lc0 HLL.o.symm;rw [Nat.zero_add] at lc0;have HD:=zhd hD;have HD8:Hid (D.length<=8):=HL8.o j D hD;have HLT:=zhd hlt;have hli:(j:Int) < 2:=by omega
   have hl0:(0:Int)<=(j:Int):=by omega
   clear hcv hrow hD hlt hj;go_wp2_with fail
   clear lc0 hli hl0;rename World=>wx;go_loopw [47] (fun i wr=>∃ t:Nat,t<=D.length/\i=I t/\(∀ c ∈ D.take t,OkC j c)/\zeF Tryz.prog 3 4 bm (j * 8+t) (zbf (ls.take j)++(D.take t).map Cl.name) wr/\Rd V3 (fun w=>zaj 1 zeB w (.slice (some ⟨b38,0,none⟩) 2 2) ls/\zaj 4 zbX w (.slice aa A.length ac) A/\zaj 4 zbX w (.slice ba C.length bc) C) wr/\Rd V3 (fun w=>zaj 4 zbX w (.slice la2 D.length lcap2) D) wr/\Ext wl wr) (fun i _=>D.length - (intOf i).toNat)
   case atStart=>exact ⟨0,Nat.zero_le _,rfl,fun c hc=>by (simp at hc),by simpa using HST.o,HV.o,HDR.o,EW.o⟩
   case round =>
    obtain ⟨t,ht,rfl,hin,hs,hv,hdr,hex⟩:=hrel;clear HST HV HDR EW;have HST:=zhd hs;have HV:=zhd hv;have HDR:=zhd hdr;have EW:=zhd hex;have HIN:=zhd hin;clear hs hv hdr hex hin;by_cases hlt:t < D.length
    case pos =>
     obtain ⟨x,hx⟩:∃ x,D[t]?=some x:=⟨D[t],List.getElem?_eq_getElem hlt⟩;obtain ⟨_,_,e1,_,_,hf⟩:=znk HDR.o.o;simp only [Value.slice.injEq,true_and] at e1;obtain ⟨rfl,rfl⟩:=e1;obtain ⟨cb,co,rfl,d0,d1,d2,d3⟩:=hf t x hx;have HX:=zhd hx;have HLT2:=zhd hlt;obtain ⟨ck,ca,co2,cn⟩:=x;simp only [] at d0 d1 d2 d3;have hli:(t:Int) < (D.length:Int):=by omega
     have hl0:(0:Int)<=(t:Int):=by omega
     clear hf hx hlt ht;go_wp2_with (with_reducible refine zT ?_)
     clear d0 d1 d2 d3 hli hl0;refine zac rfl 33 #[I 0,I 0,I 0,I 0] (by kernel_rfl) (fun b11 w801_ M801=>?_);obtain ⟨V31,HV31⟩:=zEx V3 b11;have zhH:=zNn HV31;have zuM:=zIn HV31;have znj:Hid (wl.heap.size<=b11):=by unfold Hid; have q2:=M801.o.at_; have q3:=EW.o.size; omega
     have zbJ:=zmb M801;go_wp2_with (with_reducible refine zT ?_)
     refine zaa rfl 33 (.tmp 11) (.tmp 50) rfl b11 rfl [I ck,I ca,I co2,I cn] (rfl) zbJ rfl zum rfl (fun w802_ M802=>?_);replace HST:=zhd ((zhd (HST.o.ext M801.o.ext)).o.kept zbJ.o M802.o.grown);replace zbJ:=zwb M802;have e0:=zae (i:=0) zbJ.o rfl;have e1:=zae (i:=1) zbJ.o rfl;have e2:=zae (i:=2) zbJ.o rfl;have e3:=zae (i:=3) zbJ.o rfl;have hj2:=HLT.o;have hw1:IntKind.i64.wrap (100 * (j:Int))=100 * (j:Int):=by rw [IntKind.wrap_i64]; omega
     have hw2:IntKind.i64.wrap (1+100 * (j:Int))=1+100 * (j:Int):=by rw [IntKind.wrap_i64]; omega
     have hw3:IntKind.i64.wrap (99+100 * (j:Int))=99+100 * (j:Int):=by rw [IntKind.wrap_i64]; omega
     clear hj2;replace HV:=zwr M802 (zme M801 (zmd HV31 M801 HV)) zhH;replace HDR:=zwr M802 (zme M801 (zmd HV31 M801 HDR)) zhH;replace EW:=zwe M802 (zet EW M801) znj;by_cases hg:ck < 1
     case pos =>
      have hb:=decide_eq_true hg;go_wp2
      go_ret
      exact ⟨rfl,E0.o.trans EW.o⟩
     have b1:decide (ck < 1)=false:=decide_eq_false hg;have p1:=hg;clear hg;by_cases hg:4 < ck
     case pos =>
      have hb:=decide_eq_true hg;go_wp2
      go_ret
      exact ⟨rfl,E0.o.trans EW.o⟩
     have b2:decide (4 < ck)=false:=decide_eq_false hg;have p2:=hg;clear hg;by_cases hg:ca < 1+100 * (j:Int)
     case pos =>
      have hb:=decide_eq_true hg;go_wp2
      go_ret
      exact ⟨rfl,E0.o.trans EW.o⟩
     have b3:decide (ca < 1+100 * (j:Int))=false:=decide_eq_false hg;have p3:=hg;clear hg;by_cases hg:99+100 * (j:Int) < ca
     case pos =>
      have hb:=decide_eq_true hg;go_wp2
      go_ret
      exact ⟨rfl,E0.o.trans EW.o⟩
     have b4:decide (99+100 * (j:Int) < ca)=false:=decide_eq_false hg;have p4:=hg;clear hg;by_cases hg:co2=0
     case neg =>
      have hb:(co2 != 0)=true:=by simpa using hg
      go_wp2
      go_ret
      exact ⟨rfl,E0.o.trans EW.o⟩
     subst hg;by_cases hg:cn < -1000
     case pos =>
      have hb:=decide_eq_true hg;go_wp2
      go_ret
      exact ⟨rfl,E0.o.trans EW.o⟩
     have b6:decide (cn < -1000)=false:=decide_eq_false hg;have p6:=hg;clear hg;by_cases hg:1000 < cn
     case pos =>
      have hb:=decide_eq_true hg;go_wp2
      go_ret
      exact ⟨rfl,E0.o.trans EW.o⟩
     have b7:decide (1000 < cn)=false:=decide_eq_false hg;have p7:=hg;clear hg;by_cases hg:ck≠1/\ck≠4/\cn≠0
     case pos =>
      have hb1:(ck != 1)=true:=by simpa using hg.1
      have hb2:(ck != 4)=true:=by simpa using hg.2.1
      have hb3:(cn != 0)=true:=by simpa using hg.2.2
      go_wp2
      go_ret
      exact ⟨rfl,E0.o.trans EW.o⟩
     have HOC:Hid (OkC j ⟨ck,ca,0,cn⟩):=⟨by simp only []; omega,by simp only []; omega,rfl,by simp only []; omega,fun h1 h2=>Classical.byContradiction fun h3=>hg ⟨h1,h2,h3⟩⟩
     have b8:(ck != 1 && (ck != 4 && cn != 0))=false:=by
      cases hq:(ck != 1 && (ck != 4 && cn != 0)) with
      | false=>rfl
      | true =>
       simp only [Bool.and_eq_true,bne_iff_ne] at hq;exact absurd hq hg
     clear p1 p2 p3 p4 p6 p7 hg;by_cases hk1:ck=1
     case pos =>
      subst hk1;have c1:((1:Int) != 1)=false:=rfl;go_wp2_with ((with_reducible refine zsp ?_ ?_); exact rfl)
      unfold Hid;have hy:(Lit.int .i64 ca).wf=true:=zfT (by have q:=HOC.o.name; have q2:=HLT.o; simp only [] at q; omega);refine zeG rfl (.tmp 105) (.tmp 107) (.const (.bool true)) 56 3 4 rfl zu3 znf zu4 bm (j * 8+t) (zbf (ls.take j)++(D.take t).map Cl.name) rfl ca rfl hy rfl (by have q:=HLT.o; have q2:=HLT2.o; have q3:=HD8.o; unfold maxLen; omega) HST.o (fun w2 hs2 hg2=>?_);obtain ⟨es,cl,hmb⟩:=HST.o.map;replace EW:=zhd (EW.o.grown hg2.o (fun k hk=>by cases hk; exact hbm.o));have hnX:¬ V31 bm:=fun h=>NV3.o (zuM.o _ h);replace HV:=zhd ((HV.o.grown hg2.o (fun k hk=>by cases hk; exact hnX)).widen (B:=V3) fun k _ h=>zuM.o k h);replace HDR:=zhd ((HDR.o.grown hg2.o (fun k hk=>by cases hk; exact hnX)).widen (B:=V3) fun k _ h=>zuM.o k h);have hkb:t < 2000:=by have q:=HLT2.o; have q2:=HD8.o; omega
      have htk:D.take (t+1)=D.take t++[⟨1,ca,0,cn⟩]:=by
       rw [List.take_add_one,HX.o];rfl
      clear hmb hnX hy;go_wp2
      go_roundw
      case rel =>
       refine ⟨t+1,HLT2.o,by go_num,fun c hc=>?_,?_,HV.o,HDR.o,EW.o⟩
       ·rw [htk,List.mem_append,List.mem_singleton] at hc;rcases hc with hc | rfl
        ·exact HIN.o c hc
        ·exact HOC.o
       ·rw [htk,List.map_append,<- List.append_assoc];exact hs2.o
      case measure=>have:=HLT2.o; simp [intOf]; omega
     have c1:(ck != 1)=true:=by simpa using hk1
     by_cases hk4:ck=4
     case pos =>
      subst hk4;go_wp2_with ((with_reducible refine zsp ?_ ?_); exact rfl)
      unfold Hid;have hy:(Lit.int .i64 ca).wf=true:=zfT (by have q:=HOC.o.name; have q2:=HLT.o; simp only [] at q; omega);refine zeG rfl (.tmp 105) (.tmp 107) (.const (.bool true)) 56 3 4 rfl zu3 znf zu4 bm (j * 8+t) (zbf (ls.take j)++(D.take t).map Cl.name) rfl ca rfl hy rfl (by have q:=HLT.o; have q2:=HLT2.o; have q3:=HD8.o; unfold maxLen; omega) HST.o (fun w2 hs2 hg2=>?_);obtain ⟨es,cl,hmb⟩:=HST.o.map;replace EW:=zhd (EW.o.grown hg2.o (fun k hk=>by cases hk; exact hbm.o));have hnX:¬ V31 bm:=fun h=>NV3.o (zuM.o _ h);replace HV:=zhd ((HV.o.grown hg2.o (fun k hk=>by cases hk; exact hnX)).widen (B:=V3) fun k _ h=>zuM.o k h);replace HDR:=zhd ((HDR.o.grown hg2.o (fun k hk=>by cases hk; exact hnX)).widen (B:=V3) fun k _ h=>zuM.o k h);have hkb:t < 2000:=by have q:=HLT2.o; have q2:=HD8.o; omega
      have htk:D.take (t+1)=D.take t++[⟨4,ca,0,cn⟩]:=by
       rw [List.take_add_one,HX.o];rfl
      clear hmb hnX hy;go_wp2
      go_roundw
      case rel =>
       refine ⟨t+1,HLT2.o,by go_num,fun c hc=>?_,?_,HV.o,HDR.o,EW.o⟩
       ·rw [htk,List.mem_append,List.mem_singleton] at hc;rcases hc with hc | rfl
        ·exact HIN.o c hc
        ·exact HOC.o
       ·rw [htk,List.map_append,<- List.append_assoc];exact hs2.o
      case measure=>have:=HLT2.o; simp [intOf]; omega
     have c2:(ck != 4)=true:=by simpa using hk4
     have hc0:cn=0:=HOC.o.none hk1 hk4;subst hc0;go_wp2_with ((with_reducible refine zsp ?_ ?_); exact rfl)
     unfold Hid;have hy:(Lit.int .i64 ca).wf=true:=zfT (by have q:=HOC.o.name; have q2:=HLT.o; simp only [] at q; omega);refine zeG rfl (.tmp 105) (.tmp 107) (.const (.bool true)) 56 3 4 rfl zu3 znf zu4 bm (j * 8+t) (zbf (ls.take j)++(D.take t).map Cl.name) rfl ca rfl hy rfl (by have q:=HLT.o; have q2:=HLT2.o; have q3:=HD8.o; unfold maxLen; omega) HST.o (fun w2 hs2 hg2=>?_);obtain ⟨es,cl,hmb⟩:=HST.o.map;replace EW:=zhd (EW.o.grown hg2.o (fun k hk=>by cases hk; exact hbm.o));have hnX:¬ V31 bm:=fun h=>NV3.o (zuM.o _ h);replace HV:=zhd ((HV.o.grown hg2.o (fun k hk=>by cases hk; exact hnX)).widen (B:=V3) fun k _ h=>zuM.o k h);replace HDR:=zhd ((HDR.o.grown hg2.o (fun k hk=>by cases hk; exact hnX)).widen (B:=V3) fun k _ h=>zuM.o k h);have hkb:t < 2000:=by have q:=HLT2.o; have q2:=HD8.o; omega
     have htk:D.take (t+1)=D.take t++[⟨ck,ca,0,0⟩]:=by
      rw [List.take_add_one,HX.o];rfl
     clear hmb hnX hy;go_wp2
     go_roundw
     case rel =>
      refine ⟨t+1,HLT2.o,by go_num,fun c hc=>?_,?_,HV.o,HDR.o,EW.o⟩
      ·rw [htk,List.mem_append,List.mem_singleton] at hc;rcases hc with hc | rfl
       ·exact HIN.o c hc
       ·exact HOC.o
      ·rw [htk,List.map_append,<- List.append_assoc];exact hs2.o
     case measure=>have:=HLT2.o; simp [intOf]; omega
    obtain ⟨J,hJ⟩:∃ x,D.length=x:=⟨_,rfl⟩;obtain rfl:t=J:=by omega
    subst hJ;have hkb:j < 2000:=by have q:=HLT.o; omega
    have hin:=HIN.o;have hs0:=HST.o;rw [List.take_of_length_le (Nat.le_refl _)] at hin hs0;rw [<- znI HD.o] at hs0;have hd8:=HD8.o;clear hlt ht;go_wp2
    go_roundw
    case rel =>
     refine ⟨j+1,HLT.o,by go_num,fun k c hk hc=>?_,World.ownsMap.mono hs0 (by omega),HV.o,EW.o⟩;by_cases hkj:k=j
     ·subst hkj;rw [List.getD_eq_getElem?_getD,HD.o] at hc;exact hin c hc
     ·exact HOK.o k c (by omega) hc
    case measure=>have:=HLT.o; simp [intOf]; omega
  obtain rfl:j=2:=by omega
  have hs0:=HST.o;have htk:ls.take 2=ls:=List.take_of_length_le (by rw [HLL.o]; exact Nat.le_refl _);rw [htk] at hs0;have HST2:=zhd hs0;have HOA:Hid (∀ c ∈ A,OkC 0 c):=fun c hc=>HOK.o 0 c (by decide) (by rw [<- HLS.o]; exact hc);have HOC2:Hid (∀ c ∈ C,OkC 1 c):=fun c hc=>HOK.o 1 c (by decide) (by rw [<- HLS.o]; exact hc);have HVA:=zhd HV.o.o.2.1;have HVC:=zhd HV.o.o.2.2;replace EW:=zhd (E0.o.trans EW.o);clear hlt hj HST hs0 htk HV HOK E0;rename World=>wc;go_wp2_with (at_len; refine zb7 ?_)
  unfold Hid;refine zhk rfl (.tmp 110) 56 3 4 rfl znf bm (2 * 8) (zbf ls) rfl HST2.o ?_;rw [zko];by_cases h5:5 < (Mk.distinct (zbf ls)).length
  case pos =>
   have hb:decide ((5:Int) < ((Mk.distinct (zbf ls)).length:Int))=true:=decide_eq_true (by omega);go_wp2
   go_ret
   exact ⟨rfl,EW.o⟩
  have hb:decide ((5:Int) < ((Mk.distinct (zbf ls)).length:Int))=false:=decide_eq_false (by omega);have HN5:Hid ((Mk.distinct (zbf ls)).length<=5):=by unfold Hid; omega
  clear h5 HST2;go_wp2_with fail
  clear hb;refine (HTX.o.print _ A wc (HTX.o.ext _ _ HTV.o EW.o) HVA.o (fun c hc=>zcA (by decide:0 < 2) (HOA.o c hc)) (by have q:=Hhb1.o; omega)).to fun r wp ep hr=>?_;replace hr:r=SS (printCl A):=hr;subst hr;have HLPA:Hid ((printCl A).length<=100000):=Nat.le_trans (HTX.o.len _ (fun c hc=>zcA (by decide:0 < 2) (HOA.o c hc))) (by have q:=Hhb1.o; omega);obtain ⟨PA,hpPA⟩:∃ x,printCl A=x:=⟨_,rfl⟩;have HPPA:=zhd hpPA;rw [hpPA];clear hpPA;replace HVA:=zhd (HVA.o.ext zbl ep);replace HVC:=zhd (HVC.o.ext zbl ep);replace EW:=zhd (EW.o.trans ep);clear ep;go_wp2_with fail
  refine (HTX.o.print _ C wp (HTX.o.ext _ _ HTV.o EW.o) HVC.o (fun c hc=>zcA (by decide:1 < 2) (HOC2.o c hc)) (by have q:=Hhb2.o; omega)).to fun r wq ep hr=>?_;replace hr:r=SS (printCl C):=hr;subst hr;have HLPB:Hid ((printCl C).length<=100000):=Nat.le_trans (HTX.o.len _ (fun c hc=>zcA (by decide:1 < 2) (HOC2.o c hc))) (by have q:=Hhb2.o; omega);obtain ⟨PB,hpPB⟩:∃ x,printCl C=x:=⟨_,rfl⟩;have HPPB:=zhd hpPB;rw [hpPB];clear hpPB;replace HVA:=zhd (HVA.o.ext zbl ep);replace HVC:=zhd (HVC.o.ext zbl ep);replace EW:=zhd (EW.o.trans ep);clear ep;go_wp2_with (with_reducible refine zT ?_)
  unfold Hid;refine zbe rfl 9 2 #[SS PA,SS PB] (by kernel_rfl) (fun b118 w1501_ M1501=>?_);have zuv:=zmb M1501
  have HSS:Hid (zlu w1501_ (.slice (some ⟨b118,0,none⟩) 2 2) [printCl A,printCl C]):=by
   have q:w1501_.ownsRow 0 9 1 (.slice (some ⟨b118,0,none⟩) 2 2) 2 [SS PA,SS PB]:=zbB M1501.o (Nat.zero_le _) rfl (by decide);rw [HPPA.o,HPPB.o];exact Row.of_owns q
  clear zuv;go_wp2_with fail
  obtain ⟨S,hS⟩:∃ x,zlA [A,C] steps=x:=⟨_,rfl⟩;have hrt:=zoH Hhb1.o Hhb2.o HOA.o HOC2.o;have hfx:=zgJ hrt steps;rw [hS] at hfx;have FX:=zhd hfx;have HFM:=zhd hS;have HRT:=zhd hrt;clear hfx hS hrt;replace EW:=zet EW M1501;refine ((zdj HTX.o HPL.o HSE.o HIO.o _ _ [printCl A,printCl C] [A,C] steps w1501_ (HTX.o.ext _ _ HTV.o EW.o) HSS.o (HSTP.o.ext EW.o) (zqL HRT.o HLPA.o HLPB.o) HRT.o h400.o).mono fun r w' _ h=>(by rw [HFM.o] at h; exact h)).to fun r ws es9 hr=>?_;obtain ⟨cs,rfl,hcs⟩:=hr;obtain ⟨c9,u9,a9,p9,box9,plan9,cl9,rfl,hM⟩:=zcu (Rd.widen (B:=fun k=>k < ws.heap.size) (Rd.of (φ:=fun w=>zdi w cs S) (fun w w' hk h=>zhN w w' _ _ hk h) hcs) (fun _ _ h=>h));obtain ⟨ca9,cc9,ua9,uc9,aa9,ac9,pa9,pc9,xa9,xc9,la9,lc9,ka9,kc9,rfl,rfl,rfl,rfl,rfl,rfl,rfl⟩:=hM.slices;obtain ⟨Z9,HZ9⟩:∃ X:Nat->Prop,Hid (∀ k,X k↔k < ws.heap.size):=⟨_,fun _=>Iff.rfl⟩;have X9:=zhd (hM.widen (B:=Z9) fun k _ h=>(HZ9.o k).2 h);clear hcs hM;replace HVA:=zhd ((zhd (HVA.o.ext zbl M1501.o.ext)).o.ext zbl es9);replace HVC:=zhd ((zhd (HVC.o.ext zbl M1501.o.ext)).o.ext zbl es9);replace EW:=zhd (EW.o.trans es9);clear es9;clear HSS HFM HPPA HPPB;have HRW:=zhd (Rd.widen (B:=Z9) (Rd.and (Rd.of (zco zoR _ _) HVA.o) (Rd.of (zco zoR _ _) HVC.o)) (fun k _ h=>(HZ9.o k).2 h));replace HRW:Hid (Rd Z9 (fun w=>zaj 4 zbX w (.slice aa A.length ac) A/\zaj 4 zbX w (.slice ba C.length bc) C) ws):=HRW
  have HTX2:Hid (∀ k c,S.clients[k]?=some c->k < 2/\c.got=(zfd (ls.getD k [])).2):=fun k c hc=>by
   have hk:k < 2:=by have q:=(List.getElem?_eq_some_iff.1 hc).1; rw [FX.o.nc] at q; exact q
   obtain ⟨g1,g2⟩:=FX.o.got hc;refine ⟨hk,?_⟩;rw [g2,<- HLS.o];exact zpR FX.o HOA.o HOC2.o (by rw [HLS.o]; exact HN5.o) hk
  clear HVA HVC;go_wp2_with (with_reducible refine zT ?_)
  refine zac rfl 43 zM (by kernel_rfl) (fun b12 w1502_ M1502=>?_);obtain ⟨Z91,HZ91⟩:=zEx Z9 b12;have ztW:=zNn HZ91;have zuS:=zOn M1502 EW;have zc6:=zmb M1502;go_wp2_with (with_reducible refine zT ?_)
  refine zaa rfl 43 (.tmp 12) (.tmp 121) rfl b12 rfl [.slice ca9 S.store.cells.length cc9,.slice ua9 S.store.undo.length uc9,.slice aa9 S.store.answers.length ac9,.slice pa9 S.store.past.length pc9,I S.server.gen,.slice xa9 S.server.box.length xc9,.bool S.server.busy,I S.server.now.client,I S.server.now.token,I S.server.now.call.kind,I S.server.now.call.name,I S.server.now.call.other,I S.server.now.call.n,.slice la9 S.server.plan.length lc9,I S.server.says.err,I S.server.says.n,.bool S.up,I S.pause,I S.falls,.slice ka9 S.clients.length kc9] (rfl) zc6 rfl zaT rfl (fun w1503_ M1503=>?_);replace zc6:=zwb M1503;go_wp2_with (with_reducible refine zT ?_)
  unfold Hid;refine zbe rfl 46 2 #[.slice aa A.length ac,.slice ba C.length bc] (by kernel_rfl) (fun b127 w1504_ M1504=>?_);have zux:=zmb M1504;replace HRW:=zme M1504 (zwr M1503 (zme M1502 (zmd HZ91 M1502 HRW)) ztW)
  have HV2:Hid (zaj 1 zeB w1504_ (.slice (some ⟨b127,0,none⟩) 2 2) ls):=by
   unfold Hid;rw [<- HLS.o]
   exact ⟨[[.slice aa A.length ac],[.slice ba C.length bc]],⟨rfl,fun i c x hc hx=>by
    match i,hc,hx with
    | 0,hc,hx=>cases hc; cases hx; exact ⟨rfl,_,rfl,HRW.o.o.1⟩
    | 1,hc,hx=>cases hc; cases hx; exact ⟨rfl,_,rfl,HRW.o.o.2⟩
    | i+2,hc,hx=>simp at hc⟩,Row.of_owns (zbB (base:=0) M1504.o (Nat.zero_le _) rfl (by decide))⟩
  clear HRW zux;go_wp2_with fail
  replace EW:=zet (zwe M1503 (zet EW M1502) zuS) M1504;have E2:=EW;replace EW:=zhd (Ext.refl w1504_);replace X9:=zhd ((zHw M1503 (zhd ((zMD HZ91 M1502 X9).o.ext M1502.o.ext)) ztW).o.ext M1504.o.ext);replace zc6:=zmo M1504 zc6;go_loopw [129] (fun i wr=>∃ j:Nat,j<=2/\i=I j/\Ext w1504_ wr) (fun i _=>2 - (intOf i).toNat)
  case atStart=>exact ⟨0,by decide,rfl,Ext.refl _⟩
  case round =>
   obtain ⟨j,hj,rfl,hex⟩:=hrel;have hv2:=HV2.o.ext zrV hex;replace zc6:=zbx zc6 hex;replace X9:=zhd (X9.o.ext hex);replace EW:=zhd (EW.o.trans hex);clear hex;by_cases hlt:j < 2
   case neg =>
    obtain rfl:j=2:=by omega
    go_wp2
    go_ret
    exact ⟨rfl,E2.o.trans EW.o⟩
   obtain ⟨D,hD⟩:∃ x,ls[j]?=some x:=⟨ls[j]'(by rw [HLL.o]; exact hlt),List.getElem?_eq_getElem _⟩;obtain ⟨_,_,e1,_,_,cvs,_,hcv⟩:=zjc hv2;simp only [Value.slice.injEq] at e1;obtain ⟨rfl,-,rfl⟩:=e1;obtain ⟨vb,vo,cv,e2,-,lc0,hrow⟩:=hcv j D hD;simp only [Option.some.injEq,Addr.mk.injEq,and_true] at e2;obtain ⟨rfl,rfl⟩:=e2;rw [Nat.zero_add] at lc0;obtain ⟨la2,lcap2,rfl⟩:=zaf hrow;have HDR:=zhd hrow;have HD:=zhd hD;have HD8:Hid (D.length<=8):=HL8.o j D hD
   have HOD:Hid (∀ c ∈ D,OkC j c):=by
    unfold Hid;rw [<- HLS.o] at hD;match j,hD with
    | 0,hD=>cases hD; exact HOA.o
    | 1,hD=>cases hD; exact HOC2.o
    | j+2,hD=>simp at hD
   have HND:Hid (∀ c ∈ D,c.name ∈ Mk.distinct (zbf ls)):=fun c hc=>(zft c.name _ []).2 (.inr (by
    unfold zbf;exact List.mem_map.2 ⟨c,List.mem_flatten.2 ⟨D,List.mem_of_getElem? HD.o,hc⟩,rfl⟩))
   have HLT:=zhd hlt;have HWD:Hid (∀ c ∈ D,wrongCl c=0):=fun c hc=>zcA HLT.o (HOD.o c hc);have HRD:=zhd (zon HD8.o HWD.o);have hli:(j:Int) < 2:=by omega
   have hl0:(0:Int)<=(j:Int):=by omega
   clear hcv hrow hD hlt hj hv2;go_wp2_with fail
   clear lc0 hli hl0;refine (HTX.o.print _ D wr (HTX.o.ext _ _ HTV.o (E2.o.trans EW.o)) HDR.o HWD.o (by have q:=HD8.o; omega)).to fun r wd ed hr=>?_;replace hr:r=SS (printCl D):=hr;subst hr;have HLD:Hid ((printCl D).length<=100000):=Nat.le_trans (HTX.o.len _ HWD.o) (by have q:=HD8.o; omega);obtain ⟨PD,hpd⟩:∃ x,printCl D=x:=⟨_,rfl⟩;have HPD:=zhd hpd;rw [hpd];clear hpd HDR;replace zc6:=zbx zc6 ed;replace X9:=zhd (X9.o.ext ed);replace EW:=zhd (EW.o.trans ed);clear ed;go_wp2_with (with_reducible refine zT ?_)
   unfold Hid;refine zbe rfl 9 1 #[SS PD] (by kernel_rfl) (fun b137 w2001_ M2001=>?_);have zua:=zmb M2001
   have HSS:Hid (zlu w2001_ (.slice (some ⟨b137,0,none⟩) 1 1) [printCl D]):=by
    have q:w2001_.ownsRow 0 9 1 (.slice (some ⟨b137,0,none⟩) 1 1) 1 [SS PD]:=zbB M2001.o (Nat.zero_le _) rfl (by decide);rw [HPD.o];exact Row.of_owns q
   clear zua;go_wp2_with fail
   obtain ⟨Y,hY⟩:∃ x,zlA [D] []=x:=⟨_,rfl⟩;have hfx:=zgJ HRD.o [];rw [hY] at hfx;have FY:=zhd hfx;have HFM:=zhd hY;clear hfx hY;replace EW:=zet EW M2001;refine ((zdj HTX.o HPL.o HSE.o HIO.o _ _ [printCl D] [D] [] w2001_ (HTX.o.ext _ _ HTV.o (E2.o.trans EW.o)) HSS.o (zbr _) (zqa HRD.o HLD.o) HRD.o (by decide)).mono fun r w' _ h=>(by rw [HFM.o] at h; exact h)).to fun r wy ey hr=>?_;obtain ⟨cs,rfl,hcs⟩:=hr;obtain ⟨c8,u8,a8,p8,box8,plan8,cl8,rfl,hM⟩:=zcu (Rd.widen (B:=fun k=>k < wy.heap.size) (Rd.of (φ:=fun w=>zdi w cs Y) (fun w w' hk h=>zhN w w' _ _ hk h) hcs) (fun _ _ h=>h));obtain ⟨ca8,cc8,ua8,uc8,aa8,ac8,pa8,pc8,xa8,xc8,la8,lc8,ka8,kc8,rfl,rfl,rfl,rfl,rfl,rfl,rfl⟩:=hM.slices;obtain ⟨Z8,HZ8⟩:∃ X:Nat->Prop,Hid (∀ k,X k↔k < wy.heap.size):=⟨_,fun _=>Iff.rfl⟩;have X8:=zhd (hM.widen (B:=Z8) fun k _ h=>(HZ8.o k).2 h);clear hcs hM;replace zc6:=zbx (zmo M2001 zc6) ey;replace X9:=zhd ((zhd (X9.o.ext M2001.o.ext)).o.ext ey);replace EW:=zhd (EW.o.trans ey);clear ey;replace X9:=zhd (X9.o.widen (B:=Z8) fun k hk _=>(HZ8.o k).2 hk)
   have HYG:Hid (∀ c,Y.clients[0]?=some c->c.got=(zfd D).2):=fun c hc=>by
    obtain ⟨g1,g2⟩:=FY.o.got hc;rw [g2];exact zp5 HLT.o FY.o HOD.o HN5.o HND.o
   clear HSS HFM HPD;go_wp2_with (with_reducible refine zT ?_)
   refine zac rfl 43 zM (by kernel_rfl) (fun b16 w2002_ M2002=>?_);have zpH:=zld zc6 M2002;obtain ⟨Z81,HZ81⟩:=zEx Z8 b16;have ztN:=zNn HZ81;have zrQ:Hid (w1504_.heap.size<=b16):=by unfold Hid; have q2:=M2002.o.at_; have q3:=EW.o.size; omega
   have zeI:=zmb M2002;go_wp2_with (with_reducible refine zT ?_)
   refine zaa rfl 43 (.tmp 16) (.tmp 139) rfl b16 rfl [.slice ca8 Y.store.cells.length cc8,.slice ua8 Y.store.undo.length uc8,.slice aa8 Y.store.answers.length ac8,.slice pa8 Y.store.past.length pc8,I Y.server.gen,.slice xa8 Y.server.box.length xc8,.bool Y.server.busy,I Y.server.now.client,I Y.server.now.token,I Y.server.now.call.kind,I Y.server.now.call.name,I Y.server.now.call.other,I Y.server.now.call.n,.slice la8 Y.server.plan.length lc8,I Y.server.says.err,I Y.server.says.n,.bool Y.up,I Y.pause,I Y.falls,.slice ka8 Y.clients.length kc8] (rfl) zeI rfl zaT rfl (fun w2003_ M2003=>?_);replace zeI:=zwb M2003;obtain ⟨G,hG⟩:∃ g,(zfd D).2=g:=⟨_,rfl⟩;have HYG2:Hid (∀ c,Y.clients[0]?=some c->c.got=G):=by rw [<- hG]; exact HYG.o
   have HXG2:Hid (∀ c,S.clients[j]?=some c->c.got=G):=fun c hc=>by
    have q:=(HTX2.o j c hc).2;rw [List.getD_eq_getElem?_getD,HD.o] at q;rw [<- hG];exact q
   have HYN:Hid (Y.clients.length=1):=FY.o.nc;have HXN:Hid (S.clients.length=2):=FX.o.nc;clear hG HYG;replace X9:=zHw M2003 (zhd ((zMD HZ81 M2002 X9).o.ext M2002.o.ext)) ztN;obtain ⟨css1,hcs⟩:=zdo (by decide) X9.o.clients;obtain ⟨cc1,c1,hc0,hc,-⟩:=zeC (k:=j) hcs.left.o (by rw [HXN.o]; exact HLT.o);obtain ⟨kcalls,kbox,kgot,rfl,q1,q2,q3⟩:=zd2 (zdM hcs.left hc0 hc)
   obtain ⟨kb1,ko1,hka⟩:∃ b o,ka9=some ⟨b,o,none⟩:=by
    obtain ⟨_,_,e1,_,_,_,hf⟩:=X9.o.clients.o.form (by decide);simp only [Value.slice.injEq,true_and] at e1;obtain ⟨rfl,rfl⟩:=e1;obtain ⟨b,o,_,e2,_⟩:=hf _ _ hc;exact ⟨b,o,e2⟩
   subst hka;have hrg:=zcY (by decide) hcs.right.o hcs.left.o.sizes hc0;obtain ⟨kg1,kh1,rfl⟩:=zaf q3.o;have hgg:c1.got=G:=HXG2.o _ hc;have g51:=hrg 5 _ rfl;rw [hgg] at q3 g51;have G51:=zhd g51;have QQ1:=zhd q3;clear hcs hc0 hc q1 q2 q3 hrg hgg g51;replace X8:=zHw M2003 (zhd ((zMD HZ81 M2002 X8).o.ext M2002.o.ext)) ztN;obtain ⟨css2,hcs⟩:=zdo (by decide) X8.o.clients;obtain ⟨cc2,c2,hc0,hc,-⟩:=zeC (k:=0) hcs.left.o (by rw [HYN.o]; decide);obtain ⟨kcalls,kbox,kgot,rfl,q1,q2,q3⟩:=zd2 (zdM hcs.left hc0 hc)
   obtain ⟨kb2,ko2,hka⟩:∃ b o,ka8=some ⟨b,o,none⟩:=by
    obtain ⟨_,_,e1,_,_,_,hf⟩:=X8.o.clients.o.form (by decide);simp only [Value.slice.injEq,true_and] at e1;obtain ⟨rfl,rfl⟩:=e1;obtain ⟨b,o,_,e2,_⟩:=hf _ _ hc;exact ⟨b,o,e2⟩
   subst hka;have hrg:=zcY (by decide) hcs.right.o hcs.left.o.sizes hc0;obtain ⟨kg2,kh2,rfl⟩:=zaf q3.o;have hgg:c2.got=G:=HYG2.o _ hc;have g52:=hrg 5 _ rfl;rw [hgg] at q3 g52;have G52:=zhd g52;have QQ2:=zhd q3;clear hcs hc0 hc q1 q2 q3 hrg hgg g52;have G5A:Hid (w2003_.cell? ⟨kb1,ko1+j * 6+5,none⟩=some (.slice kg1 G.length kh1)):=G51.o;have G5B:Hid (w2003_.cell? ⟨kb2,ko2+5,none⟩=some (.slice kg2 G.length kh2)):=by have q:=G52.o; rw [Nat.zero_mul,Nat.add_zero] at q; exact q
   replace EW:=zwe M2003 (zet EW M2002) zrQ;have E5:=EW;have HXX:=zhd (Ext.refl w2003_);clear G51 G52;replace zc6:=zwl M2003 (zmo M2002 zc6) zpH;have x19:=zae (i:=19) zc6.o rfl;have y19:=zae (i:=19) zeI.o rfl;rw [HXN.o] at x19;rw [HYN.o] at y19;have a5:=G5A.o;have c5:=G5B.o;have hli:(j:Int) < 2:=by have q:=HLT.o; omega
   have hl0:(0:Int)<=(j:Int):=by omega
   go_wp2_with fail
   refine zbU [none,none,none,none,none,none,none,none,none,none,none,none,none,none,none,none,none,none] (by kernel_rfl) (by kernel_rfl) ?_ ?_
   ·exact ⟨trivial,trivial,trivial,trivial,trivial,trivial,trivial,trivial,trivial,trivial,trivial,trivial,trivial,trivial,trivial,trivial,trivial,trivial,trivial⟩
   iterate 4 (refine zat (fun K hK=>?_); go_simp; first | refine hK _ ?_ | refine ⟨(fun h=>by cases h),hK _ ?_⟩; clear hK K)
   refine zaK (.slice (some ⟨kb2,ko2,none⟩) 1 kc8) rfl (fun w' hw'=>by have q0:=hw'.cell y19; go_simp) ?_;refine zan fun K h=>?_; go_simp; refine h _ ?_; clear h K;iterate 2 (refine zat (fun K hK=>?_); go_simp; first | refine hK _ ?_ | refine ⟨(fun h=>by cases h),hK _ ?_⟩; clear hK K)
   refine zaK (.slice kg2 G.length kh2) rfl (fun w' hw'=>by have q0:=hw'.cell c5; go_simp) ?_;refine zan fun K h=>?_; go_simp; refine h _ ?_; clear h K;iterate 2 (refine zat (fun K hK=>?_); go_simp; first | refine hK _ ?_ | refine ⟨(fun h=>by cases h),hK _ ?_⟩; clear hK K)
   refine zaK (.slice (some ⟨kb1,ko1,none⟩) 2 kc9) rfl (fun w' hw'=>by have q0:=hw'.cell x19; go_simp) ?_;refine zan fun K h=>?_; go_simp; refine h _ ?_; clear h K;iterate 3 (refine zat (fun K hK=>?_); go_simp; first | refine hK _ ?_ | refine ⟨(fun h=>by cases h),hK _ ?_⟩; clear hK K)
   refine zaK (.slice kg1 G.length kh1) rfl (fun w' hw'=>by have q0:=hw'.cell a5; go_simp) ?_;refine zan fun K h=>?_; go_simp; refine h _ ?_; clear h K;iterate 3 (refine zat (fun K hK=>?_); go_simp; first | refine hK _ ?_ | refine ⟨(fun h=>by cases h),hK _ ?_⟩; clear hK K)
   refine za5 ?_;intro w6 e6 _;replace x19:=e6.cell x19;replace y19:=e6.cell y19;replace a5:=e6.cell a5;replace c5:=e6.cell c5;replace zc6:=zbx zc6 e6;replace zeI:=zbx zeI e6;replace X9:=zhd (X9.o.ext e6);replace X8:=zhd (X8.o.ext e6);replace QQ1:=zrx QQ1 e6;replace QQ2:=zrx QQ2 e6;replace EW:=zhd (EW.o.trans e6);clear e6;go_wp2_with fail
   have A5:=zhd a5;have E6:=EW;replace EW:=zhd (Ext.refl w6);clear x19 y19 a5 c5 hli hl0 HXX E5 G5A G5B;go_loopw [165] (fun i wr=>∃ t:Nat,t<=G.length/\i=I t/\Ext w6 wr) (fun i _=>G.length - (intOf i).toNat)
   case atStart=>exact ⟨0,Nat.zero_le _,rfl,Ext.refl _⟩
   case round =>
    obtain ⟨t,ht,rfl,hex⟩:=hrel;replace zc6:=zbx zc6 hex;replace zeI:=zbx zeI hex;replace X9:=zhd (X9.o.ext hex);replace X8:=zhd (X8.o.ext hex);replace QQ1:=zrx QQ1 hex;replace QQ2:=zrx QQ2 hex;replace EW:=zhd (EW.o.trans hex);clear hex;by_cases hlt:t < G.length
    case pos =>
     obtain ⟨x,hx⟩:∃ x,G[t]?=some x:=⟨G[t],List.getElem?_eq_getElem hlt⟩;obtain ⟨_,_,e1,hcc1,hcc2,hf⟩:=zdT QQ2.o.o;simp only [Value.slice.injEq,true_and] at e1;obtain ⟨rfl,rfl⟩:=e1;obtain ⟨gb,go2,rfl,d0,d1⟩:=hf t x hx;have HX:=zhd hx;have HLT2:=zhd hlt;have HGM:Hid (G.length<=maxLen):=Nat.le_trans hcc1 hcc2;obtain ⟨xe,xn⟩:=x;simp only [] at d0 d1;have hli:(t:Int) < (G.length:Int):=by omega
     have hl0:(0:Int)<=(t:Int):=by omega
     clear hf hx hlt ht hcc1 hcc2;go_wp2_with (with_reducible refine zT ?_)
     clear d0 d1 hli hl0;refine zac rfl 38 #[I 0,I 0] (by kernel_rfl) (fun b19 w3001_ M3001=>?_);have zqy:=zld zc6 M3001;have zqV:=zld zeI M3001;obtain ⟨Z811,HZ811⟩:=zEx Z81 b19;have zpv:=zNn HZ811;have zmA:Hid (w6.heap.size<=b19):=by unfold Hid; have q2:=M3001.o.at_; have q3:=EW.o.size; omega
     have zgF:=zmb M3001;go_wp2_with (with_reducible refine zT ?_)
     refine zaa rfl 38 (.tmp 19) (.tmp 169) rfl b19 rfl [I xe,I xn] (rfl) zgF rfl zp2 rfl (fun w3002_ M3002=>?_);replace zgF:=zwb M3002;replace QQ1:=zwr M3002 (zme M3001 (zmd HZ811 M3001 QQ1)) zpv;obtain ⟨_,_,e1,_,_,hf⟩:=zdT QQ1.o.o;simp only [Value.slice.injEq,true_and] at e1;obtain ⟨rfl,rfl⟩:=e1;obtain ⟨hb,ho2,e3,f0,f1⟩:=hf t ⟨xe,xn⟩ HX.o;subst e3;simp only [] at f0 f1;replace EW:=zwe M3002 (zet EW M3001) zmA;have a5:=EW.o.cell A5.o;have hst:Tryz.prog.stoodInHeld 38=false:=by kernel_rfl
     have hgd:Tryz.prog.eqGuardType Tryz.prog.depth 38=false:=by kernel_rfl
     have hli:(j:Int) < 2:=by have q:=HLT.o; omega
     have hl0:(0:Int)<=(j:Int):=by omega
     have hlt2:(t:Int) < (G.length:Int):=by have q:=HLT2.o; omega
     have hlt0:(0:Int)<=(t:Int):=by omega
     clear hf;replace zc6:=zwl M3002 (zmo M3001 zc6) zqy;have x19:=zae (i:=19) zc6.o rfl;rw [HXN.o] at x19;go_wp2_with fail
     replace X9:=zHw M3002 (zhd ((zMD HZ811 M3001 X9).o.ext M3001.o.ext)) zpv;replace X8:=zHw M3002 (zhd ((zMD HZ811 M3001 X8).o.ext M3001.o.ext)) zpv;replace QQ2:=zwr M3002 (zme M3001 (zmd HZ811 M3001 QQ2)) zpv;replace zeI:=zwl M3002 (zmo M3001 zeI) zqV;refine zbU [none,none,none,none,none,none,none,none,none,none,none] (by kernel_rfl) (by kernel_rfl) ?_ ?_
     ·exact ⟨trivial,trivial,trivial,trivial,trivial,trivial,trivial,trivial,trivial,trivial,trivial,trivial⟩
     (refine zat (fun K hK=>?_); go_simp; first | refine hK _ ?_ | refine ⟨(fun h=>by cases h),hK _ ?_⟩; clear hK K)
     refine zaK (.slice (some ⟨kb1,ko1,none⟩) 2 kc9) rfl (fun w' hw'=>by have q0:=hw'.cell x19; go_simp) ?_;refine zan fun K h=>?_; go_simp; refine h _ ?_; clear h K;iterate 3 (refine zat (fun K hK=>?_); go_simp; first | refine hK _ ?_ | refine ⟨(fun h=>by cases h),hK _ ?_⟩; clear hK K)
     refine zaK (.slice (some ⟨hb,ho2,none⟩) G.length kh1) rfl (fun w' hw'=>by have q0:=hw'.cell a5; go_simp) ?_;refine zan fun K h=>?_; go_simp; refine h _ ?_; clear h K;iterate 2 (refine zat (fun K hK=>?_); go_simp; first | refine hK _ ?_ | refine ⟨(fun h=>by cases h),hK _ ?_⟩; clear hK K)
     refine zaK (.agg #[I xe,I xn]) rfl (fun w' hw'=>by have q0:=hw'.cell f0; have q1:=hw'.cell f1; go_simp) ?_;refine zan fun K h=>?_; go_simp; refine h _ ?_; clear h K;refine zaK (.agg #[I xe,I xn]) rfl (fun w' hw'=>zcz 38 (.tmp 19) rfl b19 0 rfl (zd4 zgF.o hw') [I xe,I xn] rfl zvy (by kernel_rfl)) ?_;refine zan fun K h=>?_; go_simp; refine h _ ?_; clear h K;(refine zat (fun K hK=>?_); go_simp; first | refine hK _ ?_ | refine ⟨(fun h=>by cases h),hK _ ?_⟩; clear hK K)
     refine za5 ?_;intro w7 e7 _;clear hst hgd x19 a5 f0 f1 hli hl0 hlt2 hlt0;replace zc6:=zbx zc6 e7;replace zeI:=zbx zeI e7;replace zgF:=zbx zgF e7;replace X9:=zhd (X9.o.ext e7);replace X8:=zhd (X8.o.ext e7);replace QQ1:=zrx QQ1 e7;replace QQ2:=zrx QQ2 e7;replace EW:=zhd (EW.o.trans e7);clear e7;have hkb:t < 9223372036854775807:=by have q:=HLT2.o; have q2:=HGM.o; unfold maxLen at q2; omega
     go_wp2
     go_roundw
     case rel=>exact ⟨t+1,HLT2.o,by go_num,EW.o⟩
     case measure=>have:=HLT2.o; simp [intOf]; omega
    obtain ⟨J,hJ⟩:∃ x,G.length=x:=⟨_,rfl⟩;obtain rfl:t=J:=by omega
    subst hJ;have hkb:j < 2000:=by have q:=HLT.o; omega
    clear hlt ht;go_wp2
    go_roundw
    case rel=>exact ⟨j+1,HLT.o,by go_num,E6.o.trans EW.o⟩
    case measure=>have:=HLT.o; simp [intOf]; omega

end Go.Proofs.YtdmipnnfoolelagGreatDoor
