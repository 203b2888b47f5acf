/- zbb of the proof, merged: Y4. -/
import Derived.Test.YtdmipnnfoolelagGreatDoorKTA
import Derived.Test.YtdmipnnfoolelagGreatDoorKTS
set_option maxHeartbeats 16000000
set_option maxRecDepth 100000

namespace Go.Proofs.YtdmipnnfoolelagGreatDoor
open Go.RowKit Go.Mk

def ztn:List UInt8:=[97,100,100,32,57,32,49,10]
def zrI:List UInt8:=[112,117,116,32,57,32,48,10]
def zcU (j:Nat):List UInt8:=(List.replicate j ztn).flatten
theorem znO (j:Nat):zcU (j+1)=zcU j++ztn:=by
 unfold zcU
 rw [List.replicate_succ',List.flatten_append]
 simp
theorem ze5 (j:Nat):(zcU j).length=j * 8:=by
 unfold zcU
 rw [List.length_flatten,List.map_replicate,List.sum_replicate_nat]
 rfl
theorem ziU (e:Nat):printCl (List.replicate e addC)=zcU e:=by
 have h1:callText addC++[10]=ztn:=by decide +kernel
 induction e with
 | zero=>rfl
 | succ e ih =>
  rw [List.replicate_succ]
  show (callText addC++[10])++printCl (List.replicate e addC)=_
  rw [h1,ih]
  unfold zcU
  rw [List.replicate_succ,List.flatten_cons]
theorem zmx (e:Nat):printCl (putC::List.replicate e addC)=zrI++zcU e:=by
 have h1:callText putC++[10]=zrI:=by decide +kernel
 show (callText putC++[10])++printCl (List.replicate e addC)=_
 rw [h1,ziU]
theorem zhU (e:Nat):∀ c ∈ List.replicate e addC,wrongCl c=0:=fun c hc=>by rw [List.eq_of_mem_replicate hc]; decide
theorem zif (e:Nat):∀ c ∈ putC::List.replicate e addC,wrongCl c=0:=fun c hc=>by
 rcases List.mem_cons.1 hc with rfl | hc
 ·decide
 ·exact zhU e c hc
theorem zdz {l:List Cl} {s:List UInt8} (e:printCl l=s) (h:∀ c ∈ l,wrongCl c=0) (h8:l.length<=8):zb2 s=(l,0):=by
 rw [<- e,zib h,if_neg (by omega)]
theorem zmz {k e:Nat} (hk:k<=3) (he:e<=7):zaG (zbw k e):=by
 refine ⟨by unfold zbw; simp; omega,fun c hc=>?_⟩
 unfold zbw at hc
 rcases List.mem_cons.1 hc with rfl | hc
 ·exact ⟨by simp; omega,zif e⟩
 ·rw [List.eq_of_mem_replicate hc]
  exact ⟨by simp; omega,zhU e⟩
def zds (k e:Nat):List (List UInt8):=(zrI++zcU e)::List.replicate (k - 1) (zcU e)
theorem zm1 {k e:Nat} (he:e<=7):zbb (zds k e) (zbw k e):=by
 have h1:zb2 (zrI++zcU e)=(putC::List.replicate e addC,0):=zdz (zmx e) (zif e) (by simp; omega)
 have h2:zb2 (zcU e)=(List.replicate e addC,0):=zdz (ziU e) (zhU e) (by simp; omega)
 refine ⟨by unfold zds zbw; simp,fun i s hs=>?_⟩
 unfold zds at hs
 unfold zbw
 cases i with
 | zero =>
  cases hs
  exact ⟨by rw [List.length_append,ze5]; simp [zrI]; omega,h1⟩
 | succ i =>
  have hs:(List.replicate (k - 1) (zcU e))[i]?=some s:=hs
  rw [List.getElem?_replicate] at hs
  split at hs
  case isFalse=>cases hs
  rename_i hi
  cases hs
  refine ⟨by rw [ze5]; omega,?_⟩
  rw [h2,List.getD_eq_getElem?_getD,List.getElem?_cons_succ,List.getElem?_replicate,if_pos hi]
  rfl
theorem zlK (a b:List UInt8):Value.string (⟨a.toArray⟩++⟨b.toArray⟩)=SS (a++b):=congrArg Value.string (ByteArray.ext (by simp))
theorem zmF {j e:Nat} (hj:1<=j):zds (j+1) e=zds j e++[zcU e]:=by
 unfold zds
 obtain ⟨i,rfl⟩:∃ i,j=i+1:=⟨j - 1,by omega⟩
 simp only [Nat.add_sub_cancel,List.cons_append,List.cons.injEq,true_and]
 rw [List.replicate_succ']
theorem znZ {k e:Nat} (hk:1<=k):(zds k e).length=k:=by
 unfold zds
 simp
 omega
theorem Tryz.infoStrY:(Tryz.prog.info? 9).map (fun i=>(i.zero,i.size,i.bytes))=some (some (.string ⟨#[]⟩),1,16):=by kernel_rfl
theorem zt7 {k e:Nat} {S:Mc} (h:FixOk (zbw k e) S) (i:Nat):((zbw k e).getD i []).length<=8:=by
 have hr:=h.gz.right
 rw [List.getD_eq_getElem?_getD]
 cases q:(zbw k e)[i]? with
 | none=>exact Nat.zero_le _
 | some c=>exact (hr.2 c (List.mem_of_getElem? q)).1
theorem zsA {f:Nat->Nat} {a b:Nat} (h:a<=b):sumTo f a<=sumTo f b:=by
 induction b with
 | zero =>
  obtain rfl:a=0:=by omega
  exact Nat.le_refl _
 | succ b ih =>
  by_cases e:a=b+1
  ·subst e; exact Nat.le_refl _
  ·have q:=ih (by omega)
   unfold sumTo
   cases a with
   | zero=>exact Nat.zero_le _
   | succ a=>exact Nat.le_trans q (Nat.le_add_right _ _)
def zsu:Value->Nat
 | .slice _ n _=>n
 | _=>0

theorem zmD {TV:World->Prop} (hText:TextOk TV) (hPlay:zfL) (hSettle:zdS) (hNow:zpu) (hIdle:zfN) (v2:Value) (n0 n1:Int) (steps:List (Int×Int)) (w:World) (hTV:TV w) (h1:zar w v2 steps) :
  zaw Tryz.prog 3 #[I n0,I n1,v2] w fun r _=>r=.bool true:=by
 refine zcP ?_;have HSTP:=zhd h1;obtain ⟨ta,tc,rfl⟩:=zao h1;clear h1;have HTX:=zhd hText;have HPL:=zhd hPlay;have HSE:=zhd hSettle;have HNO:=zhd hNow;have HIO:=zhd hIdle;have HTV:=zhd hTV;clear hText hPlay hSettle hNow hIdle hTV;have EW:=zhd (Ext.refl w);obtain ⟨B,HB0⟩:∃ B:Nat->Prop,Hid (∀ k,B k↔True):=⟨_,fun _=>Iff.rfl⟩;go_enter Tryz.func3,Tryz.ntmps3
 go_wp2_with fail
 refine (zd9 HTX.o HPL.o HSE.o HIO.o w (HTX.o.ext _ _ HTV.o EW.o)).to fun r wl el hr=>?_;subst hr;replace EW:=zhd (EW.o.trans el);clear el;by_cases hg:n0 < 1
 case pos =>
  have hb:=decide_eq_true hg;go_wp2
  go_ret
  exact ⟨rfl,EW.o⟩
 have hb1:decide (n0 < 1)=false:=decide_eq_false hg;clear hg;by_cases hg:3 < n0
 case pos =>
  have hb:=decide_eq_true hg;go_wp2
  go_ret
  exact ⟨rfl,EW.o⟩
 have hb2:decide (3 < n0)=false:=decide_eq_false hg;clear hg;by_cases hg:n1 < 1
 case pos =>
  have hb:=decide_eq_true hg;go_wp2
  go_ret
  exact ⟨rfl,EW.o⟩
 have hb3:decide (n1 < 1)=false:=decide_eq_false hg;clear hg;by_cases hg:7 < n1
 case pos =>
  have hb:=decide_eq_true hg;go_wp2
  go_ret
  exact ⟨rfl,EW.o⟩
 have hb4:decide (7 < n1)=false:=decide_eq_false hg;clear hg;by_cases hg:400 < steps.length
 case pos =>
  have hb:decide ((400:Int) < (steps.length:Int))=true:=decide_eq_true (by omega);go_wp2
  go_ret
  exact ⟨rfl,EW.o⟩
 have hb5:decide ((400:Int) < (steps.length:Int))=false:=decide_eq_false (by omega);have h400:Hid (steps.length<=400):=by unfold Hid; omega
 clear hg;have c1:=of_decide_eq_false hb1;have c2:=of_decide_eq_false hb2;have c3:=of_decide_eq_false hb3;have c4:=of_decide_eq_false hb4;obtain ⟨K,rfl⟩:∃ i:Nat,n0=(i:Int):=⟨n0.toNat,by omega⟩;obtain ⟨E,rfl⟩:∃ i:Nat,n1=(i:Int):=⟨n1.toNat,by omega⟩;have HK:Hid (1<=K/\K<=3):=⟨by omega,by omega⟩;have HE:Hid (1<=E/\E<=7):=⟨by omega,by omega⟩;clear c1 c2 c3 c4;go_wp2_with fail
 clear hb1 hb2 hb3 hb4 hb5;go_loopw [7,41] (fun s i wr=>∃ j:Nat,j<=E/\i=I j/\s=SS (zcU j)/\Ext wl wr) (fun _ i _=>E - (intOf i).toNat)
 case atStart=>exact ⟨0,Nat.zero_le _,rfl,rfl,Ext.refl _⟩
 case round =>
  obtain ⟨j,hj,rfl,rfl,hex⟩:=hrel;by_cases hlt:j < E
  case pos =>
   have hli:(j:Int) < (E:Int):=by omega
   have hkb:j < 2000:=by have q:=HE.o.2; omega
   have hsz:¬ (9223372036854775807 < (zcU j).length+8):=by rw [ze5]; omega
   go_wp2
   case roundEnd =>
    refine ⟨⟨j+1,by omega,by go_num,(zlK (zcU j) ztn).trans (by rw [znO]),hex⟩,?_⟩;simp [intOf];omega
  obtain ⟨E2,hE2⟩:∃ x,E=x:=⟨_,rfl⟩;obtain rfl:j=E2:=by omega
  subst hE2;clear hj hlt;replace EW:=zhd (EW.o.trans hex);clear hex;rename World=>wq;have hsz:¬ (9223372036854775807 < 8+(zcU E).length):=by rw [ze5]; have q:=HE.o.2; omega
  have hsz2:¬ (9223372036854775807 < (zcU E).length+8):=by rw [ze5]; have q:=HE.o.2; omega
  go_wp2_with (with_reducible refine zT ?_)
  unfold Hid;clear hsz hsz2;have EWQ:=EW;refine zbe rfl 9 1 #[.string (⟨zrI.toArray⟩++⟨(zcU E).toArray⟩)] (by kernel_rfl) (fun b48 w1_ M1=>?_);have zvb:=zmb M1
  have hown:w1_.ownsRow wq.heap.size 9 1 (.slice (some ⟨b48,0,none⟩) 1 1) 1 ((zds 1 E).map SS):=by
   have q:w1_.ownsRow wq.heap.size 9 1 (.slice (some ⟨b48,0,none⟩) 1 1) 1 [.string (⟨zrI.toArray⟩++⟨(zcU E).toArray⟩)]:=zbB M1.o (by have q2:=M1.o.at_; omega) rfl (by decide);rw [zlK] at q;exact q
  have HOW:=zhd hown;obtain ⟨i0,hi,hz0,hz1,hz2⟩:=info_parts Tryz.infoStrY;have HI:=zhd (And.intro hi (And.intro hz0 (And.intro hz1 hz2)));have HEX:=zhd M1.o.ext;clear zvb hown hi hz0 hz1 hz2;go_wp2_with fail
  replace EW:=zet EW M1;go_loopw [8] (fun lv wr=>∃ j:Nat,1<=j/\j<=K/\wr.ownsRow wq.heap.size 9 1 lv j ((zds j E).map SS)/\Ext wq wr) (fun lv _=>K - zsu lv)
  case atStart=>exact ⟨1,Nat.le_refl _,HK.o.1,HOW.o,HEX.o⟩
  case round =>
   obtain ⟨j,hj1,hj,ho,hex⟩:=hrel;obtain ⟨la,lc,rfl⟩:=zcR ho;clear HOW HEX;have HOW:=zhd ho;clear ho;by_cases hlt:j < K
   case pos =>
    have hli:(j:Int) < (K:Int):=by omega
    have HEX:=zhd hex;have HLT:=zhd hlt;have HJ1:=zhd hj1;clear hex hlt hj hj1;go_wp2_with (with_reducible refine zT ?_)
    unfold Hid;clear hli;refine zbe rfl 9 1 #[SS (zcU E)] (by kernel_rfl) (fun b55 w301_ M301=>?_);skip;have hlit:Row w301_ 1 (.slice (some ⟨b55,0,none⟩) 1 1) 1 [SS (zcU E)]:=Row.of_owns (zbB (base:=0) M301.o (Nat.zero_le _) rfl (by decide));obtain ⟨hi,hz0,hz1,hz2⟩:=HI.o;go_wp2_with (first | (at_builtin; refine zb7 ?_) | (with_reducible refine zT ?_))
    unfold Hid;replace HOW:=zhd (zai HOW.o M301.o.ext);replace HEX:=zhd (HEX.o.trans M301.o.ext);refine zaJ _ rfl (.tmp 53) (.tmp 55) 24 rfl wq.heap.size 9 i0 (.string ⟨#[]⟩) 1 16 zuR hi hz0 hz1 hz2 rfl (by decide) _ j ((zds j E).map SS) rfl HOW.o _ rfl 1 _ hlit (fun u hu=>by rw [List.mem_singleton.1 hu]; rfl) (by have q:=HLT.o; have q2:=HK.o.2; omega) (by decide) HEX.o.size ?_;intro v56 wz ho hg;have hew:Ext wq wz:=HEX.o.grown hg (fun k hk=>(HOW.o.lt k hk).1)
    have hsn:wz.ownsRow wq.heap.size 9 1 v56 (j+1) ((zds (j+1) E).map SS):=by
     rw [zmF HJ1.o,List.map_append];exact ho
    obtain ⟨na,nc,rfl⟩:=zcR hsn;have hkb:j < 2000:=by have q:=HLT.o; have q2:=HK.o.2; omega
    clear hi hz0 hz1 hz2 hlit hg ho;go_wp2
    go_roundw
    case rel=>exact ⟨j+1,by omega,HLT.o,hsn,hew⟩
    case measure=>have:=HLT.o; simp [zsu]; omega
   obtain rfl:K=j:=by omega
   have HSS:Hid (zlu wr (.slice la K lc) (zds K E)):=by
    have q:=Row.of_owns HOW.o;unfold Hid zlu;rw [znZ HK.o.1];exact q
   replace EW:=zhd (EWQ.o.trans hex);clear HOW hex hlt hj hj1 EWQ;go_wp2_with fail
   obtain ⟨S,hS⟩:∃ x,zlA (zbw K E) steps=x:=⟨_,rfl⟩;have hrt:=zmz HK.o.2 HE.o.2;have hfx:=zgJ hrt steps;rw [hS] at hfx;have FX:=zhd hfx;have HFM:=zhd hS;have HRT:=zhd hrt;clear hfx hS hrt;refine ((zdj HTX.o HPL.o HSE.o HIO.o _ _ (zds K E) (zbw K E) steps wr (HTX.o.ext _ _ HTV.o EW.o) HSS.o (HSTP.o.ext EW.o) (zm1 HE.o.2) HRT.o h400.o).mono fun r w' _ h=>(by rw [HFM.o] at h; exact h)).to fun r ws es9 hr=>?_;obtain ⟨cs,rfl,hcs⟩:=hr;obtain ⟨c9,u9,a9,p9,box9,plan9,cl9,rfl,hM⟩:=zcu (Rd.widen (B:=fun k=>k < ws.heap.size) (Rd.of (φ:=fun w=>zdi w cs S) (fun w w' hk h=>zhN w w' _ _ hk h) hcs) (fun _ _ h=>h));obtain ⟨ca9,cc9,ua9,uc9,aa9,ac9,pa9,pc9,xa9,xc9,la9,lc9,ka9,kc9,rfl,rfl,rfl,rfl,rfl,rfl,rfl⟩:=hM.slices;obtain ⟨Z9,HZ9⟩:∃ X:Nat->Prop,Hid (∀ k,X k↔k < ws.heap.size):=⟨_,fun _=>Iff.rfl⟩;have X9:=zhd (hM.widen (B:=Z9) fun k _ h=>(HZ9.o k).2 h);clear hcs hM;replace EW:=zhd (EW.o.trans es9);clear es9;clear HSS HFM HRT;go_wp2_with (with_reducible refine zT ?_)
   refine zac rfl 43 zM (by kernel_rfl) (fun b9 w2_ M2=>?_);obtain ⟨Z91,HZ91⟩:=zEx Z9 b9;have zj7:=zNn HZ91;have zoA:=zOn M2 EW;have zbd:=zmb M2;go_wp2_with (with_reducible refine zT ?_)
   refine zaa rfl 43 (.tmp 9) (.tmp 61) rfl b9 rfl [.slice ca9 S.store.cells.length cc9,.slice ua9 S.store.undo.length uc9,.slice aa9 S.store.answers.length ac9,.slice pa9 S.store.past.length pc9,I S.server.gen,.slice xa9 S.server.box.length xc9,.bool S.server.busy,I S.server.now.client,I S.server.now.token,I S.server.now.call.kind,I S.server.now.call.name,I S.server.now.call.other,I S.server.now.call.n,.slice la9 S.server.plan.length lc9,I S.server.says.err,I S.server.says.n,.bool S.up,I S.pause,I S.falls,.slice ka9 S.clients.length kc9] (rfl) zbd rfl zaT rfl (fun w3_ M3=>?_);replace zbd:=zwb M3;obtain ⟨sN,hnm,hsum⟩:=zqU HK.o.1 HK.o.2 HE.o.2 FX.o.donep;obtain ⟨MISS,hms⟩:∃ f:Nat->Nat,(fun i=>(told S.store.past i).countP isMiss)=f:=⟨_,rfl⟩;rw [hms] at hsum
   have HMS:Hid (∀ i c,S.clients[i]?=some c->MISS i=c.got.countP isMiss/\c.got.length<=8):=fun i c hc=>by
    obtain ⟨q1,q2⟩:=FX.o.got hc;have q3:=(zt7 FX.o i);exact ⟨by rw [<- hms,q2],by rw [q1]; exact q3⟩
   have HKE:Hid (K * E<=21):=Nat.le_trans (Nat.mul_le_mul HK.o.2 HE.o.2) (by decide);have HSUM:=zhd hsum;have HNM:=zhd (FX.o.names.trans hnm);have HNC:Hid (S.clients.length=K):=FX.o.nc.trans (zkJ HK.o.1);clear hnm hsum hms;have x19:=zae (i:=19) zbd.o rfl;go_wp2_with fail
   clear x19;replace EW:=zwe M3 (zet EW M2) zoA;have E0:=EW;replace EW:=zhd (Ext.refl w3_);replace X9:=zHw M3 (zhd ((zMD HZ91 M2 X9).o.ext M2.o.ext)) zj7;go_loopw [11,68] (fun mv i wr=>∃ j:Nat,j<=S.clients.length/\i=I j/\mv=I ((sumTo MISS j:Nat):Int)/\Ext w3_ wr) (fun _ i _=>S.clients.length - (intOf i).toNat)
   case atStart=>exact ⟨0,Nat.zero_le _,rfl,rfl,Ext.refl _⟩
   case round =>
    obtain ⟨j,hj,rfl,rfl,hex⟩:=hrel;replace zbd:=zbx zbd hex;replace X9:=zhd (X9.o.ext hex);replace EW:=zhd (EW.o.trans hex);clear hex;by_cases hlt:j < S.clients.length
    case pos =>
     obtain ⟨css,hcs⟩:=zdo (by decide) X9.o.clients;obtain ⟨c0,c,hc0,hc,-⟩:=zeC hcs.left.o hlt;obtain ⟨kcalls,kbox,kgot,rfl,q1,q2,q3⟩:=zd2 (zdM hcs.left hc0 hc)
     obtain ⟨kb,ko,hka⟩:∃ b o,ka9=some ⟨b,o,none⟩:=by
      obtain ⟨_,_,e1,_,_,_,hf⟩:=X9.o.clients.o.form (by decide);simp only [Value.slice.injEq,true_and] at e1;obtain ⟨rfl,rfl⟩:=e1;obtain ⟨b,o,_,e2,_⟩:=hf _ _ hc;exact ⟨b,o,e2⟩
     subst hka;have HRG:=zhd (zcY (by decide) hcs.right.o hcs.left.o.sizes hc0);obtain ⟨ka1,kc1,rfl⟩:=zaf q1.o;obtain ⟨kx1,ky1,rfl⟩:=zaf q2.o;obtain ⟨kg1,kh1,rfl⟩:=zaf q3.o;have Q3:=zhd q3;have HC:=zhd hc;clear hcs hc0 hc q1 q2 q3;have HLT:=zhd hlt;have hli:(j:Int) < (S.clients.length:Int):=by omega
     have hl0:(0:Int)<=(j:Int):=by omega
     have HGL:=zhd (HMS.o j c HC.o);clear hlt hj;go_wp2_with (with_reducible refine zT ?_)
     unfold Hid;clear hli hl0;refine zfG rfl 49 (.tmp 70) rfl kb (ko+j * 6) rfl [.slice ka1 c.calls.length kc1,I c.at_,.bool c.sent,I c.gen,.slice kx1 c.box.length ky1,.slice kg1 c.got.length kh1] HRG.o zcK zcm (fun v71 H_v71=>?_);go_wp2_with (with_reducible refine zT ?_)
     clear HRG;refine zac rfl 49 zC (by kernel_rfl) (fun b14 w501_ M501=>?_);have zsa:=zld zbd M501;obtain ⟨Z911,HZ911⟩:=zEx Z91 b14;have zm6:=zNn HZ911;have zse:Hid (w3_.heap.size<=b14):=by unfold Hid; have q2:=M501.o.at_; have q3:=EW.o.size; omega
     have ze7:=zmb M501;go_wp2_with (with_reducible refine zT ?_)
     refine zaa rfl 49 (.tmp 14) (.tmp 71) rfl b14 rfl _ (zcv H_v71) ze7 rfl zcm rfl (fun w502_ M502=>?_);replace ze7:=zwb M502;have x5:=zae (i:=5) ze7.o rfl;go_wp2_with fail
     clear x5;replace EW:=zwe M502 (zet EW M501) zse;have E1:=EW;replace EW:=zhd (Ext.refl w502_);replace X9:=zHw M502 (zhd ((zMD HZ911 M501 X9).o.ext M501.o.ext)) zm6;replace Q3:=zwr M502 (zme M501 (zmd HZ911 M501 Q3)) zm6;replace zj7:=znw HZ911 zj7;replace zbd:=zwl M502 (zmo M501 zbd) zsa;go_loopw [11,75] (fun mv i wr=>∃ t:Nat,t<=c.got.length/\i=I t/\mv=I ((sumTo MISS j+(c.got.take t).countP isMiss:Nat):Int)/\Ext w502_ wr) (fun _ i _=>c.got.length - (intOf i).toNat)
     case atStart=>exact ⟨0,Nat.zero_le _,rfl,rfl,Ext.refl _⟩
     case round =>
      obtain ⟨t,ht,rfl,rfl,hex⟩:=hrel;replace zbd:=zbx zbd hex;replace ze7:=zbx ze7 hex;replace X9:=zhd (X9.o.ext hex);replace Q3:=zrx Q3 hex;replace EW:=zhd (EW.o.trans hex);clear hex;by_cases hlt:t < c.got.length
      case pos =>
       obtain ⟨x,hx⟩:∃ x,c.got[t]?=some x:=⟨c.got[t],List.getElem?_eq_getElem hlt⟩;obtain ⟨_,_,e1,_,_,hf⟩:=zdT Q3.o.o;simp only [Value.slice.injEq,true_and] at e1;obtain ⟨rfl,rfl⟩:=e1;obtain ⟨gb,go2,rfl,d0,d1⟩:=hf t x hx
       have hstep:(c.got.take (t+1)).countP isMiss=(c.got.take t).countP isMiss+if x.err=6 then 1 else 0:=by
        rw [List.take_add_one,hx,List.countP_append];congr 1;by_cases q:x.err=6
        ·simp [isMiss,q]
        ·simp [isMiss,q]
       have hcb:(c.got.take t).countP isMiss<=8:=Nat.le_trans List.countP_le_length (by rw [List.length_take]; have q:=HGL.o.2; omega)
       have hsb:sumTo MISS j<=24:=by
        have q:=HSUM.o;have q2:=HKE.o;have q3:sumTo MISS j<=sumTo MISS K:=zsA (by have q4:=HLT.o; rw [HNC.o] at q4; omega);omega
       have HSTEP:=zhd hstep;have HCB:=zhd (And.intro hcb hsb);have HLT2:=zhd hlt;have hli:(t:Int) < (c.got.length:Int):=by omega
       have hl0:(0:Int)<=(t:Int):=by omega
       obtain ⟨xe,xn⟩:=x;simp only [] at d0 d1;clear hf hx hstep hcb hsb hlt ht;go_wp2_with (with_reducible refine zT ?_)
       clear d0 d1 hli hl0;refine zac rfl 38 #[I 0,I 0] (by kernel_rfl) (fun b16 w701_ M701=>?_);obtain ⟨Z9111,HZ9111⟩:=zEx Z911 b16;have zrQ:Hid (w502_.heap.size<=b16):=by unfold Hid; have q2:=M701.o.at_; have q3:=EW.o.size; omega
       have zeI:=zmb M701;go_wp2_with (with_reducible refine zT ?_)
       refine zaa rfl 38 (.tmp 16) (.tmp 78) rfl b16 rfl [I xe,I xn] (rfl) zeI rfl zp2 rfl (fun w702_ M702=>?_);replace zeI:=zwb M702;have e0:=zae (i:=0) zeI.o rfl;obtain ⟨hcb,hsb⟩:=HCB.o;have hst:=HSTEP.o;have hkb:t < 2000:=by have q:=HLT2.o; have q2:=HGL.o.2; omega
       replace EW:=zwe M702 (zet EW M701) zrQ;generalize hcc:(c.got.take t).countP isMiss=cc at *;generalize hss:sumTo MISS j=sj at *;have hwr:IntKind.i64.wrap (((sj+cc:Nat):Int)+1)=((sj+cc:Nat):Int)+1:=by rw [IntKind.wrap_i64]; omega
       have hwr2:IntKind.i64.wrap ((sj:Int)+(cc:Int)+1)=(sj:Int)+(cc:Int)+1:=by rw [IntKind.wrap_i64]; omega
       by_cases hx6:xe=6
       case pos =>
        have hb6:(xe == 6)=true:=by simp [hx6]
        rw [if_pos hx6] at hst;go_wp2
        go_roundw
        case rel=>exact ⟨t+1,HLT2.o,by go_num,by rw [hst]; simp; omega,EW.o⟩
        case measure=>have:=HLT2.o; simp [intOf]; omega
       have hb6:(xe == 6)=false:=by simpa using hx6
       rw [if_neg hx6] at hst;go_wp2
       go_roundw
       case rel=>exact ⟨t+1,HLT2.o,by go_num,by rw [hst,hss]; simp,EW.o⟩
       case measure=>have:=HLT2.o; simp [intOf]; omega
      obtain rfl:t=c.got.length:=by omega
      have hadd:sumTo MISS (j+1)=sumTo MISS j+(c.got.take c.got.length).countP isMiss:=by
       rw [List.take_of_length_le (Nat.le_refl _),<- HGL.o.1];rfl
      have hkb:j < 2000:=by have q:=HLT.o; have q2:=HNC.o; have q3:=HK.o.2; omega
      clear hlt ht;go_wp2
      go_roundw
      case rel=>exact ⟨j+1,HLT.o,by go_num,by rw [hadd],E1.o.trans EW.o⟩
      case measure=>have:=HLT.o; simp [intOf]; omega
    obtain rfl:j=S.clients.length:=by omega
    clear hj hlt;go_wp2_with (with_reducible refine zT ?_)
    refine zah rfl 43 (.tmp 9) rfl b9 rfl zbd za2 zaT (fun v86 H_v86=>?_);go_wp2_with fail
    rw [H_v86.o];clear H_v86;refine (HNO.o S _ _ _ _ _ _ _ wr Z91 X9.o FX.o.look).to fun r wn en hr=>?_;rw [HNM.o] at hr;obtain ⟨na,nc,rfl⟩:=zao hr;have HNW:=zhd hr;clear hr;replace zbd:=zbx zbd en;replace X9:=zhd (X9.o.ext en);replace EW:=zhd (EW.o.trans en);clear en;go_wp2_with fail
    have E2:=EW;replace EW:=zhd (Ext.refl wn);go_loopw [12,89] (fun sv i wr=>∃ j:Nat,j<=1/\i=I j/\sv=I (if j=0 then 0 else (sN:Int))/\Ext wn wr) (fun _ i _=>1 - (intOf i).toNat)
    case atStart=>exact ⟨0,Nat.zero_le _,rfl,rfl,Ext.refl _⟩
    case round =>
     obtain ⟨t,ht,rfl,rfl,hex⟩:=hrel;replace zbd:=zbx zbd hex;replace X9:=zhd (X9.o.ext hex);replace EW:=zhd (EW.o.trans hex);replace HNW:=zhd (HNW.o.ext hex);clear hex;by_cases hlt:t=0
     case pos =>
      subst hlt;obtain ⟨_,_,e1,_,_,hat⟩:=HNW.o.form;simp only [Value.slice.injEq,true_and] at e1;obtain ⟨rfl,rfl⟩:=e1;obtain ⟨nb,no,rfl,d0,d1⟩:=hat 0 (by simp);replace d0:wr.cell? ⟨nb,no+0 * 2,none⟩=some (I 9):=d0;replace d1:wr.cell? ⟨nb,no+0 * 2+1,none⟩=some (I (sN:Int)):=d1;simp only [Nat.zero_mul,Nat.add_zero] at d0 d1;clear hat;go_wp2_with (with_reducible refine zT ?_)
      clear d0 d1;refine zac rfl 52 #[I 0,I 0] (by kernel_rfl) (fun b18 w901_ M901=>?_);obtain ⟨Z911,HZ911⟩:=zEx Z91 b18;have zuZ:Hid (wn.heap.size<=b18):=by unfold Hid; have q2:=M901.o.at_; have q3:=EW.o.size; omega
      have ztV:=zmb M901;go_wp2_with (with_reducible refine zT ?_)
      refine zaa rfl 52 (.tmp 18) (.tmp 92) rfl b18 rfl [I 9,I (sN:Int)] (rfl) ztV rfl zve rfl (fun w902_ M902=>?_);replace ztV:=zwb M902;have e1:=zae (i:=1) ztV.o rfl;have hsN:sN<=24:=by have q:=HSUM.o; have q2:=HKE.o; omega
      have hwr:IntKind.i64.wrap (0+(sN:Int))=(sN:Int):=by rw [IntKind.wrap_i64]; omega
      have hwr2:IntKind.i64.wrap (sN:Int)=(sN:Int):=by rw [IntKind.wrap_i64]; omega
      go_wp2
      replace EW:=zwe M902 (zet EW M901) zuZ;go_roundw
      case rel=>exact ⟨1,Nat.le_refl _,by go_num,rfl,EW.o⟩
      case measure=>simp [intOf]
     obtain rfl:t=1:=by omega
     have hsum:=HSUM.o;have hke:=HKE.o;have hnc:=HNC.o;rw [hnc];generalize sumTo MISS K=sm at *;have h5:((sN:Int)+(sm:Int))=((K * E:Nat):Int):=by omega
     have h6:((K * E:Nat):Int)=(K:Int) * (E:Int):=by push_cast; rfl
     have hw1:IntKind.i64.wrap ((sN:Int)+(sm:Int))=(sN:Int)+(sm:Int):=by rw [IntKind.wrap_i64]; omega
     have hw2:IntKind.i64.wrap ((K:Int) * (E:Int))=(K:Int) * (E:Int):=by rw [<- h6,IntKind.wrap_i64]; omega
     have hfin:(((sN:Int)+(sm:Int)) == (K:Int) * (E:Int))=true:=by rw [h5,h6]; simp
     simp only [if_neg (by decide:¬ (1=0))];clear hlt ht h5 h6 hsum hke;go_wp2
     go_ret
     exact ⟨rfl,E0.o.trans (E2.o.trans EW.o)⟩

end Go.Proofs.YtdmipnnfoolelagGreatDoor
