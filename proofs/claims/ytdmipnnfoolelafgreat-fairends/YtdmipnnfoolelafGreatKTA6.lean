/- Texts of the proof, merged: U4. -/
import Derived.Test.YtdmipnnfoolelafGreatKTA
import Derived.Test.YtdmipnnfoolelafGreatKTA5
set_option maxHeartbeats 16000000
set_option maxRecDepth 100000

namespace Go.Proofs.YtdmipnnfoolelafGreat
open Go.RowKit Go.Mk

theorem zmR (hPlay:zke) (hRound:zhc) (hSettle:zgG) (v0 v1:Value) (l:List (List Cl)) (steps:List (Int×Int)) (w:World) (h0:zas 1 zdI w v0 l) (h1:zax w v1 steps) :
  zaT Tryz.prog 5 #[v0,v1] w fun r _=>r=.bool true:=by
 refine zcb ?_;have HV:=zhd (Rd.widen (B:=fun _=>True) (Rd.of (zb8 zhb _ _) h0) (fun _ _ _=>trivial));replace HV:Hid (Rd (fun _=>True) (fun w=>zas 1 zdI w v0 l) w):=HV;have HSTP:=zhd h1;obtain ⟨za,zc,rfl⟩:=zag h0;obtain ⟨ta,tc,rfl⟩:=zao h1;have HPL:=zhd hPlay;have HRO:=zhd hRound;have HSE:=zhd hSettle;clear h0 h1 hPlay hRound hSettle;have EW:=zhd (Ext.refl w);obtain ⟨B,HB0⟩:∃ B:Nat->Prop,Hid (∀ k,B k↔True):=⟨_,fun _=>Iff.rfl⟩;replace HV:=zhd (HV.o.widen (B:=B) fun k _ _=>(HB0.o k).2 trivial);go_enter Tryz.func5,Tryz.ntmps5
 go_wp2_with fail
 refine (zky HPL.o HRO.o HSE.o w).to fun r wl el hr=>?_;subst hr;replace HV:=zrx HV el;replace EW:=zhd (EW.o.trans el);clear el;go_wp2_with fail
 refine (zic _ l wl HV.o.o).mono ?_;rintro e wr0 ⟨bR,rfl,hbR,e0⟩
 replace HV:=zrx HV e0;replace EW:=zhd (EW.o.trans e0);clear e0;cases bR
 case false =>
  go_wp2
  go_ret
  exact ⟨rfl,EW.o⟩
 have HRL:=zhd (hbR.1 rfl);clear hbR;go_wp2_with fail
 obtain ⟨P,HP⟩:∃ X:Nat->Prop,Hid (∀ k,X k↔(B k∨wr0.heap.size<=k)):=⟨_,fun _=>Iff.rfl⟩;replace HV:=zhd (HV.o.widen (B:=P) fun k _ h=>(HP.o k).2 (.inl h));refine (zfy _ _ l steps wr0 P HRL.o HV.o (HSTP.o.ext EW.o)).to fun r wp ep hr=>?_;obtain ⟨cs,es,rfl,hm,hes⟩:=zmk hr;obtain ⟨mk,hmk⟩:∃ mk,zcu (za1 l) (steps.take 400)=mk:=⟨_,rfl⟩;have hgz:=zjb HRL.o (steps.take 400);rw [hmk] at hm hgz;obtain ⟨c,u,a,p,box,plan,cl,rfl,hM⟩:=zbX hm;obtain ⟨ca,cc,ua,uc,aa,ac,pa,pc,xa,xc,la,lc,ka,kc,rfl,rfl,rfl,rfl,rfl,rfl,rfl⟩:=hM.slices;have GZ:=zhd hgz;obtain ⟨esa,esc,rfl⟩:=zao hes.o;have H:=zhd (hM.widen (B:=P) fun k _ h=>(HP.o k).2 (by rcases h with h | h; exact (HP.o k).1 h; exact .inr h));clear hM hm hr hes hmk hgz;replace HV:=zrx HV ep;replace EW:=zhd (EW.o.trans ep);clear ep;go_wp2_with (with_reducible refine zT ?_)
 refine zae rfl 44 zM (by kernel_rfl) (fun b5 w1_ M1=>?_);obtain ⟨P1,HP1⟩:=zEx P b5;have zdM:=zNn HP1;have zhU:=zOn M1 EW;have zba:=zmb M1;go_wp2_with (with_reducible refine zT ?_)
 refine zac rfl 44 (.tmp 5) (.tmp 20) rfl b5 rfl [.slice ca mk.store.cells.length cc,.slice ua mk.store.undo.length uc,.slice aa mk.store.answers.length ac,.slice pa mk.store.past.length pc,I mk.server.gen,.slice xa mk.server.box.length xc,.bool mk.server.busy,I mk.server.now.client,I mk.server.now.token,I mk.server.now.call.kind,I mk.server.now.call.name,I mk.server.now.call.other,I mk.server.now.call.n,.slice la mk.server.plan.length lc,I mk.server.says.err,I mk.server.says.n,.bool mk.up,I mk.pause,I mk.falls,.slice ka mk.clients.length kc] (rfl) zba rfl zaG rfl (fun w2_ M2=>?_);replace zba:=zwb M2;go_wp2_with (with_reducible refine zT ?_)
 refine zah rfl 44 (.tmp 5) rfl b5 rfl zba zaS zaG (fun v23 H_v23=>?_);go_wp2_with fail
 rw [H_v23.o];clear H_v23;obtain ⟨K,HK⟩:∃ X:Nat->Prop,Hid (∀ k,X k↔(P1 k∨w2_.heap.size<=k)):=⟨_,fun _=>Iff.rfl⟩;replace HV:=zwr M2 (zme M1 (zmd HP1 M1 HV)) zdM;replace HV:=zhd (HV.o.widen (B:=K) fun k _ h=>(HK.o k).2 (.inl h));replace H:=zHw M2 (zhd ((zMD HP1 M1 H).o.ext M1.o.ext)) zdM;replace H:=zhd (H.o.widen (B:=K) fun k _ h=>(HK.o k).2 (.inl h));replace zdM:Hid (¬ K b5):=ziy HK zdM zba;refine (HSE.o l mk _ _ _ _ _ _ _ w2_ K H.o GZ.o).to fun r ws es9 hr=>?_;obtain ⟨cs,rfl,hcs⟩:=zdC hr;obtain ⟨S,hS⟩:∃ s,(zbg 300 mk).1=s:=⟨_,rfl⟩;obtain ⟨SN,hSN⟩:∃ s,(zbg 300 mk).2=s:=⟨_,rfl⟩;rw [hS] at hcs;simp only [hSN];obtain ⟨c9,u9,a9,p9,box9,plan9,cl9,rfl,hM⟩:=zbX hcs;obtain ⟨ca9,cc9,ua9,uc9,aa9,ac9,pa9,pc9,xa9,xc9,la9,lc9,ka9,kc9,rfl,rfl,rfl,rfl,rfl,rfl,rfl⟩:=hM.slices;have HS:=zhd hS;have HSN:=zhd hSN;have X9:=zhd (hM.widen (B:=K) fun k _ h=>(HK.o k).2 (by rcases h with h | h; exact (HK.o k).1 h; exact .inr h));clear hr hcs hM hS hSN;replace EW:=zhd ((zwe M2 (zet EW M1) zhU).o.trans es9);replace zba:=zbx zba es9;replace HV:=zrx HV es9;replace H:=zhd (H.o.ext es9);clear es9;go_wp2_with (with_reducible refine zT ?_)
 refine zae rfl 44 zM (by kernel_rfl) (fun b7 w3_ M3=>?_);obtain ⟨K1,HK1⟩:=zEx K b7;have zhk:=zNn HK1;have zqQ:=zOn M3 EW;have zcx:=zmb M3;go_wp2_with (with_reducible refine zT ?_)
 refine zac rfl 44 (.tmp 7) (.tmp 25) rfl b7 rfl [.slice ca9 S.store.cells.length cc9,.slice ua9 S.store.undo.length uc9,.slice aa9 S.store.answers.length ac9,.slice pa9 S.store.past.length pc9,I S.server.gen,.slice xa9 S.server.box.length xc9,.bool S.server.busy,I S.server.now.client,I S.server.now.token,I S.server.now.call.kind,I S.server.now.call.name,I S.server.now.call.other,I S.server.now.call.n,.slice la9 S.server.plan.length lc9,I S.server.says.err,I S.server.says.n,.bool S.up,I S.pause,I S.falls,.slice ka9 S.clients.length kc9] (rfl) zcx rfl zaG rfl (fun w4_ M4=>?_);replace zcx:=zwb M4
 have HST:Hid (zdN S=true/\SN<=300/\GzM l S):=by
  obtain ⟨h1,⟨ks,bz,h2⟩,h3⟩:=id GZ.o;obtain ⟨q1,q2,-⟩:=zlT h1 h2;have q3:=zkS 300 GZ.o;rw [HS.o] at q1 q3;rw [HSN.o] at q2;exact ⟨q1,q2,q3⟩
 have HCN:Hid (S.clients.length=l.length):=by
  obtain ⟨_,⟨ks,bz,h2⟩,_⟩:=HST.o.2.2;exact h2.nc
 have hb1:decide ((300:Int) < (SN:Int))=false:=decide_eq_false (by have q:=HST.o.2.1; omega);have hb2:decide (300 < SN)=false:=decide_eq_false (by have q:=HST.o.2.1; omega);have hb3:((S.clients.length:Int) != (l.length:Int))=false:=by simp [HCN.o]
 have hb4:(S.clients.length != l.length)=false:=by simp [HCN.o]
 have x19:=zaa (i:=19) zcx.o rfl;go_wp2_with fail
 clear x19 hb1 hb2 hb3 hb4 zba H HSTP;replace EW:=zwe M4 (zet EW M3) zqQ;have E0:=EW;replace EW:=zhd (Ext.refl w4_);replace HV:=zwr M4 (zme M3 (zmd HK1 M3 HV)) zhk;replace X9:=zHw M4 (zhd ((zMD HK1 M3 X9).o.ext M3.o.ext)) zhk;go_loopw [40] (fun i wr=>∃ k:Nat,k<=S.clients.length/\i=I k/\Ext w4_ wr) (fun i _=>S.clients.length - (intOf i).toNat)
 case atStart=>exact ⟨0,Nat.zero_le _,rfl,Ext.refl _⟩
 case round =>
  obtain ⟨k,hk,rfl,hex⟩:=hrel;replace zcx:=zbx zcx hex;replace HV:=zrx HV hex;replace X9:=zhd (X9.o.ext hex);replace EW:=zhd (EW.o.trans hex);clear hex;by_cases hlt:k < S.clients.length
  case neg =>
   go_wp2
   go_ret
   exact ⟨rfl,E0.o.trans EW.o⟩
  obtain ⟨css,hcs⟩:=zdk (by decide) X9.o.clients;obtain ⟨c0,c,hc0,hc,-⟩:=zfq hcs.left.o hlt;obtain ⟨kcalls,kbox,kgot,rfl,q1,q2,q3⟩:=zd2 (zeN hcs.left hc0 hc)
  obtain ⟨kb,ko,hka⟩:∃ b o,ka9=some ⟨b,o,none⟩:=by
   obtain ⟨_,_,e1,_,_,_,hf⟩:=X9.o.clients.o.form (by decide);simp only [Value.slice.injEq,true_and] at e1;obtain ⟨rfl,rfl⟩:=e1;obtain ⟨b,o,_,e2,_⟩:=hf _ _ hc;exact ⟨b,o,e2⟩
  subst hka;have HRG:=zhd (zd3 (by decide) hcs.right.o hcs.left.o.sizes hc0);obtain ⟨ka1,kc1,rfl⟩:=zag q1.o;obtain ⟨kx1,ky1,rfl⟩:=zag q2.o;obtain ⟨kg1,kh1,rfl⟩:=zag q3.o;have Q3:=zhd q3;have HC:=zhd hc;clear hcs hc0 hc q1 q2 q3;have HLT:=zhd hlt;obtain ⟨lk,hlk⟩:∃ x,l[k]?=some x:=⟨l[k]'(by rw [<- HCN.o]; exact hlt),List.getElem?_eq_getElem _⟩
  have HGL:Hid (c.got.length=lk.length):=by
   obtain ⟨_,⟨ks,bz,h2⟩,_⟩:=HST.o.2.2;have q:=(zmS h2 HST.o.1 HC.o).1;rw [List.getD_eq_getElem?_getD,hlk] at q;exact q
  have HLK:=zhd hlk;have hli:(k:Int) < (S.clients.length:Int):=by omega
  have hl0:(0:Int)<=(k:Int):=by omega
  clear hlk hlt hk;go_wp2_with (with_reducible refine zT ?_)
  unfold Hid;clear hli hl0;refine zgq rfl 55 (.tmp 43) rfl kb (ko+k * 6) rfl [.slice ka1 c.calls.length kc1,I c.at_,.bool c.sent,I c.gen,.slice kx1 c.box.length ky1,.slice kg1 c.got.length kh1] HRG.o zbN zbI (fun v44 H_v44=>?_);go_wp2_with (with_reducible refine zT ?_)
  clear HRG;refine zae rfl 55 zC (by kernel_rfl) (fun b10 w501_ M501=>?_);have zqD:=zld zcx M501;obtain ⟨K11,HK11⟩:=zEx K1 b10;have zfE:=zNn HK11;have zoK:Hid (w4_.heap.size<=b10):=by unfold Hid; have q2:=M501.o.at_; have q3:=EW.o.size; omega
  have zb6:=zmb M501;go_wp2_with (with_reducible refine zT ?_)
  refine zac rfl 55 (.tmp 10) (.tmp 44) rfl b10 rfl _ (zcv H_v44) zb6 rfl zbI rfl (fun w502_ M502=>?_);replace zb6:=zwb M502;have x5:=zaa (i:=5) zb6.o rfl;replace HV:=zwr M502 (zme M501 (zmd HK11 M501 HV)) zfE;obtain ⟨_,_,e1,_,_,cvs,_,hcv⟩:=znR HV.o.o;simp only [Value.slice.injEq,true_and] at e1;obtain ⟨rfl,rfl⟩:=e1;obtain ⟨vb,vo,cv,rfl,-,lc0,hrow⟩:=hcv k lk HLK.o;obtain ⟨la2,lcap2,rfl⟩:=zag hrow;have hi1:(k:Int) < (l.length:Int):=by have q:=HLT.o; rw [HCN.o] at q; omega
  have hl0:(0:Int)<=(k:Int):=by omega
  rw [HGL.o] at x5;clear hcv hrow;go_wp2_with fail
  replace X9:=zHw M502 (zhd ((zMD HK11 M501 X9).o.ext M501.o.ext)) zfE;replace zcx:=zwl M502 (zmo M501 zcx) zqD;replace EW:=zwe M502 (zet EW M501) zoK;refine zbe [none,none,none,none,none,none,none,none,none] (by kernel_rfl) (by kernel_rfl) ?_ ?_
  ·exact ⟨trivial,trivial,trivial,trivial,trivial,trivial,trivial,trivial,trivial,trivial⟩
  (refine zap (fun K hK=>?_); go_simp; first | refine hK _ ?_ | refine ⟨(fun h=>by cases h),hK _ ?_⟩; clear hK K)
  refine zay (.slice kg1 lk.length kh1) rfl (fun w' hw'=>by have q0:=hw'.cell x5; go_simp) ?_;refine zai fun K h=>?_; go_simp; refine h _ ?_; clear h K;iterate 4 (refine zap (fun K hK=>?_); go_simp; first | refine hK _ ?_ | refine ⟨(fun h=>by cases h),hK _ ?_⟩; clear hK K)
  refine zay (.slice la2 lk.length lcap2) rfl (fun w' hw'=>by have q0:=hw'.cell lc0; go_simp) ?_;refine zai fun K h=>?_; go_simp; refine h _ ?_; clear h K;iterate 2 (refine zap (fun K hK=>?_); go_simp; first | refine hK _ ?_ | refine ⟨(fun h=>by cases h),hK _ ?_⟩; clear hK K)
  refine zaP ?_;intro w7 e7 _;clear x5 lc0 hi1 hl0;replace zcx:=zbx zcx e7;replace zb6:=zbx zb6 e7;replace HV:=zrx HV e7;replace X9:=zhd (X9.o.ext e7);replace EW:=zhd (EW.o.trans e7);clear e7
  have hkb:k < 2000:=by
   have q:=HLT.o;have q2:=HCN.o;have q3:=HRL.o.1;omega
  go_wp2
  go_roundw
  case rel=>exact ⟨k+1,HLT.o,by go_num,EW.o⟩
  case measure=>have:=HLT.o; simp [intOf]; omega

end Go.Proofs.YtdmipnnfoolelafGreat
