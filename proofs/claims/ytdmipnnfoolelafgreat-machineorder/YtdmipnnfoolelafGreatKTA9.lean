/- Texts of the proof, merged: J4. -/
import Derived.Test.YtdmipnnfoolelafGreatKTA
import Derived.Test.YtdmipnnfoolelafGreatKTA8
import Derived.Test.YtdmipnnfoolelafGreatKTG
set_option maxHeartbeats 8000000
set_option maxRecDepth 100000

namespace Go.Proofs.YtdmipnnfoolelafGreat
open Go.RowKit Go.Mk

theorem zi7 (hNew:zov) (hDo:zrz) (v0 v1 v2:Value) (l:List (List Cl)) (steps more:List (Int×Int)) (w:World) (h0:zas 1 zdI w v0 l) (h1:zax w v1 steps) (h2:zax w v2 more) :
  zaT Tryz.prog 3 #[v0,v1,v2] w fun r _=>r=.bool true:=by
 obtain ⟨ya,yc,rfl,y1,y2,y3⟩:=h2.form;unfold maxLen at y2;have Y3:=zhd y3;clear h2 y3;refine zcb ?_;have HV:=zhd (Rd.widen (B:=fun _=>True) (Rd.of (zb8 zhb _ _) h0) (fun _ _ _=>trivial));replace HV:Hid (Rd (fun _=>True) (fun w=>zas 1 zdI w v0 l) w):=HV;have HSTP:=zhd h1;obtain ⟨za,zc,rfl⟩:=zag h0;obtain ⟨ta,tc,rfl⟩:=zao h1;have HDO:=zhd hDo;have HNW:=zhd hNew;clear h0 h1 hDo hNew;have EW:=zhd (Ext.refl w);obtain ⟨B,HB0⟩:∃ B:Nat->Prop,Hid (∀ k,B k↔True):=⟨_,fun _=>Iff.rfl⟩;replace HV:=zhd (HV.o.widen (B:=B) fun k _ _=>(HB0.o k).2 trivial);go_enter Tryz.func3,Tryz.ntmps3
 go_wp2_with fail
 refine (zis HNW.o HDO.o w).to fun r wl el hr=>?_;subst hr;replace HV:=zrx HV el;replace EW:=zhd (EW.o.trans el);clear el;go_wp2_with fail
 refine (zic _ l wl HV.o.o).mono ?_;rintro e wr0 ⟨bR,rfl,hbR,e0⟩
 replace HV:=zrx HV e0;replace EW:=zhd (EW.o.trans e0);clear e0;cases bR
 case false =>
  go_wp2
  go_ret
  exact ⟨rfl,EW.o⟩
 have HRL:=zhd (hbR.1 rfl);clear hbR;by_cases hm60:60 < more.length
 case pos =>
  have hmi:(60:Int) < (more.length:Int):=by omega
  go_wp2
  go_ret
  exact ⟨rfl,EW.o⟩
 have hmi:¬ ((60:Int) < (more.length:Int)):=by omega
 have HM60:Hid (more.length<=60):=by unfold Hid; omega
 clear hm60;go_wp2_with fail
 clear hmi;obtain ⟨P,HP⟩:∃ X:Nat->Prop,Hid (∀ k,X k↔(B k∨wr0.heap.size<=k)):=⟨_,fun _=>Iff.rfl⟩;replace HV:=zhd (HV.o.widen (B:=P) fun k _ h=>(HP.o k).2 (.inl h));refine (zfy _ _ l steps wr0 P HRL.o HV.o (HSTP.o.ext EW.o)).to fun r wp ep hr=>?_;obtain ⟨cs,es,rfl,hm,hes⟩:=zmk hr;obtain ⟨mk,hmk⟩:∃ mk,zcu (za1 l) (steps.take 400)=mk:=⟨_,rfl⟩;have hgd:=zrw HRL.o steps;rw [hmk] at hm hgd;obtain ⟨c,u,a,p,box,plan,cl,rfl,hM⟩:=zbX hm;obtain ⟨ca,cc,ua,uc,aa,ac,pa,pc,xa,xc,la,lc,ka,kc,rfl,rfl,rfl,rfl,rfl,rfl,rfl⟩:=hM.slices;have GD:=zhd hgd;obtain ⟨esa,esc,rfl⟩:=zao hes.o;have H:=zhd (hM.widen (B:=P) fun k _ h=>(HP.o k).2 (by rcases h with h | h; exact (HP.o k).1 h; exact .inr h));clear hM hm hr hes hmk hgd;replace HV:=zrx HV ep;replace EW:=zhd (EW.o.trans ep);clear ep;go_wp2_with (with_reducible refine zT ?_)
 refine zae rfl 44 zM (by kernel_rfl) (fun b7 w1_ M1=>?_);obtain ⟨P1,HP1⟩:=zEx P b7;have zhk:=zNn HP1;have zqQ:=zOn M1 EW;have zcx:=zmb M1;go_wp2_with (with_reducible refine zT ?_)
 refine zac rfl 44 (.tmp 7) (.tmp 30) rfl b7 rfl [.slice ca mk.store.cells.length cc,.slice ua mk.store.undo.length uc,.slice aa mk.store.answers.length ac,.slice pa mk.store.past.length pc,I mk.server.gen,.slice xa mk.server.box.length xc,.bool mk.server.busy,I mk.server.now.client,I mk.server.now.token,I mk.server.now.call.kind,I mk.server.now.call.name,I mk.server.now.call.other,I mk.server.now.call.n,.slice la mk.server.plan.length lc,I mk.server.says.err,I mk.server.says.n,.bool mk.up,I mk.pause,I mk.falls,.slice ka mk.clients.length kc] (rfl) zcx rfl zaG rfl (fun w2_ M2=>?_);replace zcx:=zwb M2;go_wp2_with (with_reducible refine zT ?_)
 refine zah rfl 44 (.tmp 7) rfl b7 rfl zcx zaS zaG (fun v32 H_v32=>?_);go_wp2_with (with_reducible refine zT ?_)
 refine zae rfl 44 zM (by kernel_rfl) (fun b9 w3_ M3=>?_);have zox:=zld zcx M3;obtain ⟨P11,HP11⟩:=zEx P1 b9;have zgP:=zNn HP11;replace EW:=zwe M2 (zet EW M1) zqQ;have zpJ:=zOn M3 EW;have zbH:=zmb M3;go_wp2_with (with_reducible refine zT ?_)
 refine zac rfl 44 (.tmp 9) (.tmp 32) rfl b9 rfl _ (zcv H_v32) zbH rfl zaG rfl (fun w4_ M4=>?_);replace zbH:=zwb M4;go_wp2_with fail
 replace HV:=zwr M4 (zme M3 (zmd HP11 M3 (zwr M2 (zme M1 (zmd HP1 M1 HV)) zhk))) zgP;replace H:=zHw M4 (zhd ((zMD HP11 M3 (zHw M2 (zhd ((zMD HP1 M1 H).o.ext M1.o.ext)) zhk)).o.ext M3.o.ext)) zgP;replace zhk:=znw HP11 zhk;replace zcx:=zwl M4 (zmo M3 zcx) zox;replace EW:=zwe M4 (zet EW M3) zpJ;go_loopw [35] (fun i wr=>∃ (k:Nat) (E:Nat->Prop) (x:Mc) (c' u' a' p' box' plan' cl':Value),k<=more.length/\i=I k/\Grow mk x/\Gd l x (400+k)/\RdM E wr mk (.slice ca mk.store.cells.length cc) (.slice ua mk.store.undo.length uc) (.slice aa mk.store.answers.length ac) (.slice pa mk.store.past.length pc) (.slice xa mk.server.box.length xc) (.slice la mk.server.plan.length lc) (.slice ka mk.clients.length kc)/\RdM E wr x c' u' a' p' box' plan' cl'/\¬ E b7/\¬ E b9/\wr.heap[b7]?=some (.cells #[.slice ca mk.store.cells.length cc,.slice ua mk.store.undo.length uc,.slice aa mk.store.answers.length ac,.slice pa mk.store.past.length pc,I mk.server.gen,.slice xa mk.server.box.length xc,.bool mk.server.busy,I mk.server.now.client,I mk.server.now.token,I mk.server.now.call.kind,I mk.server.now.call.name,I mk.server.now.call.other,I mk.server.now.call.n,.slice la mk.server.plan.length lc,I mk.server.says.err,I mk.server.says.n,.bool mk.up,I mk.pause,I mk.falls,.slice ka mk.clients.length kc] 44 (0,0))/\wr.heap[b9]?=some (.cells (zaH x c' u' a' p' box' plan' cl').toArray 44 (0,0))/\Ext w wr) (fun i _=>more.length - (intOf i).toNat)
 case atStart=>exact ⟨0,P11,mk,_,_,_,_,_,_,_,Nat.zero_le _,rfl,Grow.refl mk,GD.o,H.o,H.o,zhk.o,zgP.o,zcx.o,zbH.o,EW.o⟩
 case round =>
  obtain ⟨k,E,x,c',u',a',p',box',plan',cl',hk,rfl,hgr,gx,hH,hX,n7,n9,hb7,hb9,hex⟩:=hrel;clear zcx zbH H HV zhk zgP EW GD;obtain ⟨ca0,cc0,ua0,uc0,aa0,ac0,pa0,pc0,xa0,xc0,la0,lc0,ka0,kc0,rfl,rfl,rfl,rfl,rfl,rfl,rfl⟩:=hX.slices;have H:=zhd hH;have X:=zhd hX;have GX:=zhd gx;have GR:=zhd hgr;have zhk:=zhd n7;have zgP:=zhd n9;have zcx:=zhd hb7;have zbH:Hid (wr.heap[b9]?=some (.cells #[.slice ca0 x.store.cells.length cc0,.slice ua0 x.store.undo.length uc0,.slice aa0 x.store.answers.length ac0,.slice pa0 x.store.past.length pc0,I x.server.gen,.slice xa0 x.server.box.length xc0,.bool x.server.busy,I x.server.now.client,I x.server.now.token,I x.server.now.call.kind,I x.server.now.call.name,I x.server.now.call.other,I x.server.now.call.n,.slice la0 x.server.plan.length lc0,I x.server.says.err,I x.server.says.n,.bool x.up,I x.pause,I x.falls,.slice ka0 x.clients.length kc0] 44 (0,0))):=hb9;have EW:=zhd hex;clear hH hX gx hgr n7 n9 hb7 hb9 hex;by_cases hlt:k < more.length
  ·obtain ⟨sb,so,rfl,c0,c1⟩:=Y3.o k hlt;replace c0:=EW.o.cell c0;replace c1:=EW.o.cell c1;generalize more.getD k (0,0)=pp at c0 c1;obtain ⟨sk,sn⟩:=pp;simp only [] at c0 c1;have hli:(k:Int) < (more.length:Int):=by omega
   have hl0:(0:Int)<=(k:Int):=by omega
   have HLT:=zhd hlt;clear hlt hk;go_wp2_with (with_reducible refine zT ?_)
   clear c0 c1 hli hl0;refine zae rfl 49 #[I 0,I 0] (by kernel_rfl) (fun b11 w101_ M101=>?_);have zqM:=zld zcx M101;have zqp:=zld zbH M101;obtain ⟨E1,HE1⟩:=zEx E b11;have zoB:=zNn HE1;have zta:=zOn M101 EW;have zm1:=zmb M101;go_wp2_with (with_reducible refine zT ?_)
   refine zac rfl 49 (.tmp 11) (.tmp 38) rfl b11 rfl [I sk,I sn] (rfl) zm1 rfl zqV rfl (fun w102_ M102=>?_);replace zm1:=zwb M102;go_wp2_with (with_reducible refine zT ?_)
   replace zbH:=zwl M102 (zmo M101 zbH) zqp;refine zah rfl 44 (.tmp 9) rfl b9 rfl zbH zaS zaG (fun v40 H_v40=>?_);have s0:=zaa (i:=0) zm1.o rfl;have s1:=zaa (i:=1) zm1.o rfl;go_wp2_with fail
   clear s0 s1;rw [H_v40.o];clear H_v40;obtain ⟨xn,xe,hdo⟩:∃ y z,doM x sk sn=(y,z):=⟨_,_,rfl⟩;have HF:=zhd hdo
   clear hdo
   replace X:=zHw M102 (zhd ((zMD HE1 M101 X).o.ext M101.o.ext)) zoB;obtain ⟨G,HG⟩:∃ X:Nat->Prop,Hid (∀ k,X k↔(E1 k∨w102_.heap.size<=k)):=⟨_,fun _=>Iff.rfl⟩;replace H:=zHw M102 (zhd ((zMD HE1 M101 H).o.ext M101.o.ext)) zoB;replace H:=zhd (H.o.widen (B:=G) fun k _ h=>(HG.o k).2 (.inl h));replace X:=zhd (X.o.widen (B:=G) fun k _ h=>(HG.o k).2 (.inl h));replace zhk:=znw HE1 zhk;replace zcx:=zwl M102 (zmo M101 zcx) zqM;replace zhk:Hid (¬ G b7):=ziy HG zhk zcx;replace zgP:=znw HE1 zgP;replace zgP:Hid (¬ G b9):=ziy HG zgP zbH;replace zoB:Hid (¬ G b11):=ziy HG zoB zm1;refine (HDO.o l x (400+k) _ _ _ _ _ _ _ sk sn w102_ G X.o GX.o (by have:=HLT.o; have:=HM60.o; omega)).to fun r w3 e3 hr=>?_;rw [HF.o] at hr;obtain ⟨cs,rfl,hcs⟩:=zdC hr;obtain ⟨c2,u2,a2,p2,box2,plan2,cl2,rfl,hM⟩:=zbX hcs;obtain ⟨ca2,cc2,ua2,uc2,aa2,ac2,pa2,pc2,xa2,xc2,la2,lc2,ka2,kc2,rfl,rfl,rfl,rfl,rfl,rfl,rfl⟩:=hM.slices;have Y:=zhd (hM.widen (B:=G) fun k _ h=>(HG.o k).2 (by rcases h with h | h; exact (HG.o k).1 h; exact .inr h));clear hr hcs hM;replace EW:=zhd ((zwe M102 (zet EW M101) zta).o.trans e3);replace zcx:=zbx zcx e3;replace zbH:=zbx zbH e3;replace zm1:=zbx zm1 e3;replace H:=zhd (H.o.ext e3);replace X:=zhd (X.o.ext e3);clear e3;go_wp2_with (with_reducible refine zT ?_)
   refine zac rfl 44 (.tmp 9) (.tmp 43) rfl b9 rfl [.slice ca2 xn.store.cells.length cc2,.slice ua2 xn.store.undo.length uc2,.slice aa2 xn.store.answers.length ac2,.slice pa2 xn.store.past.length pc2,I xn.server.gen,.slice xa2 xn.server.box.length xc2,.bool xn.server.busy,I xn.server.now.client,I xn.server.now.token,I xn.server.now.call.kind,I xn.server.now.call.name,I xn.server.now.call.other,I xn.server.now.call.n,.slice la2 xn.server.plan.length lc2,I xn.server.says.err,I xn.server.says.n,.bool xn.up,I xn.pause,I xn.falls,.slice ka2 xn.clients.length kc2] (rfl) zbH rfl zaG rfl (fun w103_ M103=>?_);replace zbH:=zwb M103;have hkb:k < 1000:=by have q:=HLT.o; have q2:=HM60.o; omega
   go_wp2
   replace zcx:=zwl M103 zcx zox;replace H:=zHw M103 H zgP;replace Y:=zHw M103 Y zgP;replace EW:=zwe M103 EW zpJ;go_roundw
   case rel =>
    refine ⟨k+1,G,xn,_,_,_,_,_,_,_,HLT.o,by go_num,?_,?_,H.o,Y.o,zhk.o,zgP.o,zcx.o,zbH.o,EW.o⟩
    ·have q:=zrG x sk sn;rw [HF.o] at q;exact GR.o.trans q
    ·have q:=zsh GX.o sk sn;rw [HF.o] at q;exact q
   case measure=>have:=HLT.o; simp [intOf]; omega
  ·obtain rfl:k=more.length:=by omega
   clear hlt hk;obtain ⟨sp,hsp⟩:=GR.o.past;have HSP:=zhd hsp;have hpl:¬ ((x.store.past.length:Int) < (mk.store.past.length:Int)):=by rw [hsp,List.length_append]; omega
   have hp1:=GX.o.size.past;have HPL:Hid (mk.store.past.length<=600):=by unfold Hid; rw [hsp,List.length_append] at hp1; have q:=HM60.o; omega
   clear hsp hp1;rename World=>wq;have m3:=zaa (i:=3) zcx.o rfl;have x3:=zaa (i:=3) zbH.o rfl;go_wp2_with fail
   clear m3 x3 hpl;have E0:=EW;replace EW:=zhd (Ext.refl wq);go_loopw [59] (fun i wr2=>∃ k:Nat,k<=mk.store.past.length/\i=I k/\Ext wq wr2) (fun i _=>mk.store.past.length - (intOf i).toNat)
   case atStart=>exact ⟨0,Nat.zero_le _,rfl,Ext.refl _⟩
   case round =>
    obtain ⟨k,hk,rfl,hex⟩:=hrel;have HX2:=zhd hex;replace zcx:=zbx zcx hex;replace zbH:=zbx zbH hex;replace H:=zhd (H.o.ext hex);replace X:=zhd (X.o.ext hex);replace EW:=zhd (EW.o.trans hex);clear hex;by_cases hlt:k < mk.store.past.length
    case pos =>
     obtain ⟨rq,hrq⟩:∃ r,mk.store.past[k]?=some r:=⟨mk.store.past[k],List.getElem?_eq_getElem hlt⟩;have hrx:x.store.past[k]?=some rq:=by rw [HSP.o,List.getElem?_append_left hlt]; exact hrq
     have hkx:k < x.store.past.length:=(List.getElem?_eq_some_iff.1 hrx).1;obtain ⟨_,_,e1,_,_,hf⟩:=zgZ H.o.past.o;simp only [Value.slice.injEq,true_and] at e1;obtain ⟨rfl,rfl⟩:=e1;obtain ⟨pb,po,rfl,d0,d1,d2,d3,d4,d5⟩:=hf k rq hrq;obtain ⟨_,_,e1,_,_,hf2⟩:=zgZ X.o.past.o;simp only [Value.slice.injEq,true_and] at e1;obtain ⟨rfl,rfl⟩:=e1;obtain ⟨xb,xo,rfl,f0,f1,f2,f3,f4,f5⟩:=hf2 k rq hrx;obtain ⟨rc,rt,⟨rk,ra,ro,rn⟩⟩:=rq;simp only [] at d0 d1 d2 d3 d4 d5 f0 f1 f2 f3 f4 f5;have HRX:=zhd hrx;have hli:(k:Int) < (mk.store.past.length:Int):=by omega
     have hlx:(k:Int) < (x.store.past.length:Int):=by omega
     have hl0:(0:Int)<=(k:Int):=by omega
     have HLT:=zhd hlt;have HLX:=zhd hlx;clear hf hf2 hrq hrx hkx f0 f1 f2 f3 f4 f5 hlx hlt hk;go_wp2_with (with_reducible refine zT ?_)
     clear d0 d1 d2 d3 d4 d5 hli hl0;refine zae rfl 36 #[I 0,I 0,I 0,I 0,I 0,I 0] (by kernel_rfl) (fun b13 w301_ M301=>?_);have zqj:=zld zcx M301;have zqu:=zld zbH M301;obtain ⟨E1,HE1⟩:=zEx E b13;have zhA:=zNn HE1;have zmC:Hid (wq.heap.size<=b13):=by unfold Hid; have q2:=M301.o.at_; have q3:=EW.o.size; omega
     have zcU:=zmb M301;go_wp2_with (with_reducible refine zT ?_)
     refine zac rfl 36 (.tmp 13) (.tmp 63) rfl b13 rfl [I rc,I rt,I rk,I ra,I ro,I rn] (rfl) zcU rfl zru rfl (fun w302_ M302=>?_);replace zcU:=zwb M302;replace X:=zHw M302 (zhd ((zMD HE1 M301 X).o.ext M301.o.ext)) zhA;obtain ⟨_,_,e1,_,_,hf2⟩:=zgZ X.o.past.o;simp only [Value.slice.injEq,true_and] at e1;obtain ⟨rfl,rfl⟩:=e1;obtain ⟨xb',xo',e2,f0,f1,f2,f3,f4,f5⟩:=hf2 k _ HRX.o;simp only [Option.some.injEq,Addr.mk.injEq,and_true] at e2;obtain ⟨rfl,rfl⟩:=e2;simp only [] at f0 f1 f2 f3 f4 f5;clear hf2;replace zbH:=zwl M302 (zmo M301 zbH) zqu;have x3:=zaa (i:=3) zbH.o rfl;have hst:Tryz.prog.stoodInHeld 36=false:=by kernel_rfl
     have hgd:Tryz.prog.eqGuardType Tryz.prog.depth 36=false:=by kernel_rfl
     have hlx:=HLX.o;have hl0:(0:Int)<=(k:Int):=by omega
     go_wp2_with fail
     replace H:=zHw M302 (zhd ((zMD HE1 M301 H).o.ext M301.o.ext)) zhA;replace zcx:=zwl M302 (zmo M301 zcx) zqj;replace EW:=zwe M302 (zet EW M301) zmC;refine zbe [none,none,none,none,none,none,none,none] (by kernel_rfl) (by kernel_rfl) ?_ ?_
     ·exact ⟨trivial,trivial,trivial,trivial,trivial,trivial,trivial,trivial,trivial⟩
     iterate 2 (refine zap (fun K hK=>?_); go_simp; first | refine hK _ ?_ | refine ⟨(fun h=>by cases h),hK _ ?_⟩; clear hK K)
     refine zay (.slice (some ⟨xb,xo,none⟩) x.store.past.length pc0) rfl (fun w' hw'=>by have:=hw'.cell x3; go_simp) ?_;refine zai fun K h=>?_; go_simp; refine h _ ?_; clear h K;iterate 2 (refine zap (fun K hK=>?_); go_simp; first | refine hK _ ?_ | refine ⟨(fun h=>by cases h),hK _ ?_⟩; clear hK K)
     refine zay (.agg #[I rc,I rt,I rk,I ra,I ro,I rn]) rfl (fun w' hw'=>by have q0:=hw'.cell f0; have q1:=hw'.cell f1; have q2:=hw'.cell f2; have q3:=hw'.cell f3; have q4:=hw'.cell f4; have q5:=hw'.cell f5; go_simp) ?_;refine zai fun K h=>?_; go_simp; refine h _ ?_; clear h K;refine zay (.agg #[I rc,I rt,I rk,I ra,I ro,I rn]) rfl (fun w' hw'=>zbP 36 (.tmp 13) rfl b13 0 rfl (zbW zcU.o hw') [I rc,I rt,I rk,I ra,I ro,I rn] rfl zn6 (by kernel_rfl)) ?_;refine zai fun K h=>?_; go_simp; refine h _ ?_; clear h K;(refine zap (fun K hK=>?_); go_simp; first | refine hK _ ?_ | refine ⟨(fun h=>by cases h),hK _ ?_⟩; clear hK K)
     refine zaP ?_;intro w6 e6 _;clear f0 f1 f2 f3 f4 f5 x3 hst hgd hlx hl0;replace zcx:=zbx zcx e6;replace zbH:=zbx zbH e6;replace zcU:=zbx zcU e6;replace H:=zhd (H.o.ext e6);replace X:=zhd (X.o.ext e6);replace EW:=zhd (EW.o.trans e6);clear e6;have hkb:k < 1000:=by have q:=HLT.o; have q2:=HPL.o; omega
     go_wp2
     go_roundw
     case rel=>exact ⟨k+1,HLT.o,by go_num,EW.o⟩
     case measure=>have:=HLT.o; simp [intOf]; omega
    obtain rfl:k=mk.store.past.length:=by omega
    clear hlt hk;rename World=>wv;have E1:=EW;replace EW:=zhd (Ext.refl wv);clear HX2;have m19:=zaa (i:=19) zcx.o rfl;go_wp2_with fail
    clear m19;go_loopw [76] (fun i wr2=>∃ k:Nat,k<=mk.clients.length/\i=I k/\Ext wv wr2) (fun i _=>mk.clients.length - (intOf i).toNat)
    case atStart=>exact ⟨0,Nat.zero_le _,rfl,Ext.refl _⟩
    case round =>
     obtain ⟨k,hk,rfl,hex⟩:=hrel;replace zcx:=zbx zcx hex;replace zbH:=zbx zbH hex;replace H:=zhd (H.o.ext hex);replace X:=zhd (X.o.ext hex);replace EW:=zhd (EW.o.trans hex);clear hex;by_cases hlt:k < mk.clients.length
     case neg =>
      go_wp2
      go_ret
      exact ⟨rfl,E0.o.trans (E1.o.trans EW.o)⟩
     obtain ⟨css,hcs⟩:=zdk (by decide) H.o.clients;obtain ⟨c0,c,hc0,hc,-⟩:=zfq hcs.left.o hlt;obtain ⟨kcalls,kbox,kgot,rfl,q1,q2,q3⟩:=zd2 (zeN hcs.left hc0 hc)
     obtain ⟨kb,ko,hka⟩:∃ b o,ka=some ⟨b,o,none⟩:=by
      obtain ⟨_,_,e1,_,_,_,hf⟩:=H.o.clients.o.form (by decide);simp only [Value.slice.injEq,true_and] at e1;obtain ⟨rfl,rfl⟩:=e1;obtain ⟨b,o,_,e2,_⟩:=hf _ _ hc;exact ⟨b,o,e2⟩
     subst hka;have HRG:=zhd (zd3 (by decide) hcs.right.o hcs.left.o.sizes hc0);obtain ⟨d,tt,hdc,hgt⟩:=GR.o.got k c hc;have hkd:k < x.clients.length:=(List.getElem?_eq_some_iff.1 hdc).1;obtain ⟨ka1,kc1,rfl⟩:=zag q1.o;obtain ⟨kx1,ky1,rfl⟩:=zag q2.o;obtain ⟨kg1,kh1,rfl⟩:=zag q3.o;have Q3:=zhd q3;have HD:=zhd hdc;have HGT:=zhd hgt;have HLT:=zhd hlt;have HKD:=zhd hkd;have HNC:Hid (mk.clients.length<=1000):=by unfold Hid; rw [<- GR.o.len]; exact (GX.o.fit (by have q:=HM60.o; omega)).clients
     have hli:(k:Int) < (mk.clients.length:Int):=by omega
     have hl0:(0:Int)<=(k:Int):=by omega
     clear hcs hc0 hc q1 q2 q3 hdc hgt hkd hlt hk;go_wp2_with (with_reducible refine zT ?_)
     unfold Hid;clear hli hl0;refine zgq rfl 55 (.tmp 79) rfl kb (ko+k * 6) rfl [.slice ka1 c.calls.length kc1,I c.at_,.bool c.sent,I c.gen,.slice kx1 c.box.length ky1,.slice kg1 c.got.length kh1] HRG.o zbN zbI (fun v80 H_v80=>?_);go_wp2_with (with_reducible refine zT ?_)
     clear HRG;refine zae rfl 55 zC (by kernel_rfl) (fun b15 w501_ M501=>?_);have zqF:=zld zcx M501;have zp5:=zld zbH M501;obtain ⟨E1,HE1⟩:=zEx E b15;have zp3:=zNn HE1;have zs7:Hid (wv.heap.size<=b15):=by unfold Hid; have q2:=M501.o.at_; have q3:=EW.o.size; omega
     have zoE:=zmb M501;go_wp2_with (with_reducible refine zT ?_)
     refine zac rfl 55 (.tmp 15) (.tmp 80) rfl b15 rfl _ (zcv H_v80) zoE rfl zbI rfl (fun w502_ M502=>?_);replace zoE:=zwb M502;replace X:=zHw M502 (zhd ((zMD HE1 M501 X).o.ext M501.o.ext)) zp3;obtain ⟨ao,cap,e1,_,hcm,_,hf⟩:=X.o.clients.o.form (by decide);simp only [Value.slice.injEq,true_and] at e1;obtain ⟨rfl,rfl⟩:=e1;obtain ⟨db,do_,cd,rfl,-,⟨z1,z2,z3,rfl,hz1,hz2,hz3⟩,hcell⟩:=hf k d HD.o;have f5:=hcell 5 z3 rfl;rw [<- Nat.add_assoc] at f5
     obtain ⟨zg,zh,rfl,hz4,hz5⟩:∃ a b,z3=.slice a d.got.length b/\d.got.length<=b/\b<=maxLen:=by
      obtain ⟨a,b,e,h1,h2,_⟩:=zfl hz3;exact ⟨a,b,e,h1,h2⟩
     have HZ:=zhd hz3;have hlen:d.got.length=c.got.length+tt.length:=by rw [HGT.o,List.length_append]
     have hcap:(c.got.length:Int)<=(zh:Int):=by omega
     have hcg0:(0:Int)<=(c.got.length:Int):=by omega
     have hkx:(k:Int) < (x.clients.length:Int):=by have:=HKD.o; omega
     have hl0:(0:Int)<=(k:Int):=by omega
     have HCG:Hid (c.got.length<=d.got.length):=by unfold Hid; omega
     have hcn:c.got.length<=zh:=by omega
     have hcd:decide ((d.got.length:Int) < (c.got.length:Int))=false:=decide_eq_false (by omega);have hcd2:decide (d.got.length < c.got.length)=false:=decide_eq_false (by omega);clear hf hz1 hz2 hz3 hcell hcm hlen;replace zbH:=zwl M502 (zmo M501 zbH) zp5;have x19:=zaa (i:=19) zbH.o rfl;have e5:=zaa (i:=5) zoE.o rfl;unfold maxLen at hz5;go_wp2_with fail
     replace H:=zHw M502 (zhd ((zMD HE1 M501 H).o.ext M501.o.ext)) zp3;replace Q3:=zwr M502 (zme M501 (zmd HE1 M501 Q3)) zp3;replace zcx:=zwl M502 (zmo M501 zcx) zqF;replace EW:=zwe M502 (zet EW M501) zs7;refine zbe [none,none,none,none,none,none,none,none,none,none,none,none,none,none,none,none,none,none,none,none,none,none,none,none,some (.inl (.bool true)),none,none] (by kernel_rfl) (by kernel_rfl) ?_ ?_
     ·exact ⟨trivial,trivial,trivial,trivial,trivial,trivial,trivial,trivial,trivial,trivial,trivial,trivial,trivial,trivial,trivial,trivial,trivial,trivial,trivial,trivial,trivial,trivial,trivial,trivial,trivial,trivial,trivial,trivial⟩
     (refine zap (fun K hK=>?_); go_simp; first | refine hK _ ?_ | refine ⟨(fun h=>by cases h),hK _ ?_⟩; clear hK K)
     refine zay (.slice (some ⟨db,do_,none⟩) x.clients.length kc0) rfl (fun w' hw'=>by have:=hw'.cell x19; go_simp) ?_;refine zai fun K h=>?_; go_simp; refine h _ ?_; clear h K;iterate 3 (refine zap (fun K hK=>?_); go_simp; first | refine hK _ ?_ | refine ⟨(fun h=>by cases h),hK _ ?_⟩; clear hK K)
     refine zay (.slice zg d.got.length zh) rfl (fun w' hw'=>by have:=hw'.cell f5; go_simp) ?_;refine zai fun K h=>?_; go_simp; refine h _ ?_; clear h K;iterate 2 (refine zap (fun K hK=>?_); go_simp; first | refine hK _ ?_ | refine ⟨(fun h=>by cases h),hK _ ?_⟩; clear hK K)
     refine zay (.slice kg1 c.got.length kh1) rfl (fun w' hw'=>by have:=hw'.cell e5; go_simp) ?_;refine zai fun K h=>?_; go_simp; refine h _ ?_; clear h K;iterate 4 (refine zap (fun K hK=>?_); go_simp; first | refine hK _ ?_ | refine ⟨(fun h=>by cases h),hK _ ?_⟩; clear hK K)
     refine zay (.slice (some ⟨db,do_,none⟩) x.clients.length kc0) rfl (fun w' hw'=>by have:=hw'.cell x19; go_simp) ?_;refine zai fun K h=>?_; go_simp; refine h _ ?_; clear h K;iterate 3 (refine zap (fun K hK=>?_); go_simp; first | refine hK _ ?_ | refine ⟨(fun h=>by cases h),hK _ ?_⟩; clear hK K)
     refine zay (.slice zg d.got.length zh) rfl (fun w' hw'=>by have:=hw'.cell f5; go_simp) ?_;refine zai fun K h=>?_; go_simp; refine h _ ?_; clear h K;(refine zap (fun K hK=>?_); go_simp; first | refine hK _ ?_ | refine ⟨(fun h=>by cases h),hK _ ?_⟩; clear hK K)
     refine zay (.slice kg1 c.got.length kh1) rfl (fun w' hw'=>by have:=hw'.cell e5; go_simp) ?_;refine zai fun K h=>?_; go_simp; refine h _ ?_; clear h K;iterate 3 (refine zap (fun K hK=>?_); go_simp; first | refine hK _ ?_ | refine ⟨(fun h=>by cases h),hK _ ?_⟩; clear hK K)
     refine zay (.slice kg1 c.got.length kh1) rfl (fun w' hw'=>by have:=hw'.cell e5; go_simp) ?_;refine zai fun K h=>?_; go_simp; refine h _ ?_; clear h K;refine zdp _ rfl (fun w' hw' hk=>?_) ?_
     ·have ht:=zas.take (by decide) (HZ.o.ext ze5 hw') c.got.length HCG.o;rw [HGT.o,List.take_left] at ht;have hg:=zcb (zqU _ _ c.got w' ht (Q3.o.ext hw').o);clear hk;unfold zaQ;go_simp
      exact ⟨Ext.refl _,hg⟩
     refine zai fun K h=>?_; go_simp; refine h _ ?_; clear h K;iterate 2 (refine zap (fun K hK=>?_); go_simp; first | refine hK _ ?_ | refine ⟨(fun h=>by cases h),hK _ ?_⟩; clear hK K)
     refine zaP ?_;intro w6 e6 _;clear x19 e5 f5 hcap hcg0 hkx hl0 hcn hz4 hz5 hcd hcd2;replace zcx:=zbx zcx e6;replace zbH:=zbx zbH e6;replace zoE:=zbx zoE e6;replace H:=zhd (H.o.ext e6);replace X:=zhd (X.o.ext e6);replace Q3:=zrx Q3 e6;replace EW:=zhd (EW.o.trans e6);clear e6;have hkb:k < 2000:=by have q:=HLT.o; have q2:=HNC.o; omega
     go_wp2
     go_roundw
     case rel=>exact ⟨k+1,HLT.o,by go_num,EW.o⟩
     case measure=>have:=HLT.o; simp [intOf]; omega

end Go.Proofs.YtdmipnnfoolelafGreat
