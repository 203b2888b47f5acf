/- Texts of the proof, merged: Q3 M1 M2 M3 M4. -/
import Derived.Test.YtdmipnnfoolelafKTA
import Derived.Test.YtdmipnnfoolelafKTZ
import Derived.Test.YtdmipnnfoolelafKTR
import Derived.Test.YtdmipnnfoolelafKTL
import Derived.Test.YtdmipnnfoolelafKTJ
import Derived.Handy
set_option maxHeartbeats 8000000
set_option maxRecDepth 100000

namespace Go.Proofs.Ytdmipnnfoolelaf
open Go.RowKit Go.Mk

theorem ziG (x0 x1 x2 x3:Value) (w:World):(Instr.field 30 (.agg #[x0,x1,x2,x3]) 0).run Try.prog w=.ok x0 w:=by kernel_rfl
theorem zjZ {l:List (List Cl)} {m:Mc} {k:Nat} (h:Gd l m k):zb8 (zaK m.store).cells=0:=by
 obtain ⟨_,⟨ks,bz,h2⟩,_⟩:=h
 exact h2.right

theorem ziM (hNow:zjn) (hPast:zf1) (hIdle:zhl) (hWhole:zf9) (v0 v1:Value) (l:List (List Cl)) (steps:List (Int×Int)) (n:Int) (w:World) (h0:zaq 1 zdb w v0 l) (h1:zan w v1 steps) :
  zba Try.prog 3 #[v0,v1,I n] w fun r _=>r=.bool true:=by
 refine zb6 ?_;have HV:=zhd (Rd.widen (B:=fun _=>True) (Rd.of (zcS zgb _ _) h0) (fun _ _ _=>trivial));replace HV:Hid (Rd (fun _=>True) (fun w=>zaq 1 zdb w v0 l) w):=HV;have HSTP:=zhd h1;obtain ⟨za,zc,rfl⟩:=zac h0;obtain ⟨ta,tc,rfl⟩:=zam h1;have HNO:=zhd hNow;have HPO:=zhd hPast;have HIO:=zhd hIdle;have HWO:=zhd hWhole;clear h0 h1 hNow hPast hIdle hWhole;have EW:=zhd (Ext.refl w);obtain ⟨B,HB0⟩:∃ B:Nat->Prop,Hid (∀ k,B k↔True):=⟨_,fun _=>Iff.rfl⟩;replace HV:=zhd (HV.o.widen (B:=B) fun k _ _=>(HB0.o k).2 trivial);go_enter Try.func3,Try.ntmps3
 go_wp2_with fail
 refine (zeP _ l w HV.o.o).mono ?_;rintro e wr0 ⟨bR,rfl,hbR,e0⟩
 replace HV:=zrx HV e0;replace EW:=zhd (EW.o.trans e0);clear e0;cases bR
 case false =>
  go_wp2
  go_ret
  exact ⟨rfl,EW.o⟩
 have HRL:=zhd (hbR.1 rfl);clear hbR;go_wp2_with fail
 obtain ⟨P,HP⟩:∃ X:Nat->Prop,Hid (∀ k,X k↔(B k∨wr0.heap.size<=k)):=⟨_,fun _=>Iff.rfl⟩;replace HV:=zhd (HV.o.widen (B:=P) fun k _ h=>(HP.o k).2 (.inl h));refine (zej _ _ l steps wr0 P HRL.o HV.o (HSTP.o.ext EW.o)).to fun r wp ep hr=>?_;obtain ⟨cs,es,rfl,hm,hes⟩:=zi1 hr;obtain ⟨mk,hmk⟩:∃ mk,zdc (newMc l) (steps.take 400)=mk:=⟨_,rfl⟩;have hgd:=ziP HRL.o steps;rw [hmk] at hm hgd;obtain ⟨c,u,a,p,box,plan,cl,rfl,hM⟩:=zeT hm;obtain ⟨ca,cc,ua,uc,aa,ac,pa,pc,xa,xc,la,lc,ka,kc,rfl,rfl,rfl,rfl,rfl,rfl,rfl⟩:=hM.slices;have GD:=zhd hgd;obtain ⟨esa,esc,rfl⟩:=zam hes.o;have H:=zhd (hM.widen (B:=P) fun k _ h=>(HP.o k).2 (by rcases h with h | h; exact (HP.o k).1 h; exact .inr h));clear hM hm hr hes hmk hgd;replace HV:=zrx HV ep;replace EW:=zhd (EW.o.trans ep);clear ep;go_wp2_with (with_reducible refine zT ?_)
 refine zah rfl 43 zM (by kernel_rfl) (fun b7 w1_ M1=>?_);obtain ⟨P1,HP1⟩:=zEx P b7;have zoz:=zNn HP1;have zoL:=zOn M1 EW;have zf5:=zmb M1;go_wp2_with (with_reducible refine zT ?_)
 refine zaf rfl 43 (.tmp 7) (.tmp 21) rfl b7 rfl [.slice ca mk.store.cells.length cc,.slice ua mk.store.undo.length uc,.slice aa mk.store.answers.length ac,.slice pa mk.store.past.length pc,I mk.server.gen,.slice xa mk.server.box.length xc,.bool mk.server.busy,I mk.server.now.client,I mk.server.now.token,I mk.server.now.call.kind,I mk.server.now.call.name,I mk.server.now.call.other,I mk.server.now.call.n,.slice la mk.server.plan.length lc,I mk.server.says.err,I mk.server.says.n,.bool mk.up,I mk.pause,I mk.falls,.slice ka mk.clients.length kc] (rfl) zf5 rfl za2 rfl (fun w2_ M2=>?_);replace zf5:=zwb M2;go_wp2_with (with_reducible refine zT ?_)
 refine zai rfl 43 (.tmp 7) rfl b7 rfl zf5 zbf za2 (fun v24 H_v24=>?_);go_wp2_with fail
 rw [H_v24.o];clear H_v24;have HLK:=zhd (ziv GD.o (by decide));replace H:=zHw M2 (zhd ((zMD HP1 M1 H).o.ext M1.o.ext)) zoz;refine (HPO.o mk _ _ _ _ _ _ _ n w2_ P1 H.o HLK.o).to fun r w3 e3 hr=>?_;obtain ⟨x,y,rfl,hx,hy⟩:=hr;obtain ⟨XL,hxl⟩:∃ q,zdx mk.store.past n=q:=⟨_,rfl⟩;obtain ⟨YL,hyl⟩:∃ q,zc3 (mk.store.past.zip (allCl (mk.store.past.map Rq.call)).2) n=q:=⟨_,rfl⟩;rw [hxl] at hx;rw [hyl] at hy
 have HXB:Hid (XL.length<=1000):=by
  unfold Hid;have q:=zfm mk.store.past n;rw [hxl] at q;have q2:=HLK.o.len;omega
 have HXL:=zhd hxl;have HYL:=zhd hyl;obtain ⟨sxa,sxc,rfl⟩:=zac hx;obtain ⟨sya,syc,rfl⟩:=zac hy;have HX:=zhd hx;have HY:=zhd hy;clear hx hy hxl hyl;replace HV:=zrx (zwr M2 (zme M1 (zmd HP1 M1 HV)) zoz) e3;replace EW:=zhd ((zwe M2 (zet EW M1) zoL).o.trans e3);replace zf5:=zbx zf5 e3;replace H:=zhd (H.o.ext e3);clear e3;go_wp2_with (with_reducible refine zT ?_)
 refine zai rfl 43 (.tmp 7) rfl b7 rfl zf5 zbf za2 (fun v30 H_v30=>?_);go_wp2_with fail
 rw [H_v30.o];clear H_v30;refine (zje mk _ _ _ _ _ _ _ n w3 P1 H.o HLK.o.past (by have q:=HLK.o.len; omega)).to fun r w4 e4 hr=>?_;obtain ⟨x,y,rfl,hx,hy⟩:=hr;rw [HXL.o] at hx;rw [HYL.o] at hy;replace hx:zaq 6 zes w4 x XL:=(zbz (f:=fun (x:Rq)=>[I x.client,I x.token,I x.call.kind,I x.call.name,I x.call.other,I x.call.n]) (fun _=>rfl)).2 (Row.of_owns hx);replace hy:zaq 2 zdA w4 y YL:=(zbz (f:=fun (x:Rp)=>[I x.err,I x.n]) (fun _=>rfl)).2 (Row.of_owns hy);obtain ⟨txa,txc,rfl⟩:=zac hx;obtain ⟨tya,tyc,rfl⟩:=zac hy;have GX:=zhd hx;have GY:=zhd hy;clear hx hy HXL HYL;replace zf5:=zbx zf5 e4;replace HV:=zrx HV e4;replace H:=zhd (H.o.ext e4);replace EW:=zhd (EW.o.trans e4);replace HX:=zhd (HX.o.ext zc1 e4);replace HY:=zhd (HY.o.ext zgZ e4);clear e4;go_wp2_with fail
 refine Calls.exts (zom _ _ YL w4 HY.o GY.o) (fun w5 e5=>?_);replace zf5:=zbx zf5 e5;replace HV:=zrx HV e5;replace H:=zhd (H.o.ext e5);replace EW:=zhd (EW.o.trans e5);replace HX:=zhd (HX.o.ext zc1 e5);replace GX:=zhd (GX.o.ext zc1 e5);clear e5 HY GY;go_wp2_with fail
 have E0:=EW;replace EW:=zhd (Ext.refl w5);clear HV;go_loopw [48] (fun i wr=>∃ j:Nat,j<=XL.length/\i=I j/\Ext w5 wr) (fun i _=>XL.length - (intOf i).toNat)
 case atStart=>exact ⟨0,Nat.zero_le _,rfl,Ext.refl _⟩
 case round =>
  obtain ⟨j,hj,rfl,hex⟩:=hrel;replace zf5:=zbx zf5 hex;replace H:=zhd (H.o.ext hex);replace EW:=zhd (EW.o.trans hex);replace HX:=zhd (HX.o.ext zc1 hex);replace GX:=zhd (GX.o.ext zc1 hex);clear hex;by_cases hlt:j < XL.length
  case pos =>
   obtain ⟨rq,hrq⟩:∃ r,XL[j]?=some r:=⟨XL[j],List.getElem?_eq_getElem hlt⟩;obtain ⟨_,_,e1,_,_,hf⟩:=zf2 HX.o;simp only [Value.slice.injEq,true_and] at e1;obtain ⟨rfl,rfl⟩:=e1;obtain ⟨pb,po,rfl,c0,c1,c2,c3,c4,c5⟩:=hf j _ hrq;obtain ⟨_,_,e1,_,_,hf⟩:=zf2 GX.o;simp only [Value.slice.injEq,true_and] at e1;obtain ⟨rfl,rfl⟩:=e1;obtain ⟨qb,qo,rfl,d0,d1,d2,d3,d4,d5⟩:=hf j _ hrq;have HLT:=zhd hlt;clear hf hrq;obtain ⟨rc,rt,⟨ck,ca2,co,cn⟩⟩:=rq;simp only [] at c0 c1 c2 c3 c4 c5 d0 d1 d2 d3 d4 d5;have hst:Try.prog.stoodInHeld 35=false:=by kernel_rfl
   have hgd:Try.prog.eqGuardType Try.prog.depth 35=false:=by kernel_rfl
   have hkb:=HXB.o;go_wp2_with fail
   refine zaR [none,none,none,none,none,none,none,none,none] (by kernel_rfl) (by kernel_rfl) ?_ ?_
   ·exact ⟨trivial,trivial,trivial,trivial,trivial,trivial,trivial,trivial,trivial,trivial⟩
   iterate 3 (refine zaj (fun K hK=>?_); go_simp; first | refine hK _ ?_ | refine ⟨(fun h=>by cases h),hK _ ?_⟩; clear hK K)
   refine zax (.agg #[I rc,I rt,I ck,I ca2,I co,I cn]) rfl (fun w' hw'=>by have q0:=hw'.cell c0; have q1:=hw'.cell c1; have q2:=hw'.cell c2; have q3:=hw'.cell c3; have q4:=hw'.cell c4; have q5:=hw'.cell c5; go_simp) ?_;refine zae fun K h=>?_; go_simp; refine h _ ?_; clear h K;iterate 3 (refine zaj (fun K hK=>?_); go_simp; first | refine hK _ ?_ | refine ⟨(fun h=>by cases h),hK _ ?_⟩; clear hK K)
   refine zax (.agg #[I rc,I rt,I ck,I ca2,I co,I cn]) rfl (fun w' hw'=>by have q0:=hw'.cell d0; have q1:=hw'.cell d1; have q2:=hw'.cell d2; have q3:=hw'.cell d3; have q4:=hw'.cell d4; have q5:=hw'.cell d5; go_simp) ?_;refine zae fun K h=>?_; go_simp; refine h _ ?_; clear h K;(refine zaj (fun K hK=>?_); go_simp; first | refine hK _ ?_ | refine ⟨(fun h=>by cases h),hK _ ?_⟩; clear hK K)
   refine zaL ?_;intro w6 e6 _;clear c0 c1 c2 c3 c4 c5 d0 d1 d2 d3 d4 d5 hst hgd;go_wp2
   go_roundw
   case rel=>exact ⟨j+1,HLT.o,by go_num,EW.o.trans e6⟩
   case measure=>have:=HLT.o; simp [intOf]; omega
  obtain rfl:j=XL.length:=by omega
  clear hlt hj HX GX;go_wp2_with fail
  refine zaR [none,some (.inl (.bool (zf3 mk))),none,some (.inl (.bool (zf3 mk))),none,none,none,some (.inr (fun v wx=>zan wx v (zaZ (zao mk.store.cells mk.store.undo)))),none,none,some (.inr (zmR (zaK mk.store))),some (.inr (fun v wx=>zbo wx v (zaK mk.store).cells)),some (.inr (fun v wx=>zan wx v (zaz (zaK mk.store).cells ((zaK mk.store).cells.getD 0 0).toNat))),some (.inl (.bool true)),none,none] (by kernel_rfl) (by kernel_rfl) ?_ ?_
  ·exact ⟨trivial,trivial,trivial,trivial,trivial,trivial,trivial,fun _ _ _ he h=>h.ext he,trivial,trivial,fun _ _ _ he h=>h.ext he,fun _ _ _ he h=>h.ext he,fun _ _ _ he h=>h.ext he,trivial,trivial,trivial,trivial⟩
  refine zax (.agg #[.slice ca mk.store.cells.length cc,.slice ua mk.store.undo.length uc,.slice aa mk.store.answers.length ac,.slice pa mk.store.past.length pc,I mk.server.gen,.slice xa mk.server.box.length xc,.bool mk.server.busy,I mk.server.now.client,I mk.server.now.token,I mk.server.now.call.kind,I mk.server.now.call.name,I mk.server.now.call.other,I mk.server.now.call.n,.slice la mk.server.plan.length lc,I mk.server.says.err,I mk.server.says.n,.bool mk.up,I mk.pause,I mk.falls,.slice ka mk.clients.length kc]) rfl (fun w' hw'=>zbG 43 (.tmp 7) rfl b7 0 rfl (zcy zf5.o hw') [.slice ca mk.store.cells.length cc,.slice ua mk.store.undo.length uc,.slice aa mk.store.answers.length ac,.slice pa mk.store.past.length pc,I mk.server.gen,.slice xa mk.server.box.length xc,.bool mk.server.busy,I mk.server.now.client,I mk.server.now.token,I mk.server.now.call.kind,I mk.server.now.call.name,I mk.server.now.call.other,I mk.server.now.call.n,.slice la mk.server.plan.length lc,I mk.server.says.err,I mk.server.says.n,.bool mk.up,I mk.pause,I mk.falls,.slice ka mk.clients.length kc] rfl zbf (by kernel_rfl)) ?_;refine zae fun K h=>?_; go_simp; refine h _ ?_; clear h K;refine zdd _ rfl (fun w' hw' hk=>?_) ?_
  ·have hg:=HIO.o mk _ _ _ _ _ _ _ w' _ (H.o.ext hw') HLK.o;clear hk;unfold zaI;go_simp
   exact ⟨Ext.refl _,hg⟩
  refine zae fun K h=>?_; go_simp; refine h _ ?_; clear h K;refine zax (.agg #[.slice ca mk.store.cells.length cc,.slice ua mk.store.undo.length uc,.slice aa mk.store.answers.length ac,.slice pa mk.store.past.length pc,I mk.server.gen,.slice xa mk.server.box.length xc,.bool mk.server.busy,I mk.server.now.client,I mk.server.now.token,I mk.server.now.call.kind,I mk.server.now.call.name,I mk.server.now.call.other,I mk.server.now.call.n,.slice la mk.server.plan.length lc,I mk.server.says.err,I mk.server.says.n,.bool mk.up,I mk.pause,I mk.falls,.slice ka mk.clients.length kc]) rfl (fun w' hw'=>zbG 43 (.tmp 7) rfl b7 0 rfl (zcy zf5.o hw') [.slice ca mk.store.cells.length cc,.slice ua mk.store.undo.length uc,.slice aa mk.store.answers.length ac,.slice pa mk.store.past.length pc,I mk.server.gen,.slice xa mk.server.box.length xc,.bool mk.server.busy,I mk.server.now.client,I mk.server.now.token,I mk.server.now.call.kind,I mk.server.now.call.name,I mk.server.now.call.other,I mk.server.now.call.n,.slice la mk.server.plan.length lc,I mk.server.says.err,I mk.server.says.n,.bool mk.up,I mk.pause,I mk.falls,.slice ka mk.clients.length kc] rfl zbf (by kernel_rfl)) ?_;refine zae fun K h=>?_; go_simp; refine h _ ?_; clear h K;refine zdd _ rfl (fun w' hw' hk=>?_) ?_
  ·have hg:=zb6 (zjf mk _ _ _ _ _ _ _ w' (H.o.ext hw'));clear hk;unfold zaI;go_simp
   exact ⟨Ext.refl _,hg⟩
  refine zae fun K h=>?_; go_simp; refine h _ ?_; clear h K;iterate 2 (refine zaj (fun K hK=>?_); go_simp; first | refine hK _ ?_ | refine ⟨(fun h=>by cases h),hK _ ?_⟩; clear hK K)
  refine zax (.agg #[.slice ca mk.store.cells.length cc,.slice ua mk.store.undo.length uc,.slice aa mk.store.answers.length ac,.slice pa mk.store.past.length pc,I mk.server.gen,.slice xa mk.server.box.length xc,.bool mk.server.busy,I mk.server.now.client,I mk.server.now.token,I mk.server.now.call.kind,I mk.server.now.call.name,I mk.server.now.call.other,I mk.server.now.call.n,.slice la mk.server.plan.length lc,I mk.server.says.err,I mk.server.says.n,.bool mk.up,I mk.pause,I mk.falls,.slice ka mk.clients.length kc]) rfl (fun w' hw'=>zbG 43 (.tmp 7) rfl b7 0 rfl (zcy zf5.o hw') [.slice ca mk.store.cells.length cc,.slice ua mk.store.undo.length uc,.slice aa mk.store.answers.length ac,.slice pa mk.store.past.length pc,I mk.server.gen,.slice xa mk.server.box.length xc,.bool mk.server.busy,I mk.server.now.client,I mk.server.now.token,I mk.server.now.call.kind,I mk.server.now.call.name,I mk.server.now.call.other,I mk.server.now.call.n,.slice la mk.server.plan.length lc,I mk.server.says.err,I mk.server.says.n,.bool mk.up,I mk.pause,I mk.falls,.slice ka mk.clients.length kc] rfl zbf (by kernel_rfl)) ?_;refine zae fun K h=>?_; go_simp; refine h _ ?_; clear h K;refine za0 _ rfl (fun w' hw' hk=>?_) (fun v68=>?_)
  ·have hg:=HNO.o mk _ _ _ _ _ _ _ w' _ (H.o.ext hw') HLK.o;clear hk;unfold zaI;go_simp
   exact ⟨Ext.refl _,hg⟩
  refine zae fun K h=>?_; go_simp; refine h _ ?_; clear h K;(refine zaj (fun K hK=>?_); go_simp; first | refine hK _ ?_ | refine ⟨(fun h=>by cases h),hK _ ?_⟩; clear hK K)
  refine zax (.agg #[.slice ca mk.store.cells.length cc,.slice ua mk.store.undo.length uc,.slice aa mk.store.answers.length ac,.slice pa mk.store.past.length pc]) rfl (fun w' hw'=>zbG 30 (.tmp 69) rfl b7 0 rfl (zcy zf5.o hw') [.slice ca mk.store.cells.length cc,.slice ua mk.store.undo.length uc,.slice aa mk.store.answers.length ac,.slice pa mk.store.past.length pc] rfl zdh (by kernel_rfl)) ?_;refine zae fun K h=>?_; go_simp; refine h _ ?_; clear h K;refine za0 _ rfl (fun w' hw' hk=>?_) (fun v71=>?_)
  ·have hg:=zk6 (zeb _ _ _ _ mk.store w' _ ((zcW H.o.cells H.o.undo H.o.answers H.o.past).ext hw') GD.o.cells);clear hk;unfold zaI;go_simp
   exact ⟨Ext.refl _,hg⟩
  refine zae fun K h=>?_; go_simp; refine h _ ?_; clear h K;refine za0 _ rfl (fun w' hw' hk=>?_) (fun v72=>?_)
  ·obtain ⟨c5,u5,a5,p5,rfl,q2⟩:zmR (zaK mk.store) v71 w':=hk 71 (by decide);have hf:=ziG c5 u5 a5 p5 w';have hg:=(zdB.1 q2).1;clear hk;unfold zaI;go_simp
   exact ⟨Ext.refl _,hg⟩
  refine zae fun K h=>?_; go_simp; refine h _ ?_; clear h K;refine za0 _ rfl (fun w' hw' hk=>?_) (fun v73=>?_)
  ·have q2:zbo w' v72 (zaK mk.store).cells:=hk 72 (by decide);have hg:zba Try.prog 15 #[v72] w' (fun v wx=>zan wx v (zaz (zaK mk.store).cells ((zaK mk.store).cells.getD 0 0).toNat)):=zlF v72 (zaK mk.store).cells w' q2 (zjZ GD.o);clear hk;unfold zaI;go_simp
   exact ⟨Ext.refl _,hg⟩
  refine zae fun K h=>?_; go_simp; refine h _ ?_; clear h K;refine zdd _ rfl (fun w' hw' hk=>?_) ?_
  ·have q1:zan w' v68 (zaZ (zao mk.store.cells mk.store.undo)):=hk 68 (by decide);have q2:zan w' v73 (zaz (zaK mk.store).cells ((zaK mk.store).cells.getD 0 0).toNat):=hk 73 (by decide);have hg:=zhJ rfl q1 q2;clear hk;unfold zaI;go_simp
   exact ⟨Ext.refl _,hg⟩
  refine zae fun K h=>?_; go_simp; refine h _ ?_; clear h K;iterate 2 (refine zaj (fun K hK=>?_); go_simp; first | refine hK _ ?_ | refine ⟨(fun h=>by cases h),hK _ ?_⟩; clear hK K)
  refine zaL ?_;intro w9 e9 _;replace zf5:=zbx zf5 e9;replace H:=zhd (H.o.ext e9);replace EW:=zhd (EW.o.trans e9);clear e9;go_wp2
  go_ret
  exact ⟨rfl,E0.o.trans EW.o⟩

open Go.RowKit Go.Mk

theorem zdt (v:Value) (n:Int) (w:World) :
  Calls Try.prog 84 #[v,I n] w fun e w'=>e=.returned (.tuple #[v,.agg #[I 0,I n]])/\Ext w w':=by
 go_enter Try.func84,Try.ntmps84
 go_wp2
 go_returns
 exact ⟨rfl,(Ext.refl w).alloc _⟩

theorem zdV (v:Value) (n:Int) (w:World) :
  Calls Try.prog 82 #[v,I n] w fun e w'=>e=.returned (.tuple #[v,.agg #[I n,I 0]])/\Ext w w':=by
 go_enter Try.func82,Try.ntmps82
 go_wp2
 go_returns
 exact ⟨rfl,(Ext.refl w).alloc _⟩

def zdN (l:List (Int×Int)) (name:Int):Int:=if at1 l name < l.length then (at1 l name:Int) else -1

theorem zdL (v:Value) (l:List (Int×Int)) (name:Int) (w:World) (hv:zan w v l) :
  Calls Try.prog 86 #[v,I name] w fun e w'=>e=.returned (I (zdN l name))/\Ext w w':=by
 obtain ⟨ao,cap,rfl,h1,h2,h3⟩:=hv.form;unfold maxLen at h2;clear hv;go_enter Try.func86,Try.ntmps86
 go_wp2
 go_loopw [9] (fun i wr=>∃ k:Nat,k<=l.length/\i=I k/\(∀ j,j < k->(l.getD j (0,0)).1≠name)/\Ext w wr) (fun i _=>l.length - (intOf i).toNat)
 case atStart=>exact ⟨0,by omega,rfl,fun j hj=>by omega,Ext.refl w⟩
 case round =>
  obtain ⟨k,hk,rfl,hf,he⟩:=hrel;have HF:Hid (∀ j,j < k->(l.getD j (0,0)).1≠name):=hf;clear hf;by_cases hlt:k < l.length
  ·obtain ⟨b,off,rfl,hc1,hc2⟩:=h3 k hlt;clear h3;have hd1:=he.cell hc1;have hd2:=he.cell hc2;clear hc1 hc2;generalize hp:l.getD k (0,0)=p at hd1 hd2;have HP:Hid (l.getD k (0,0)=p):=hp;clear hp;obtain ⟨at_,n⟩:=p;simp only [] at hd1 hd2;by_cases hn:at_=name
   ·have hb:(at_ == name)=true:=by simp [hn]
    have HN:Hid (at_=name):=hn;clear hn;go_wp2
    go_ret
    refine ⟨zeF ?_,he.alloc _⟩;have:=zhz hlt (by rw [HP.o]; exact HN.o) HF.o;unfold zdN;rw [this,if_pos hlt]
   ·have hb:(at_ == name)=false:=by simpa using hn
    have HN:Hid (at_≠name):=hn;clear hn;go_wp2
    go_roundw
    case rel =>
     refine ⟨k+1,by omega,by go_num,fun j hj=>?_,he.alloc _⟩;by_cases hjk:j < k
     ·exact HF.o j hjk
     ·rw [show j=k by omega,HP.o]; exact HN.o
    case measure=>simp [intOf]; omega
  ·go_wp2
   go_ret
   refine ⟨zeF ?_,he⟩;have:=zeX (l:=l) (name:=name) (fun j hj=>HF.o j (by omega));unfold zdN;rw [if_neg (by omega)]

theorem zhK {P:Program} (w:World) (t ty e:TypeId) (hu:P.underlying t=some (.slice e)) (hsz:(P.info? e).map (·.size)=some 2) (base g n:Nat) (v:Value) (cs old:List Value)
  (hown:w.ownsRow base e 2 (.slice (some ⟨g,0,none⟩) n n) n old) (hv:Row w 2 v n cs) (h1:∀ u ∈ cs,u.oneCell'=true) :
  ∃ w',(Builtin.copy_ #[t,t] ty #[.slice (some ⟨g,0,none⟩) n n,v]).run P w=.ok (goInt n) w'/\w'.ownsRow base e 2 (.slice (some ⟨g,0,none⟩) n n) n cs/\w.grownBy w' (some g):=by
 obtain ⟨hl,ao,cap,rfl,hc,hm,_,hcell⟩:=hv
 obtain ⟨ho,ho'⟩:=hown
 rcases ho' with ⟨h,_⟩ | ⟨g',cap',cur,h,hb,hg,hn,hm',hs,ht⟩
 ·simp at h
 simp only [Value.slice.injEq,Option.some.injEq,Addr.mk.injEq,and_true,true_and] at h
 obtain ⟨rfl,rfl⟩:=h
 cases hq:P.info? e with
 | none=>simp [hq] at hsz
 | some i =>
 have hi:i.size=2:=by simpa [hq] using hsz
 by_cases h0:n=0
 ·subst h0
  have:cs=[]:=List.eq_nil_of_length_eq_zero (by simpa using hl)
  subst this
  refine ⟨w,?_,⟨rfl,.inr ⟨g,0,cur,rfl,hb,hg,Nat.le_refl _,hm',by simpa using hs,by simp⟩⟩,World.grownBy.refl _ _⟩
  cases ao <;> simp [Builtin.copy_,run_underlying hu,Builtin.lenOf,Builtin.firstCells,sizeOf,typeInfo,hq,storeCells,loadCells,loadCellsFrom]
 ·have hne:cs≠[]:=by intro e; subst e; simp at hl; omega
  obtain ⟨c0,hc0⟩:∃ c,cs[0]?=some c:=by cases cs with | nil=>exact absurd rfl hne | cons c _=>exact ⟨c,rfl⟩
  obtain ⟨b,off,rfl,_⟩:=hcell 0 c0 hc0
  have hload:=run_loadCells_list (P:=P) w ⟨b,off,none⟩ cs (fun j u hj=>by
   obtain ⟨b',off',e',hc'⟩:=hcell j u hj
   simp only [Option.some.injEq,Addr.mk.injEq,and_true] at e'
   obtain ⟨rfl,rfl⟩:=e'
   rw [add_plain]; exact hc')
  have hst:=run_storeCells_at P g 0 e cs 0 cur w hg (by simp; omega) h1
  rw [hl] at hload
  refine ⟨_,by simp [Builtin.copy_,run_underlying hu,Builtin.lenOf,Builtin.firstCells,sizeOf,typeInfo,hq,hi,hload,hst]; rfl,⟨hl,.inr ⟨g,n,_,rfl,hb,setRow_heap w g cur _ e _ hg,Nat.le_refl _,hm',?_,?_⟩⟩,⟨rfl,rfl,rfl,by simp [World.setRow],fun k _ hk=>setRow_other w g k _ (fun e=>hk (by simp [e]))⟩⟩
  ·simp; omega
  ·simp [<- hl]

open Go.RowKit Go.Mk

theorem zms (v:Value) (l:List (Int×Int)) (w:World) (hv:zan w v l) (hr:l.length * 16<=140737488355328) :
  Calls Try.prog 59 #[v] w fun e w'=>e=.returned (.slice (some ⟨w.heap.size,0,none⟩) l.length l.length)/\w'.ownsRow w.heap.size 74 2 (.slice (some ⟨w.heap.size,0,none⟩) l.length l.length) l.length (zat l)/\Ext w w':=by
 obtain ⟨i0,hi,hz0,hz1,hz2⟩:=info_parts Try.infoWrite2;obtain ⟨hlen,ao,cap,rfl,h1,h2,h0,h3⟩:=hv;unfold maxLen at h2;go_enter Try.func59,Try.ntmps59
 go_wp2_with (at_make; refine wpList_make_full _ rfl _ _ 26 rfl w.heap.size 74 i0 (.agg #[.int .i64 0,.int .i64 0]) 2 zfr hi hz0 hz1 .i64 .i64 _ _ l.length rfl rfl rfl rfl (by rw [hz2]; omega) (by unfold maxLen; omega) (Nat.le_refl _) ?_; intro w1 hown hgrow)
 have he1:Ext w w1:=(Ext.refl w).grown hgrow (fun k hk=>by cases hk);obtain ⟨w2,hrun,hown2,hgrow2⟩:=zhK (P:=Try.prog) w1 26 3 74 zfr Try.infoWriteSz w.heap.size w.heap.size l.length _ (zat l) _ hown (Row.ext ⟨hlen,ao,cap,rfl,h1,h2,h0,h3⟩ he1) (zbp l);have he2:Ext w w2:=he1.grown hgrow2 (fun k hk=>by cases hk; exact Nat.le_refl _);rw [hrun];clear hrun hown hgrow hgrow2 he1 h3;go_wp2
 go_ret
 exact ⟨rfl,hown2,he2⟩

open Go.RowKit Go.Mk

def ze7 (w:World) (g:Nat) (l:List (Int×Int)) (r:Rp) (e:Ending) (w':World):Prop :=
 ∃ u v n lo,e=.returned (.tuple #[u,.agg #[I r.err,I r.n]])/\w'.ownsRow g 74 2 v n (zat lo)/\(∀ w2:World,w2.ownsRow g 74 2 v n (zat lo)->zan w2 u l)/\w.grownBy w' (some g)

abbrev zcB (w:World) (g:Nat) (l:List (Int×Int)):Prop:=w.ownsRow g 74 2 (.slice (some ⟨g,0,none⟩) l.length l.length) l.length (zat l)

theorem zbY {w w1:World} {g b n:Nat} {u v x y:Value} {l l':List (Int×Int)} {r:Rp} (hb:w.heap.size<=b) (ho:w1.ownsRow g 74 2 v n (zat l)) (hv:v.ownBlock≠some b) (hg:w.grownBy w1 (some g))
  (hu:∀ w2:World,w2.ownsRow g 74 2 v n (zat l)->zan w2 u l'):ze7 w g l' r (.returned (.tuple #[u,.agg #[I r.err,I r.n]])) ((w1.setCell ⟨b,0,none⟩ x).setCell ⟨b,1,none⟩ y) :=
 ⟨u,v,n,l,rfl,zbP (zbP ho hv _ _) hv _ _,hu,zh3 (zh3 hg hb _ _) hb _ _⟩

theorem ziW {w:World} {g:Nat} {l:List (Int×Int)} (ho:zcB w g l):(Value.slice (some ⟨g,0,none⟩) l.length l.length).ownBlock≠some w.heap.size:=fun e=>by
 have h:=(ho.lt g rfl).2
 have e2:g=w.heap.size:=by simpa [Value.ownBlock] using e
 rw [e2] at h
 exact Nat.lt_irrefl _ h

theorem zlB (l:List (Int×Int)) (g:Nat) (w:World) (ho:zcB w g l) :
  Calls Try.prog 74 #[.slice (some ⟨g,0,none⟩) l.length l.length] w fun e w'=>ze7 w g l ⟨0,l.length⟩ e w':=by
 go_enter Try.func74,Try.ntmps74
 go_wp2_with fail
 refine Calls.exts (zdt _ _ _) (fun w1 e1=>?_);obtain ⟨c0,c1,f0,f1⟩:=ziJ e1;go_wp2
 try simp only [Exit.inBlock,Exit.then]
 refine bodyPost_ret (by simp [results,Try.results74,go_sem,c0,c1]; rfl) rfl ?_;have he:Ext w w1:=((Ext.refl w).alloc _).trans e1;exact zbY (Nat.le_refl _) (zaw ho he) (ziW ho) (he.grownBy _) (fun w2 h2=>zar h2)

theorem zb1 {w:World} {g:Nat} {l:List (Int×Int)} (ho:zcB w g l) (i:Nat) (hi:i < l.length):w.cell? ⟨g,i * 2,none⟩=some (I (l.getD i (0,0)).1)/\w.cell? ⟨g,i * 2+1,none⟩=some (I (l.getD i (0,0)).2):=by
 obtain ⟨a,b⟩:=zez l i hi
 rw [<- ho.cellAt _ (by omega)] at a b
 exact ⟨a,b⟩

theorem zns (l:List (Int×Int)) (g i:Nat) (w:World) (ho:zcB w g l) (hi:i < l.length) :
  Calls Try.prog 77 #[.slice (some ⟨g,0,none⟩) l.length l.length,I i] w fun e w'=>ze7 w g l ⟨0,num l i⟩ e w':=by
 have hc:∀ o,(w.alloc o).cell? ⟨g,i * 2+1,none⟩=some (I (num l i)):=fun o=>(zb1 (ho.alloc o) i hi).2;go_enter Try.func77,Try.ntmps77
 go_wp2_with fail
 refine Calls.exts (zdt _ _ _) (fun w1 e1=>?_);obtain ⟨c0,c1,f0,f1⟩:=ziJ e1;go_wp2
 try simp only [Exit.inBlock,Exit.then]
 refine bodyPost_ret (by simp [results,Try.results77,go_sem,c0,c1]; rfl) rfl ?_;have he:Ext w w1:=((Ext.refl w).alloc _).trans e1;exact zbY (Nat.le_refl _) (zaw ho he) (ziW ho) (he.grownBy _) (fun w2 h2=>zar h2)

theorem zmT (l:List (Int×Int)) (g i:Nat) (w:World) (ho:zcB w g l) (hi:i < l.length) (hr:l.length * 16<=140737488355328) :
  Calls Try.prog 78 #[.slice (some ⟨g,0,none⟩) l.length l.length,I i] w fun e w'=>ze7 w g ((l.set i (l.getD (l.length - 1) (0,0))).take (l.length - 1)) ⟨0,num l i⟩ e w':=by
 have hg:g < w.heap.size:=(ho.lt g rfl).2;obtain ⟨hc1,hc2⟩:=zb1 ho i hi;obtain ⟨hc3,hc4⟩:=zb1 ho (l.length - 1) (by omega);have hf1:w.frozen? ⟨g,i * 2,none⟩=false:=ho.frozenAt _;have hf2:w.frozen? ⟨g,i * 2+1,none⟩=false:=ho.frozenAt _;have HN:Hid (num l i=(l.getD i (0,0)).2):=rfl;generalize hL:l.length - 1=L at *;have hLi:(l.length:Int) - 1=(L:Int):=by omega
 have hLl:(L:Int) < (l.length:Int):=by omega
 have hLt:(L:Int).toNat=L:=by omega
 have HL:Hid (l.length - 1=L):=hL;clear hL;generalize hQ:l.getD L (0,0)=q at *;have HQ:Hid (l.getD L (0,0)=q):=hQ;clear hQ;generalize hP:l.getD i (0,0)=p at *;obtain ⟨p1,p2⟩:=p;obtain ⟨q1,q2⟩:=q;simp only [] at hc1 hc2 hc3 hc4;rw [HN.o];clear hP HN;go_enter Try.func78,Try.ntmps78
 go_wp2_with fail
 refine Calls.exts (zdt _ _ _) (fun w1 e1=>?_);obtain ⟨c0,c1,f0,f1⟩:=zop w.heap.size e1 (by simp);have s1:=ho.stored (i * 2) (I q1);have s2:=s1.1.stored (i * 2+1) (I q2);have ho':=zaw s2.1 (((Ext.refl _).alloc _).trans e1);have hg':=zbj (zbj s1.2 s2.2) ((((Ext.refl _).alloc _).trans e1).grownBy _);clear s1 s2 hc1 hc2 hc3 hc4 hf1 hf2 e1;go_wp2
 try simp only [Exit.inBlock,Exit.then]
 refine bodyPost_ret (by simp [results,Try.results78,go_sem,c0,c1]; rfl) rfl ?_;have hlen:(l.set i (q1,q2)).length=l.length:=by simp
 rw [show ((zat l).set (i * 2) (I q1)).set (i * 2+1) (I q2)=zat (l.set i (q1,q2)) from (zfM l i (q1,q2)).symm,<- hlen] at ho';exact zbY (Nat.le_refl _) ho' (by rw [hlen]; exact ziW ho) hg' (fun w2 h2=>by have:=(zar h2).take L (by rw [hlen]; omega); rwa [hlen] at this)

theorem zeK {w:World} {g:Nat} {l:List (Int×Int)} (ho:zcB w g l) (i:Nat) (hi:i < l.length) (n:Int):zcB (w.setCell ⟨g,i * 2+1,none⟩ (I n)) g (zch l i n):=by
 have h:=(ho.stored (i * 2+1) (I n)).1
 unfold zcB
 rw [zaH]
 have e:(zat l).set (i * 2+1) (I n)=zat (zch l i n):=by
  unfold zch
  rw [zfM]
  congr 1
  simp only []
  have h1:=(zez l i hi).1
  obtain ⟨hlt,h2⟩:=List.getElem?_eq_some_iff.1 h1
  rw [<- h2,List.set_getElem_self]
 rw [<- e]
 exact h

theorem zdE {w:World} {g:Nat} {l:List (Int×Int)} (ho:zcB w g l) {n m:Nat}:(Value.slice (some ⟨g,0,none⟩) n m).ownBlock≠some w.heap.size:=ziW ho

theorem znJ (l:List (Int×Int)) (g i b:Nat) (n:Int) (w:World) (ho:zcB w g l) (hi:i < l.length) (hb:w.cell? ⟨b,0,none⟩=some (I n)) (hbl:b < w.heap.size)
  (hn:-1073741824<=n/\n<=1073741824) (hm:-1073741824<=num l i/\num l i<=1073741824) :
  Calls Try.prog 88 #[.slice (some ⟨g,0,none⟩) l.length l.length,I i,.pointer (some ⟨b,0,none⟩)] w fun e w' =>
   if -1073741824<=num l i+n/\num l i+n<=1073741824 then ze7 w g (zch l i (num l i+n)) ⟨0,num l i+n⟩ e w' else ze7 w g l ⟨3,0⟩ e w':=by
 have hg:g < w.heap.size:=(ho.lt g rfl).2;obtain ⟨hc1,hc2⟩:=zb1 ho i hi;replace hc2:w.cell? ⟨g,i * 2+1,none⟩=some (I (num l i)):=hc2;clear hc1;have hf2:w.frozen? ⟨g,i * 2+1,none⟩=false:=ho.frozenAt _;have HO:Hid (∀ wx m,Ext w wx->zcB (wx.setCell ⟨g,i * 2+1,none⟩ (I m)) g (zch l i m)):=fun wx m hx=>zeK (zaw ho hx) i hi m;generalize num l i=m at *;obtain ⟨n1,n2⟩:=hn;obtain ⟨m1,m2⟩:=hm;by_cases hs:-1073741824<=m+n/\m+n<=1073741824
 ·simp only [hs,and_self,if_true];obtain ⟨s1,s2⟩:=hs;go_enter Try.func88,Try.ntmps88
  go_wp2_with fail
  go_quiet (fail)
  go_wp2_with (go_at_call 89; refine Calls.same (zeZ _ _ _ _) ?_)
  refine Calls.exts (zdt _ _ _) (fun w1 e1=>?_);obtain ⟨c0,c1,f0,f1⟩:=zaC (ziw hg) e1;have ho':=zaw (HO.o _ _ (((Ext.refl w).alloc _).drewN _)) e1;have hg':=zbj (zbj ((((Ext.refl w).alloc _).drewN nq).grownBy (some g)) (zcF _ g (i * 2+1) (I (m+n)))) (e1.grownBy _);go_wp2
  try simp only [Exit.inBlock,Exit.then]
  refine bodyPost_ret (by simp [results,Try.results88,go_sem,c0,c1]; rfl) rfl ?_;exact zbY (Nat.le_refl _) ho' (zdE ho) hg' (fun w2 h2=>by have:=zar h2; rwa [zaH] at this)
 ·simp only [hs,if_false];have hs2:m+n < -1073741824∨1073741824 < m+n:=by omega
  clear hs;rcases hs2 with hs2 | hs2
  ·have d1:decide (-1073741824<=m+n)=false:=by simp; omega
   go_enter Try.func88,Try.ntmps88
   go_wp2_with fail
   go_quiet (fail)
   go_wp2_with (go_at_call 89; refine Calls.same (zeZ _ _ _ _) ?_)
   refine Calls.exts (zdV _ _ _) (fun w1 e1=>?_);obtain ⟨c0,c1,f0,f1⟩:=zaC (zfD w _ _) e1;have he:Ext w w1:=(((Ext.refl w).alloc _).drewN _).trans e1;go_wp2
   try simp only [Exit.inBlock,Exit.then]
   refine bodyPost_ret (by simp [results,Try.results88,go_sem,c0,c1]; rfl) rfl ?_;exact zbY (Nat.le_refl _) (zaw ho he) (zdE ho) (he.grownBy _) (fun w2 h2=>zar h2)
  ·have d1:decide (m+n<=1073741824)=false:=by simp; omega
   go_enter Try.func88,Try.ntmps88
   go_wp2_with fail
   go_quiet (fail)
   go_wp2_with (go_at_call 89; refine Calls.same (zeZ _ _ _ _) ?_)
   refine Calls.exts (zdV _ _ _) (fun w1 e1=>?_);obtain ⟨c0,c1,f0,f1⟩:=zaC (zfD w _ _) e1;have he:Ext w w1:=(((Ext.refl w).alloc _).drewN _).trans e1;go_wp2
   try simp only [Exit.inBlock,Exit.then]
   refine bodyPost_ret (by simp [results,Try.results88,go_sem,c0,c1]; rfl) rfl ?_;exact zbY (Nat.le_refl _) (zaw ho he) (zdE ho) (he.grownBy _) (fun w2 h2=>zar h2)

end Go.Proofs.Ytdmipnnfoolelaf
