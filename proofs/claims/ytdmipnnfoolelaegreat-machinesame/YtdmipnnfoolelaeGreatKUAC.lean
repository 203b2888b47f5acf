/- Texts of the proof, merged: J5. -/
import Derived.Test.YtdmipnnfoolelaeGreatKUA
import Derived.Test.YtdmipnnfoolelaeGreatKUAA
import Derived.Test.YtdmipnnfoolelaeGreatKUH
import Derived.Test.YtdmipnnfoolelaeGreatKUAB
import Derived.Test.YtdmipnnfoolelaeGreatKUI
set_option maxHeartbeats 8000000
set_option maxRecDepth 100000

namespace Go.Proofs.YtdmipnnfoolelaeGreat
open Go.RowKit Go.Mk

theorem zm8 {l:List (List Cl)} {m:Mc} {k:Nat} (h:Gd l m k):∀ r ∈ m.store.past,wrongCl r.call=0:=by
 obtain ⟨h1,⟨ks,bz,h2⟩,_⟩:=h
 intro r hr
 obtain ⟨i,t,hi,ht,rfl⟩:=h2.past r hr
 exact zeC h1 hi ht
theorem zjs {l:List (List Cl)} {m:Mc} {k:Nat} (h:Gd l m k):zcW (zbm m.store).cells=0/\zaI (zbm m.store).cells ((zbm m.store).cells.getD 0 0).toNat=(allCl (m.store.past.map Rq.call)).1:=by
 obtain ⟨_,⟨ks,bz,h2⟩,_⟩:=h
 exact ⟨h2.right,h2.nm⟩
theorem zkL (x0 x1 x2 x3:Value) (w:World):(Instr.field 31 (.agg #[x0,x1,x2,x3]) 0).run Tryz.prog w=.ok x0 w:=by kernel_rfl

theorem zjA (hNew:zmh) (hDo:zpe) (v0 v1:Value) (l:List (List Cl)) (steps:List (Int×Int)) (sk sn:Int) (w:World) (h0:zar 1 zdL w v0 l) (h1:zax w v1 steps) :
  zaU Tryz.prog 4 #[v0,v1,.agg #[I sk,I sn]] w fun r _=>r=.bool true:=by
 refine zcs ?_;have HV:=zhd (Rd.widen (B:=fun _=>True) (Rd.of (zd9 zhE _ _) h0) (fun _ _ _=>trivial));replace HV:Hid (Rd (fun _=>True) (fun w=>zar 1 zdL w v0 l) w):=HV;have HSTP:=zhd h1;obtain ⟨za,zc,rfl⟩:=zaf h0;obtain ⟨ta,tc,rfl⟩:=zao h1;have HDO:=zhd hDo;have HNW:=zhd hNew;clear h0 h1 hDo hNew;have EW:=zhd (Ext.refl w);obtain ⟨B,HB0⟩:∃ B:Nat->Prop,Hid (∀ k,B k↔True):=⟨_,fun _=>Iff.rfl⟩;replace HV:=zhd (HV.o.widen (B:=B) fun k _ _=>(HB0.o k).2 trivial);go_enter Tryz.func4,Tryz.ntmps4
 go_wp2_with (with_reducible refine zT ?_)
 refine zaj rfl 25 (.tmp 2) rfl #[I sk,I sn] rfl (fun b5 w1_ M1=>?_);obtain ⟨B1,HB1⟩:=zEx B b5;have zcy:=zNn HB1;have zaP:=zmb M1;go_wp2_with fail
 refine (zfn HNW.o HDO.o w1_).to fun r wl el hr=>?_;subst hr;replace HV:=zrx (zme M1 (zmd HB1 M1 HV)) el;replace EW:=zhd ((zet EW M1).o.trans el);replace zaP:=zbx zaP el;clear el;go_wp2_with fail
 refine (zhI _ l wl HV.o.o).mono ?_;rintro e wr0 ⟨bR,rfl,hbR,e0⟩
 replace zaP:=zbx zaP e0;replace HV:=zrx HV e0;replace EW:=zhd (EW.o.trans e0);clear e0;cases bR
 case false =>
  go_wp2
  go_ret
  exact ⟨rfl,EW.o⟩
 have HRL:=zhd (hbR.1 rfl);clear hbR;go_wp2_with fail
 obtain ⟨P,HP⟩:∃ X:Nat->Prop,Hid (∀ k,X k↔(B1 k∨wr0.heap.size<=k)):=⟨_,fun _=>Iff.rfl⟩;replace HV:=zhd (HV.o.widen (B:=P) fun k _ h=>(HP.o k).2 (.inl h));replace zcy:Hid (¬ P b5):=zf6 HP zcy zaP;refine (ze4 _ _ l steps wr0 P HRL.o HV.o (HSTP.o.ext EW.o)).to fun r wp ep hr=>?_;obtain ⟨cs,es,rfl,hm,hes⟩:=zlk hr;obtain ⟨mk,hmk⟩:∃ mk,zd3 (zba l) (steps.take 400)=mk:=⟨_,rfl⟩;have hgd:=zkZ HRL.o steps;rw [hmk] at hm hgd;obtain ⟨c,u,a,p,box,plan,cl,rfl,hM⟩:=zcP hm;obtain ⟨ca,cc,ua,uc,aa,ac,pa,pc,xa,xc,la,lc,ka,kc,rfl,rfl,rfl,rfl,rfl,rfl,rfl⟩:=hM.slices;have GD:=zhd hgd;obtain ⟨esa,esc,rfl⟩:=zao hes.o;have H:=zhd (hM.widen (B:=P) fun k _ h=>(HP.o k).2 (by rcases h with h | h; exact (HP.o k).1 h; exact .inr h));clear hM hm hr hes hmk hgd;replace zaP:=zbx zaP ep;replace HV:=zrx HV ep;replace EW:=zhd (EW.o.trans ep);clear ep;go_wp2_with (with_reducible refine zT ?_)
 refine zae rfl 44 zM (by kernel_rfl) (fun b7 w2_ M2=>?_);have zhL:=zld zaP M2;obtain ⟨P1,HP1⟩:=zEx P b7;have zgj:=zNn HP1;have zng:=zOn M2 EW;have zcf:=zmb M2;go_wp2_with (with_reducible refine zT ?_)
 refine zac rfl 44 (.tmp 7) (.tmp 27) rfl b7 rfl [.slice ca mk.store.cells.length cc,.slice ua mk.store.undo.length uc,.slice aa mk.store.answers.length ac,.slice pa mk.store.past.length pc,I mk.server.gen,.slice xa mk.server.box.length xc,.bool mk.server.busy,I mk.server.now.client,I mk.server.now.token,I mk.server.now.call.kind,I mk.server.now.call.name,I mk.server.now.call.other,I mk.server.now.call.n,.slice la mk.server.plan.length lc,I mk.server.says.err,I mk.server.says.n,.bool mk.up,I mk.pause,I mk.falls,.slice ka mk.clients.length kc] (rfl) zcf rfl zaO rfl (fun w3_ M3=>?_);replace zcf:=zwb M3;go_wp2_with (with_reducible refine zT ?_)
 refine zah rfl 44 (.tmp 7) rfl b7 rfl zcf za3 zaO (fun vm H_vm=>?_);replace zaP:=zwl M3 (zmo M2 zaP) zhL;have s0:=zaa (i:=0) zaP.o rfl;have s1:=zaa (i:=1) zaP.o rfl;go_wp2_with fail
 clear s0 s1;rw [H_vm.o];clear H_vm;obtain ⟨x,xe,hdo⟩:∃ y z,doM mk sk sn=(y,z):=⟨_,_,rfl⟩;have HF:=zhd hdo
 have hgx:=zpg GD.o sk sn;have hgr:=znq mk sk sn;rw [hdo] at hgx hgr;have GX:=zhd hgx;have GR:=zhd hgr;clear hdo hgx hgr;obtain ⟨G,HG⟩:∃ X:Nat->Prop,Hid (∀ k,X k↔(P1 k∨w3_.heap.size<=k)):=⟨_,fun _=>Iff.rfl⟩;replace HV:=zwr M3 (zme M2 (zmd HP1 M2 HV)) zgj;replace HV:=zhd (HV.o.widen (B:=G) fun k _ h=>(HG.o k).2 (.inl h));replace H:=zHw M3 (zhd ((zMD HP1 M2 H).o.ext M2.o.ext)) zgj;replace H:=zhd (H.o.widen (B:=G) fun k _ h=>(HG.o k).2 (.inl h));replace zcy:=znw HP1 zcy;replace zcy:Hid (¬ G b5):=zf6 HG zcy zaP;replace zgj:Hid (¬ G b7):=zf6 HG zgj zcf;refine (HDO.o l mk 400 _ _ _ _ _ _ _ sk sn w3_ G H.o GD.o (by decide)).to fun r w7 e7 hr=>?_;rw [HF.o] at hr;obtain ⟨cs,rfl,hcs⟩:=zeh hr;obtain ⟨c0,u0,a0,p0,box0,plan0,cl0,rfl,hM⟩:=zcP hcs;obtain ⟨ca0,cc0,ua0,uc0,aa0,ac0,pa0,pc0,xa0,xc0,la0,lc0,ka0,kc0,rfl,rfl,rfl,rfl,rfl,rfl,rfl⟩:=hM.slices;have X0:=zhd (hM.widen (B:=G) fun k _ h=>(HG.o k).2 (by rcases h with h | h; exact (HG.o k).1 h; exact .inr h));clear hr hcs hM;replace EW:=zhd ((zwe M3 (zet EW M2) zng).o.trans e7);replace zaP:=zbx zaP e7;replace zcf:=zbx zcf e7;replace HV:=zrx HV e7;replace H:=zhd (H.o.ext e7);clear e7;go_wp2_with (with_reducible refine zT ?_)
 refine zae rfl 44 zM (by kernel_rfl) (fun b9 w4_ M4=>?_);have zlu:=zld zaP M4;have zhG:=zld zcf M4;obtain ⟨G1,HG1⟩:=zEx G b9;have zgy:=zNn HG1;have zkX:=zOn M4 EW;have zbg:=zmb M4;go_wp2_with (with_reducible refine zT ?_)
 refine zac rfl 44 (.tmp 9) (.tmp 33) rfl b9 rfl [.slice ca0 x.store.cells.length cc0,.slice ua0 x.store.undo.length uc0,.slice aa0 x.store.answers.length ac0,.slice pa0 x.store.past.length pc0,I x.server.gen,.slice xa0 x.server.box.length xc0,.bool x.server.busy,I x.server.now.client,I x.server.now.token,I x.server.now.call.kind,I x.server.now.call.name,I x.server.now.call.other,I x.server.now.call.n,.slice la0 x.server.plan.length lc0,I x.server.says.err,I x.server.says.n,.bool x.up,I x.pause,I x.falls,.slice ka0 x.clients.length kc0] (rfl) zbg rfl zaO rfl (fun w5_ M5=>?_);replace zbg:=zwb M5;have x3:=zaa (i:=3) zbg.o rfl;go_wp2_with fail
 clear x3;replace X0:=zHw M5 (zhd ((zMD HG1 M4 X0).o.ext M4.o.ext)) zgy;refine (zoK _ x.store.past w5_ (zdF.1 X0.o.past.o) (zm8 GX.o) (by have q:=GX.o.size.past; omega)).mono ?_;rintro e w8 ⟨r,rfl,e8,nv,yv,rfl,hx,hy⟩
 obtain ⟨na,nc,rfl⟩:=zao hx;have HNOW:=zhd hx;have HSAY:=zhd hy;obtain ⟨ya,yc,rfl⟩:=zao hy;clear hx hy;replace HV:=zrx (zwr M5 (zme M4 (zmd HG1 M4 HV)) zgy) e8;replace H:=zhd ((zHw M5 (zhd ((zMD HG1 M4 H).o.ext M4.o.ext)) zgy).o.ext e8);replace zaP:=zbx (zwl M5 (zmo M4 zaP) zlu) e8;replace zcf:=zbx (zwl M5 (zmo M4 zcf) zhG) e8;replace EW:=zhd ((zwe M5 (zet EW M4) zkX).o.trans e8);replace zbg:=zbx zbg e8;replace X0:=zhd (X0.o.ext e8);clear e8
 have hne:((x.clients.length:Int) != (l.length:Int))=false:=by
  have q:x.clients.length=l.length:=by
   obtain ⟨_,⟨ks,bz,h2⟩,_⟩:=GX.o;exact h2.nc
  simp [q]
 have HCLN:Hid (x.clients.length<=1000):=(GX.o.fit (by decide)).clients;have x19:=zaa (i:=19) zbg.o rfl;go_wp2_with (with_reducible refine zT ?_)
 unfold Hid;clear x19 hne;refine zdi rfl 31 (.tmp 49) rfl b9 0 rfl zbg [.slice ca0 x.store.cells.length cc0,.slice ua0 x.store.undo.length uc0,.slice aa0 x.store.answers.length ac0,.slice pa0 x.store.past.length pc0] rfl zcC zfr (fun v50 H_v50=>?_);go_wp2_with fail
 rw [H_v50.o];clear H_v50;refine (zg3 _ _ _ _ x.store w8 G1 (zc8 X0.o.cells X0.o.undo X0.o.answers X0.o.past) GX.o.cells).to fun r w9 e9 hr=>?_;obtain ⟨cs,rfl,hcs⟩:=zbZ hr;obtain ⟨c',u',a',p',rfl,r1,r2,r3,r4⟩:=zd2 hcs;obtain ⟨ca',cc',rfl⟩:=zao r1.o;have R1:=zhd r1.o;have hf:=zkL (.slice ca' (zbm x.store).cells.length cc') u' a' p' w9;clear hr hcs r1 r2 r3 r4;replace HNOW:=zhd (HNOW.o.ext e9);replace HSAY:=zhd (HSAY.o.ext e9);replace zaP:=zbx zaP e9;replace zcf:=zbx zcf e9;replace zbg:=zbx zbg e9;replace HV:=zrx HV e9;replace H:=zhd (H.o.ext e9);replace X0:=zhd (X0.o.ext e9);replace EW:=zhd (EW.o.trans e9);clear e9;go_wp2_with fail
 clear hf;refine (zoF _ (zbm x.store).cells w9 R1.o (zjs GX.o).1).mono ?_;rintro e wA ⟨r,rfl,eA,hof⟩
 obtain ⟨oa,oc,rfl⟩:=zao hof;have HOF:=zhd hof;clear hof R1;replace HNOW:=zhd (HNOW.o.ext eA);replace HSAY:=zhd (HSAY.o.ext eA);replace zaP:=zbx zaP eA;replace zcf:=zbx zcf eA;replace zbg:=zbx zbg eA;replace HV:=zrx HV eA;replace H:=zhd (H.o.ext eA);replace X0:=zhd (X0.o.ext eA);replace EW:=zhd (EW.o.trans eA);clear eA;go_wp2_with fail
 refine (ze8 (zjs GX.o).2 HOF.o HNOW.o).to fun r wB eB hr=>?_;subst hr;replace HSAY:=zhd (HSAY.o.ext eB);replace zaP:=zbx zaP eB;replace zcf:=zbx zcf eB;replace zbg:=zbx zbg eB;replace HV:=zrx HV eB;replace H:=zhd (H.o.ext eB);replace X0:=zhd (X0.o.ext eB);replace EW:=zhd (EW.o.trans eB);clear eB HOF HNOW;have x19:=zaa (i:=19) zbg.o rfl;go_wp2_with fail
 clear x19;obtain ⟨U,HU⟩:∃ X:Nat->Prop,Hid (∀ k,X k↔k < wB.heap.size):=⟨_,fun _=>Iff.rfl⟩;have X:=zhd (X0.o.widen (B:=U) fun k hk _=>(HU.o k).2 hk);have SAY:=zhd (Rd.widen (B:=U) (Rd.of (zmt _ _ _ _) HSAY.o) (fun k hk _=>(HU.o k).2 hk));replace SAY:Hid (Rd U (fun w=>zax w (.slice ya (allCl (x.store.past.map Rq.call)).2.length yc) (allCl (x.store.past.map Rq.call)).2) wB):=SAY;have E0:=EW;replace EW:=zhd (Ext.refl wB);clear X0 HSAY H;go_loopw [61] (fun i wr=>∃ k:Nat,k<=x.clients.length/\i=I k/\Ext wB wr) (fun i _=>x.clients.length - (intOf i).toNat)
 case atStart=>exact ⟨0,Nat.zero_le _,rfl,Ext.refl _⟩
 case round =>
  obtain ⟨k,hk,rfl,hex⟩:=hrel;have HX1:=zhd hex;replace zbg:=zbx zbg hex;replace X:=zhd (X.o.ext hex);replace SAY:=zrx SAY hex;replace EW:=zhd (EW.o.trans hex);clear hex;by_cases hlt:k < x.clients.length
  case neg =>
   go_wp2
   go_ret
   exact ⟨rfl,E0.o.trans EW.o⟩
  obtain ⟨css,hcs⟩:=zdg (by decide) X.o.clients;obtain ⟨c0,c,hc0,hc,-⟩:=zfB hcs.left.o hlt;obtain ⟨kcalls,kbox,kgot,rfl,q1,q2,q3⟩:=zd0 (zeS hcs.left hc0 hc)
  obtain ⟨kb,ko,hka⟩:∃ b o,ka0=some ⟨b,o,none⟩:=by
   obtain ⟨_,_,e1,_,_,_,hf⟩:=X.o.clients.o.form (by decide);simp only [Value.slice.injEq,true_and] at e1;obtain ⟨rfl,rfl⟩:=e1;obtain ⟨b,o,_,e2,_⟩:=hf _ _ hc;exact ⟨b,o,e2⟩
  subst hka;have HRG:=zhd (zea (by decide) hcs.right.o hcs.left.o.sizes hc0)
  have HGT:Hid (c.got=(zcK x.store.past k).take c.got.length/\c.got.length<=(zcK x.store.past k).length):=by
   obtain ⟨_,⟨ks,bz,h2⟩,_⟩:=GX.o;have q:=(h2.clients k c hc).got;refine ⟨q,?_⟩;have q2:=congrArg List.length q;rw [List.length_take] at q2;omega
  obtain ⟨ka1,kc1,rfl⟩:=zaf q1.o;obtain ⟨kx1,ky1,rfl⟩:=zaf q2.o;obtain ⟨kg1,kh1,rfl⟩:=zaf q3.o;have Q3:=zhd q3;have HLT:=zhd hlt;have hli:(k:Int) < (x.clients.length:Int):=by omega
  have hl0:(0:Int)<=(k:Int):=by omega
  obtain ⟨j0,hj,hy0,hy1,hy2⟩:=info_parts Tryz.infoReply;have HJ:=zhd (And.intro hj (And.intro hy0 (And.intro hy1 hy2)));clear hcs hc0 hc q1 q2 q3 hlt hk hj hy0 hy1 hy2;go_wp2_with (with_reducible refine zT ?_)
  unfold Hid;clear hli hl0;refine zfH rfl 63 (.tmp 64) rfl kb (ko+k * 6) rfl [.slice ka1 c.calls.length kc1,I c.at_,.bool c.sent,I c.gen,.slice kx1 c.box.length ky1,.slice kg1 c.got.length kh1] HRG.o zbG zbF (fun v65 H_v65=>?_);go_wp2_with (with_reducible refine zT ?_)
  clear HRG;have SU:Hid (∀ k,U k->k < wr.heap.size):=fun k h=>by have q:=(HU.o k).1 h; have q3:=HX1.o.size; omega
  have SB:Hid (wB.heap.size<=wr.heap.size):=HX1.o.size;refine zae rfl 63 zC (by kernel_rfl) (fun b14 w501_ M501=>?_);have zo2:=zld zbg M501;have zfZ:=zmb M501;have zie:Hid (¬ U b14):=fun q=>by have q1:=SU.o _ q; have q2:=M501.o.at_; omega
  have zoO:Hid (wB.heap.size<=b14):=by unfold Hid; have q:=M501.o.at_; have q3:=SB.o; omega
  go_wp2_with (with_reducible refine zT ?_)
  refine zac rfl 63 (.tmp 14) (.tmp 65) rfl b14 rfl _ (zcv H_v65) zfZ rfl zbF rfl (fun w502_ M502=>?_);replace zfZ:=zwb M502;clear SU SB;replace zbg:=zwl M502 (zmo M501 zbg) zo2;have x3:=zaa (i:=3) zbg.o rfl;go_wp2_with fail
  clear x3;replace EW:=zwe M502 (zet EW M501) zoO;have SUU:Hid (∀ k,U k->k < w502_.heap.size):=fun k h=>by have q:=(HU.o k).1 h; have q3:=EW.o.size; omega
  have E1:=EW;replace EW:=zhd (Ext.refl w502_);replace X:=zHw M502 (zhd (X.o.ext M501.o.ext)) zie;replace SAY:=zwr M502 (zme M501 SAY) zie;replace Q3:=zwr M502 (zme M501 Q3) zie;go_loopw [15,70] (fun sv i wr=>∃ j:Nat,j<=x.store.past.length/\i=I j/\wr.ownsRow w502_.heap.size 39 2 sv (zgs ((x.store.past.zip (allCl (x.store.past.map Rq.call)).2).take j) (k:Int)).length (zbI (zgs ((x.store.past.zip (allCl (x.store.past.map Rq.call)).2).take j) (k:Int)))/\Ext w502_ wr) (fun _ i _=>x.store.past.length - (intOf i).toNat)
  case atStart=>exact ⟨0,Nat.zero_le _,rfl,World.ownsRow_nil _ _ _ _,Ext.refl _⟩
  case round =>
   obtain ⟨j,hj,rfl,hos,hex⟩:=hrel;have HX2:=zhd hex;have OPS:=zhd hos;obtain ⟨sa,scap,rfl⟩:=zcZ hos;replace zbg:=zbx zbg hex;replace zfZ:=zbx zfZ hex;replace X:=zhd (X.o.ext hex);replace SAY:=zrx SAY hex;replace Q3:=zrx Q3 hex;replace EW:=zhd (EW.o.trans hex);clear hex hos;by_cases hlt:j < x.store.past.length
   case pos =>
    obtain ⟨rq,hrq⟩:∃ r,x.store.past[j]?=some r:=⟨x.store.past[j],List.getElem?_eq_getElem hlt⟩;have hql:(allCl (x.store.past.map Rq.call)).2.length=x.store.past.length:=by rw [ziC]; simp
    have hjq:j < (allCl (x.store.past.map Rq.call)).2.length:=by omega
    have hyq:(allCl (x.store.past.map Rq.call)).2[j]?=some (allCl (x.store.past.map Rq.call)).2[j]:=List.getElem?_eq_getElem hjq;have hzq:=zmI (k:Int) (p:=x.store.past.zip (allCl (x.store.past.map Rq.call)).2) (k:=j) (x:=(rq,(allCl (x.store.past.map Rq.call)).2[j])) (by rw [List.getElem?_zip_eq_some]; exact ⟨hrq,hyq⟩);have hlt2:=zog ((x.store.past.zip (allCl (x.store.past.map Rq.call)).2).take j) (k:Int);rw [List.length_take] at hlt2;obtain ⟨_,_,e1,_,_,hf⟩:=zhw X.o.past.o;simp only [Value.slice.injEq,true_and] at e1;obtain ⟨rfl,rfl⟩:=e1;obtain ⟨pb,po,rfl,d0,d1,d2,d3,d4,d5⟩:=hf j rq hrq;obtain ⟨_,_,e1,_,_,hf2⟩:=SAY.o.o.form;simp only [Value.slice.injEq,true_and] at e1;obtain ⟨rfl,rfl⟩:=e1;obtain ⟨yb,yo,rfl,_,_⟩:=hf2 j hjq;generalize hyy:(allCl (x.store.past.map Rq.call)).2[j]=yq at *;obtain ⟨rc,rt,⟨rk,ra,ro,rn⟩⟩:=rq;obtain ⟨ye,yn⟩:=yq;simp only [] at d0 d1 d2 d3 d4 d5 hzq;have HYQ:=zhd hyq;have HZQ:=zhd hzq;have HJQ:=zhd hjq;have HPB:Hid (x.store.past.length<=1000):=(GX.o.fit (by decide)).past;have hli:(j:Int) < (x.store.past.length:Int):=by omega
    have hl0:(0:Int)<=(j:Int):=by omega
    have HLJ:=zhd hlt;have HTL:=zhd hlt2;generalize hTL:zgs ((x.store.past.zip (allCl (x.store.past.map Rq.call)).2).take j) (k:Int)=TL at *;clear hf hf2 hrq hyq hzq hjq hlt hj hlt2 hyy hTL hql;go_wp2_with (with_reducible refine zT ?_)
    clear d0 d1 d2 d3 d4 d5 hli hl0;have SU:Hid (∀ k,U k->k < wr.heap.size):=fun k h=>by have q:=SUU.o k h; have q3:=HX2.o.size; omega
    have SB:Hid (w502_.heap.size<=wr.heap.size):=HX2.o.size;refine zae rfl 36 #[I 0,I 0,I 0,I 0,I 0,I 0] (by kernel_rfl) (fun b17 w701_ M701=>?_);have zqR:=zmb M701;have zrA:Hid (¬ U b17):=fun q=>by have q1:=SU.o _ q; have q2:=M701.o.at_; omega
    have zrB:Hid (w502_.heap.size<=b17):=by unfold Hid; have q:=M701.o.at_; have q3:=SB.o; omega
    go_wp2_with (with_reducible refine zT ?_)
    refine zac rfl 36 (.tmp 17) (.tmp 74) rfl b17 rfl [I rc,I rt,I rk,I ra,I ro,I rn] (rfl) zqR rfl zpf rfl (fun w702_ M702=>?_);replace OPS:=zhd (zak OPS.o M701.o.ext);replace OPS:=zhd (OPS.o.kept M702.o.grown (.inr (za5 OPS.o zqR.o (by decide))));replace zqR:=zwb M702;clear SU SB;replace SAY:=zwr M702 (zme M701 SAY) zrA;obtain ⟨_,_,e1,_,_,hf2⟩:=SAY.o.o.form;simp only [Value.slice.injEq,true_and] at e1;obtain ⟨rfl,rfl⟩:=e1;obtain ⟨yb',yo',e2,f0,f1⟩:=hf2 j HJQ.o;simp only [Option.some.injEq,Addr.mk.injEq,and_true] at e2;obtain ⟨rfl,rfl⟩:=e2;rw [show (allCl (x.store.past.map Rq.call)).2.getD j (0,0)=(ye,yn) by rw [List.getD_eq_getElem?_getD,HYQ.o]; rfl] at f0 f1;simp only [] at f0 f1;have hjl:(j:Int) < ((allCl (x.store.past.map Rq.call)).2.length:Int):=by have q:=HJQ.o; omega
    have hl0:(0:Int)<=(j:Int):=by omega
    clear hf2;have g0:=zaa (i:=0) zqR.o rfl;replace EW:=zwe M702 (zet EW M701) zrB;by_cases hc:rc=(k:Int)
    case neg =>
     have hkb:j < 2000:=by have q:=HLJ.o; have q2:=HPB.o; omega
     go_wp2
     go_roundw
     case rel =>
      refine ⟨j+1,HLJ.o,by go_num,?_,EW.o⟩;rw [HZQ.o,if_neg hc];exact OPS.o
     case measure=>have:=HLJ.o; simp [intOf]; omega
    subst hc;go_wp2_with (at_builtin; refine zbw ?_)
    unfold Hid;obtain ⟨hj,hy0,hy1,hy2⟩:=HJ.o;refine zaz _ rfl (.tmp 79) (.tmp 84) 55 rfl w502_.heap.size 39 j0 (.agg #[.int .i64 0,.int .i64 0]) 2 16 zlr hj hy0 hy1 hy2 rfl (by decide) _ TL.length (zbI TL) rfl (OPS.o.alloc _) _ rfl 1 [I ye,I yn] (Row.of_owns (zeD (znP w702_ _) (Nat.le_refl _) rfl (by decide))) (fun u hu=>by simp at hu; rcases hu with rfl | rfl <;> rfl) (by have q:=HTL.o; have q2:=HLJ.o; have q3:=HPB.o; omega) (by decide) (by have q:=EW.o.size; simp; omega) ?_;intro o2 w4 ho4 hg4;have he4:Ext w502_ w4:=(EW.o.alloc _).grown hg4 (fun j hj=>(OPS.o.lt j hj).1);clear hg4 f0 f1 g0 hjl hl0;have hkb:j < 2000:=by have q:=HLJ.o; have q2:=HPB.o; omega
    go_wp2
    go_roundw
    case rel =>
     refine ⟨j+1,HLJ.o,by go_num,?_,he4⟩;rw [HZQ.o,if_pos trivial,List.length_append,zeg];exact ho4
    case measure=>have:=HLJ.o; simp [intOf]; omega
   obtain rfl:j=x.store.past.length:=by omega
   have htk:zgs ((x.store.past.zip (allCl (x.store.past.map Rq.call)).2).take x.store.past.length) (k:Int)=zcK x.store.past k:=by rw [List.take_of_length_le (by rw [List.length_zip]; omega)]; rfl
   generalize hT:zgs ((x.store.past.zip (allCl (x.store.past.map Rq.call)).2).take x.store.past.length) (k:Int)=TL at *;have HTE:=zhd htk;have hsr:=zfa.2 (Row.of_owns OPS.o);obtain ⟨_,_,e1,hs1,hs2,_⟩:=zgz hsr;simp only [Value.slice.injEq,true_and] at e1;obtain ⟨rfl,rfl⟩:=e1;have HSR:=zhd hsr;have hcl:c.got.length<=TL.length:=by rw [htk]; exact HGT.o.2
   have HCL2:=zhd hcl;have hcd:decide ((TL.length:Int) < (c.got.length:Int))=false:=decide_eq_false (by omega);have hcd2:decide (TL.length < c.got.length)=false:=decide_eq_false (by omega);have hcap:(c.got.length:Int)<=(scap:Int):=by omega
   have hcg0:(0:Int)<=(c.got.length:Int):=by omega
   have hcn:c.got.length<=scap:=by omega
   unfold maxLen at hs2;clear hT htk hsr hlt hj hcl;have e5:=zaa (i:=5) zfZ.o rfl;go_wp2_with fail
   refine zbj [none,none,none,none,none,none,none,none,none,none,none,none,none,none,some (.inl (.bool true)),none,none] (by kernel_rfl) (by kernel_rfl) ?_ ?_
   ·exact ⟨trivial,trivial,trivial,trivial,trivial,trivial,trivial,trivial,trivial,trivial,trivial,trivial,trivial,trivial,trivial,trivial,trivial,trivial⟩
   (refine zap (fun K hK=>?_); go_simp; first | refine hK _ ?_ | refine ⟨(fun h=>by cases h),hK _ ?_⟩; clear hK K)
   refine zav (.slice kg1 c.got.length kh1) rfl (fun w' hw'=>by have:=hw'.cell e5; go_simp) ?_;refine zai fun K h=>?_; go_simp; refine h _ ?_; clear h K;iterate 6 (refine zap (fun K hK=>?_); go_simp; first | refine hK _ ?_ | refine ⟨(fun h=>by cases h),hK _ ?_⟩; clear hK K)
   refine zav (.slice kg1 c.got.length kh1) rfl (fun w' hw'=>by have:=hw'.cell e5; go_simp) ?_;refine zai fun K h=>?_; go_simp; refine h _ ?_; clear h K;iterate 2 (refine zap (fun K hK=>?_); go_simp; first | refine hK _ ?_ | refine ⟨(fun h=>by cases h),hK _ ?_⟩; clear hK K)
   refine zav (.slice kg1 c.got.length kh1) rfl (fun w' hw'=>by have:=hw'.cell e5; go_simp) ?_;refine zai fun K h=>?_; go_simp; refine h _ ?_; clear h K;iterate 2 (refine zap (fun K hK=>?_); go_simp; first | refine hK _ ?_ | refine ⟨(fun h=>by cases h),hK _ ?_⟩; clear hK K)
   refine zdb _ rfl (fun w' hw' hk=>?_) ?_
   ·have ht:=zar.take (by decide) (HSR.o.ext zeJ hw') c.got.length HCL2.o;rw [HTE.o,<- HGT.o.1] at ht;have hg:=zcs (zoM _ _ c.got w' (Q3.o.ext hw').o ht);clear hk;unfold zaL;go_simp
    exact ⟨Ext.refl _,hg⟩
   refine zai fun K h=>?_; go_simp; refine h _ ?_; clear h K;iterate 2 (refine zap (fun K hK=>?_); go_simp; first | refine hK _ ?_ | refine ⟨(fun h=>by cases h),hK _ ?_⟩; clear hK K)
   refine zaM ?_;intro w6 e6 _;clear e5 hcd hcd2 hcap hcg0 hcn hs1 hs2;replace zbg:=zbx zbg e6;replace zfZ:=zbx zfZ e6;replace X:=zhd (X.o.ext e6);replace SAY:=zrx SAY e6;replace Q3:=zrx Q3 e6;replace EW:=zhd (EW.o.trans e6);clear e6;have hkb:k < 2000:=by have q:=HLT.o; have q2:=HCLN.o; omega
   go_wp2
   go_roundw
   case rel=>exact ⟨k+1,HLT.o,by go_num,E1.o.trans EW.o⟩
   case measure=>have:=HLT.o; simp [intOf]; omega

end Go.Proofs.YtdmipnnfoolelaeGreat
