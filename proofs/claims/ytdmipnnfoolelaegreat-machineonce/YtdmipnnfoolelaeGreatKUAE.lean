/- Texts of the proof, merged: J6. -/
import Derived.Test.YtdmipnnfoolelaeGreatKUA
import Derived.Test.YtdmipnnfoolelaeGreatKUAC
set_option maxHeartbeats 8000000
set_option maxRecDepth 100000

namespace Go.Proofs.YtdmipnnfoolelaeGreat
open Go.RowKit Go.Mk

def atL (n:Nat) (p:List Rq):List Int:=(List.range n).map fun i=>((zbK p i).length:Int)
theorem ziF (n:Nat) (p:List Rq):(atL n p).length=n:=by simp [atL]
theorem zno {n i:Nat} (p:List Rq) (h:i < n):(atL n p).getD i 0=((zbK p i).length:Int):=by
 simp [atL,List.getD_eq_getElem?_getD,h]
theorem zpy {n i:Nat} {p:List Rq} {r:Rq} (hr:r.client=(i:Int)):atL n (p++[r])=(atL n p).set i ((zbK p i).length+1):=by
 apply List.ext_getElem?
 intro j
 unfold atL
 rw [List.getElem?_map]
 by_cases hj:j < n
 ·rw [List.getElem?_range hj]
  by_cases e:i=j
  ·subst e
   rw [List.getElem?_set_self (by simpa using hj),Option.map_some,mine_snoc,if_pos hr]
   simp
  ·rw [List.getElem?_set_ne e,List.getElem?_map,List.getElem?_range hj,Option.map_some,Option.map_some,mine_snoc,if_neg (by rw [hr]; omega)]
 ·rw [List.getElem?_eq_none (by simpa using hj),List.getElem?_eq_none (by simpa using hj)]
  rfl
theorem zn5 {n:Nat} (h:n<=3):(madeCells (Value.int .i64 0).cells (n * 1)).toList=(atL n []).map I:=by
 have hc:n=0∨n=1∨n=2∨n=3:=by omega
 rcases hc with rfl | rfl | rfl | rfl
 ·have e:(madeCells (Value.int .i64 0).cells (0 * 1)).toList=List.map I ([]:List Int):=by kernel_rfl
  exact e
 ·have e:(madeCells (Value.int .i64 0).cells (1 * 1)).toList=List.map I ([0]:List Int):=by kernel_rfl
  exact e
 ·have e:(madeCells (Value.int .i64 0).cells (2 * 1)).toList=List.map I ([0,0]:List Int):=by kernel_rfl
  exact e
 ·have e:(madeCells (Value.int .i64 0).cells (3 * 1)).toList=List.map I ([0,0,0]:List Int):=by kernel_rfl
  exact e

theorem ziJ (hNew:zmh) (hDo:zpe) (v0 v1:Value) (l:List (List Cl)) (steps:List (Int×Int)) (sk sn:Int) (w:World) (h0:zar 1 zdL w v0 l) (h1:zax w v1 steps) :
  zaU Tryz.prog 5 #[v0,v1,.agg #[I sk,I sn]] w fun r _=>r=.bool true:=by
 refine zcs ?_;have HV:=zhd (Rd.widen (B:=fun _=>True) (Rd.of (zd9 zhE _ _) h0) (fun _ _ _=>trivial));replace HV:Hid (Rd (fun _=>True) (fun w=>zar 1 zdL w v0 l) w):=HV;have HSTP:=zhd h1;obtain ⟨za,zc,rfl⟩:=zaf h0;obtain ⟨ta,tc,rfl⟩:=zao h1;have HDO:=zhd hDo;have HNW:=zhd hNew;clear h0 h1 hDo hNew;have EW:=zhd (Ext.refl w);obtain ⟨B,HB0⟩:∃ B:Nat->Prop,Hid (∀ k,B k↔True):=⟨_,fun _=>Iff.rfl⟩;replace HV:=zhd (HV.o.widen (B:=B) fun k _ _=>(HB0.o k).2 trivial);go_enter Tryz.func5,Tryz.ntmps5
 go_wp2_with (with_reducible refine zT ?_)
 refine zaj rfl 25 (.tmp 2) rfl #[I sk,I sn] rfl (fun b5 w1_ M1=>?_);obtain ⟨B1,HB1⟩:=zEx B b5;have zcy:=zNn HB1;have zaP:=zmb M1;go_wp2_with fail
 refine (zfn HNW.o HDO.o w1_).to fun r wl el hr=>?_;subst hr;replace HV:=zrx (zme M1 (zmd HB1 M1 HV)) el;replace EW:=zhd ((zet EW M1).o.trans el);replace zaP:=zbx zaP el;clear el;go_wp2_with fail
 refine (zhI _ l wl HV.o.o).mono ?_;rintro e wr0 ⟨bR,rfl,hbR,e0⟩
 replace zaP:=zbx zaP e0;replace HV:=zrx HV e0;replace EW:=zhd (EW.o.trans e0);clear e0;cases bR
 case false =>
  go_wp2
  go_ret
  exact ⟨rfl,EW.o⟩
 have HRL:=zhd (hbR.1 rfl);clear hbR;go_wp2_with fail
 obtain ⟨P,HP⟩:∃ X:Nat->Prop,Hid (∀ k,X k↔(B1 k∨wr0.heap.size<=k)):=⟨_,fun _=>Iff.rfl⟩;replace HV:=zhd (HV.o.widen (B:=P) fun k _ h=>(HP.o k).2 (.inl h));replace zcy:Hid (¬ P b5):=zf6 HP zcy zaP;refine (ze4 _ _ l steps wr0 P HRL.o HV.o (HSTP.o.ext EW.o)).to fun r wp ep hr=>?_;obtain ⟨cs,es,rfl,hm,hes⟩:=zlk hr;obtain ⟨mk,hmk⟩:∃ mk,zd3 (zba l) (steps.take 400)=mk:=⟨_,rfl⟩;have hgd:=zkZ HRL.o steps;rw [hmk] at hm hgd;obtain ⟨c,u,a,p,box,plan,cl,rfl,hM⟩:=zcP hm;obtain ⟨ca,cc,ua,uc,aa,ac,pa,pc,xa,xc,la,lc,ka,kc,rfl,rfl,rfl,rfl,rfl,rfl,rfl⟩:=hM.slices;have GD:=zhd hgd;obtain ⟨esa,esc,rfl⟩:=zao hes.o;have H:=zhd (hM.widen (B:=P) fun k _ h=>(HP.o k).2 (by rcases h with h | h; exact (HP.o k).1 h; exact .inr h));clear hM hm hr hes hmk hgd;replace zaP:=zbx zaP ep;replace HV:=zrx HV ep;replace EW:=zhd (EW.o.trans ep);clear ep;go_wp2_with (with_reducible refine zT ?_)
 refine zae rfl 44 zM (by kernel_rfl) (fun b7 w2_ M2=>?_);have zhL:=zld zaP M2;obtain ⟨P1,HP1⟩:=zEx P b7;have zgj:=zNn HP1;have zng:=zOn M2 EW;have zcf:=zmb M2;go_wp2_with (with_reducible refine zT ?_)
 refine zac rfl 44 (.tmp 7) (.tmp 26) rfl b7 rfl [.slice ca mk.store.cells.length cc,.slice ua mk.store.undo.length uc,.slice aa mk.store.answers.length ac,.slice pa mk.store.past.length pc,I mk.server.gen,.slice xa mk.server.box.length xc,.bool mk.server.busy,I mk.server.now.client,I mk.server.now.token,I mk.server.now.call.kind,I mk.server.now.call.name,I mk.server.now.call.other,I mk.server.now.call.n,.slice la mk.server.plan.length lc,I mk.server.says.err,I mk.server.says.n,.bool mk.up,I mk.pause,I mk.falls,.slice ka mk.clients.length kc] (rfl) zcf rfl zaO rfl (fun w3_ M3=>?_);replace zcf:=zwb M3;go_wp2_with (with_reducible refine zT ?_)
 refine zah rfl 44 (.tmp 7) rfl b7 rfl zcf za3 zaO (fun vm H_vm=>?_);replace zaP:=zwl M3 (zmo M2 zaP) zhL;have s0:=zaa (i:=0) zaP.o rfl;have s1:=zaa (i:=1) zaP.o rfl;go_wp2_with fail
 clear s0 s1;rw [H_vm.o];clear H_vm;obtain ⟨x,xe,hdo⟩:∃ y z,doM mk sk sn=(y,z):=⟨_,_,rfl⟩;have HF:=zhd hdo
 have hgx:=zpg GD.o sk sn;have hgr:=znq mk sk sn;rw [hdo] at hgx hgr;have GX:=zhd hgx;have GR:=zhd hgr;clear hdo hgx hgr;obtain ⟨G,HG⟩:∃ X:Nat->Prop,Hid (∀ k,X k↔(P1 k∨w3_.heap.size<=k)):=⟨_,fun _=>Iff.rfl⟩;replace HV:=zwr M3 (zme M2 (zmd HP1 M2 HV)) zgj;replace HV:=zhd (HV.o.widen (B:=G) fun k _ h=>(HG.o k).2 (.inl h));replace H:=zHw M3 (zhd ((zMD HP1 M2 H).o.ext M2.o.ext)) zgj;replace H:=zhd (H.o.widen (B:=G) fun k _ h=>(HG.o k).2 (.inl h));replace zcy:=znw HP1 zcy;replace zcy:Hid (¬ G b5):=zf6 HG zcy zaP;replace zgj:Hid (¬ G b7):=zf6 HG zgj zcf;refine (HDO.o l mk 400 _ _ _ _ _ _ _ sk sn w3_ G H.o GD.o (by decide)).to fun r w7 e7 hr=>?_;rw [HF.o] at hr;obtain ⟨cs,rfl,hcs⟩:=zeh hr;obtain ⟨c0,u0,a0,p0,box0,plan0,cl0,rfl,hM⟩:=zcP hcs;obtain ⟨ca0,cc0,ua0,uc0,aa0,ac0,pa0,pc0,xa0,xc0,la0,lc0,ka0,kc0,rfl,rfl,rfl,rfl,rfl,rfl,rfl⟩:=hM.slices;have X0:=zhd (hM.widen (B:=G) fun k _ h=>(HG.o k).2 (by rcases h with h | h; exact (HG.o k).1 h; exact .inr h));clear hr hcs hM;replace EW:=zhd ((zwe M3 (zet EW M2) zng).o.trans e7);replace zaP:=zbx zaP e7;replace zcf:=zbx zcf e7;replace HV:=zrx HV e7;replace H:=zhd (H.o.ext e7);clear e7;go_wp2_with (with_reducible refine zT ?_)
 refine zae rfl 44 zM (by kernel_rfl) (fun b9 w4_ M4=>?_);have zhG:=zld zcf M4;obtain ⟨G1,HG1⟩:=zEx G b9;have zgy:=zNn HG1;have zkX:=zOn M4 EW;have zbg:=zmb M4;go_wp2_with (with_reducible refine zT ?_)
 refine zac rfl 44 (.tmp 9) (.tmp 32) rfl b9 rfl [.slice ca0 x.store.cells.length cc0,.slice ua0 x.store.undo.length uc0,.slice aa0 x.store.answers.length ac0,.slice pa0 x.store.past.length pc0,I x.server.gen,.slice xa0 x.server.box.length xc0,.bool x.server.busy,I x.server.now.client,I x.server.now.token,I x.server.now.call.kind,I x.server.now.call.name,I x.server.now.call.other,I x.server.now.call.n,.slice la0 x.server.plan.length lc0,I x.server.says.err,I x.server.says.n,.bool x.up,I x.pause,I x.falls,.slice ka0 x.clients.length kc0] (rfl) zbg rfl zaO rfl (fun w5_ M5=>?_);replace zbg:=zwb M5
 have hne:((x.clients.length:Int) != (l.length:Int))=false:=by
  have q:x.clients.length=l.length:=by
   obtain ⟨_,⟨ks,bz,h2⟩,_⟩:=GX.o;exact h2.nc
  simp [q]
 have hpd:x.store.past.length=mk.store.past.length∨x.store.past.length=mk.store.past.length+1:=by
  have q:=zqt mk sk sn;rw [HF.o] at q;rcases q with q | ⟨r,q⟩
  ·left; rw [q]
  ·right; rw [q]; simp
 have HPB:Hid (x.store.past.length<=1000):=(GX.o.fit (by decide)).past;have hpb:=HPB.o;have hp1:decide ((x.store.past.length:Int) < (mk.store.past.length:Int))=false:=decide_eq_false (by omega);have hp1b:decide (x.store.past.length < mk.store.past.length)=false:=decide_eq_false (by omega);have hwr:IntKind.i64.wrap ((mk.store.past.length:Int)+1)=(mk.store.past.length:Int)+1:=by rw [IntKind.wrap_i64]; omega
 have hp2:decide ((mk.store.past.length:Int)+1 < (x.store.past.length:Int))=false:=decide_eq_false (by omega)
 have HCLN:Hid (x.clients.length=l.length):=by
  obtain ⟨_,⟨ks,bz,h2⟩,_⟩:=GX.o;exact h2.nc
 obtain ⟨i0,hi,hz0,hz1,hz2⟩:=info_parts Tryz.infoInt;clear hpd hpb;have x19:=zaa (i:=19) zbg.o rfl;have x3:=zaa (i:=3) zbg.o rfl;replace zcf:=zwl M5 (zmo M4 zcf) zhG;have m3:=zaa (i:=3) zcf.o rfl;have HL3:Hid (l.length<=3):=HRL.o.1;go_wp2_with (at_make; refine zbw ?_)
 unfold Hid;refine wpList_make_full _ rfl _ _ 26 rfl w5_.heap.size 3 i0 (.int .i64 0) 1 zmA hi hz0 hz1 .i64 .i64 _ _ l.length rfl rfl rfl rfl (by rw [hz2]; have q:=HL3.o; omega) (by have q:=HL3.o; unfold maxLen; omega) (Nat.le_refl _) ?_;intro wm hown hgrow;rw [zn5 HL3.o] at hown;have em:Ext w5_ wm:=(Ext.refl _).grown hgrow (fun k hk=>by cases hk);obtain ⟨g,hg⟩:∃ g,w5_.heap.size=g:=⟨_,rfl⟩;rw [hg] at hown;have HGW:=zhd hg;clear hgrow x19 x3 m3 hne hp1 hp1b hp2 hwr hi hz0 hz1 hz2;obtain ⟨U,HU⟩:∃ X:Nat->Prop,Hid (∀ k,X k↔k < g):=⟨_,fun _=>Iff.rfl⟩;replace X0:=zHw M5 (zhd ((zMD HG1 M4 X0).o.ext M4.o.ext)) zgy;have X:=zhd (X0.o.widen (B:=U) fun k hk _=>(HU.o k).2 (by omega));replace HV:=zwr M5 (zme M4 (zmd HG1 M4 HV)) zgy;replace HV:=zhd (HV.o.widen (B:=U) fun k hk _=>(HU.o k).2 (by omega));replace EW:=zwe M5 (zet EW M4) zkX;have OG:Hid (w.heap.size<=g):=by unfold Hid; have q:=EW.o.size; omega
 clear X0 H;have E0:=EW;have OA:=zhd hown;have x3:=em.cell (zaa (i:=3) zbg.o rfl);rw [hg];have GS:=zhd hg;clear hown hg;go_wp2_with fail
 clear x3;go_loopw [70] (fun i wr=>∃ j:Nat,j<=x.store.past.length/\i=I j/\wr.ownsRow g 3 1 (.slice (some ⟨g,0,none⟩) l.length l.length) l.length ((atL l.length (x.store.past.take j)).map I)/\Ext w5_ wr) (fun i _=>x.store.past.length - (intOf i).toNat)
 case atStart=>exact ⟨0,Nat.zero_le _,rfl,OA.o,em⟩
 case round =>
  obtain ⟨j,hj,rfl,hoa,hex⟩:=hrel;clear OA em;replace EW:=zhd (Ext.refl w5_);have OPA:=zhd hoa;replace zbg:=zbx zbg hex;replace X:=zhd (X.o.ext hex);replace HV:=zrx HV hex;replace EW:=zhd (EW.o.trans hex);clear hex hoa;by_cases hlt:j < x.store.past.length
  case pos =>
   obtain ⟨rq,hrq⟩:∃ r,x.store.past[j]?=some r:=⟨x.store.past[j],List.getElem?_eq_getElem hlt⟩
   obtain ⟨i,hi,hre,htl⟩:∃ i:Nat,i < l.length/\rq=zbM l i (zbK (x.store.past.take j) i).length/\(zbK (x.store.past.take j) i).length < (l.getD i []).length:=by
    obtain ⟨_,⟨ks,bz,h2⟩,_⟩:=GX.o;exact zqi h2 hrq
   obtain ⟨ci,hci⟩:∃ c,l[i]?=some c:=⟨l[i],List.getElem?_eq_getElem hi⟩;have hgi:l.getD i []=ci:=by rw [List.getD_eq_getElem?_getD,hci]; rfl
   rw [hgi] at htl;have hci8:ci.length<=8:=(HRL.o.2 ci (List.mem_of_getElem? hci)).1;generalize htt:(zbK (x.store.past.take j) i).length=t at *;obtain ⟨y,hy⟩:∃ y,ci[t]?=some y:=⟨ci[t],List.getElem?_eq_getElem htl⟩
   have hre2:rq=⟨(i:Int),(t:Int),y⟩:=by
    rw [hre];unfold zbM;rw [hgi,List.getD_eq_getElem?_getD,hy];rfl
   subst hre2;obtain ⟨ck,ca2,co,cn⟩:=y;obtain ⟨_,_,e1,_,_,hf⟩:=zhw X.o.past.o;simp only [Value.slice.injEq,true_and] at e1;obtain ⟨rfl,rfl⟩:=e1;obtain ⟨pb,po,rfl,d0,d1,d2,d3,d4,d5⟩:=hf j _ hrq;simp only [] at d0 d1 d2 d3 d4 d5;have HRQ:=zhd hrq;have HCI:=zhd hci;have HY:=zhd hy;have HI:=zhd hi;have HTT:=zhd htt;have HTL:=zhd htl;have HC8:=zhd hci8;have HLJ:=zhd hlt;have hli:(j:Int) < (x.store.past.length:Int):=by omega
   have hl0:(0:Int)<=(j:Int):=by omega
   clear hf hrq hci hy hi htt htl hci8 hre hgi hlt hj;go_wp2_with (with_reducible refine zT ?_)
   clear d0 d1 d2 d3 d4 d5 hli hl0;have SB:Hid (g < wr.heap.size):=(OPA.o.lt g rfl).2;refine zae rfl 36 #[I 0,I 0,I 0,I 0,I 0,I 0] (by kernel_rfl) (fun b13 w501_ M501=>?_);have zoZ:=zld zbg M501;have zdm:=zmb M501;have zf4:Hid (¬ U b13):=fun q=>by have q1:=(HU.o _).1 q; have q2:=M501.o.at_; have q3:=SB.o; omega
   have zlw:Hid (w5_.heap.size<=b13):=by unfold Hid; have q:=M501.o.at_; have q3:=SB.o; have q4:=GS.o; omega
   go_wp2_with (with_reducible refine zT ?_)
   refine zac rfl 36 (.tmp 13) (.tmp 73) rfl b13 rfl [I (i:Int),I (t:Int),I ck,I ca2,I co,I cn] (rfl) zdm rfl zpf rfl (fun w502_ M502=>?_);replace OPA:=zhd (zak OPA.o M501.o.ext);replace OPA:=zhd (OPA.o.kept M502.o.grown (.inr (za5 OPA.o zdm.o (by decide))));replace zdm:=zwb M502;have k0:=zaa (i:=0) zdm.o rfl;have k1:=zaa (i:=1) zdm.o rfl;obtain ⟨_,_,e1,_,_,hat⟩:=(show zbB w502_ (.slice (some ⟨g,0,none⟩) l.length l.length) (atL l.length (x.store.past.take j)) from by have q:=Row.of_owns OPA.o; unfold zbB; rw [ziF]; exact q).form;obtain ⟨gb2,go2,e2,g0⟩:=hat i (by rw [ziF]; exact HI.o);simp only [Value.slice.injEq] at e1;obtain ⟨rfl,-,rfl⟩:=e1;simp only [Option.some.injEq,Addr.mk.injEq,and_true] at e2;obtain ⟨rfl,rfl⟩:=e2;rw [zno _ HI.o,HTT.o,Nat.zero_add] at g0;replace HV:=zwr M502 (zme M501 HV) zf4;obtain ⟨_,_,e1,_,_,cvs,_,hcv⟩:=zm5 HV.o.o;simp only [Value.slice.injEq,true_and] at e1;obtain ⟨rfl,rfl⟩:=e1;obtain ⟨vb,vo,cv,rfl,-,lc0,hrow⟩:=hcv i ci HCI.o;obtain ⟨la2,lcap2,rfl,hl1,hl2,hlf⟩:=zgr hrow;obtain ⟨yb,yo,rfl,y0,y1,y2,y3⟩:=hlf t _ HY.o;simp only [] at y0 y1 y2 y3;have hst:Tryz.prog.stoodInHeld 34=false:=by kernel_rfl
   have hgd:Tryz.prog.eqGuardType Tryz.prog.depth 34=false:=by kernel_rfl
   have hi1:(i:Int) < (l.length:Int):=by have q:=HI.o; omega
   have hi0:(0:Int)<=(i:Int):=by omega
   have ht1:(t:Int) < (ci.length:Int):=by have q:=HTL.o; omega
   have ht0:(0:Int)<=(t:Int):=by omega
   have hb1:decide ((i:Int) < 0)=false:=decide_eq_false (by omega);have hb2:decide ((l.length:Int)<=(i:Int))=false:=decide_eq_false (by omega);have hb3:decide ((ci.length:Int)<=(t:Int))=false:=decide_eq_false (by omega);have hb4:decide (l.length<=i)=false:=decide_eq_false (by have q:=HI.o; omega);have hb5:decide (ci.length<=t)=false:=decide_eq_false (by have q:=HTL.o; omega);clear hat hcv hlf hrow;go_wp2_with fail
   replace zbg:=zwl M502 (zmo M501 zbg) zoZ;replace X:=zHw M502 (zhd (X.o.ext M501.o.ext)) zf4;replace EW:=zwe M502 (zet EW M501) zlw;refine zbj [none,none,none,none,none,none,none,none,none,none,none,none,none,none,none,none,none,none,none,none,none,none,none,none,none,none,none,none,none,none,none,none,none,none,none,none,none,none,none,none] (by kernel_rfl) (by kernel_rfl) ?_ ?_
   ·exact ⟨trivial,trivial,trivial,trivial,trivial,trivial,trivial,trivial,trivial,trivial,trivial,trivial,trivial,trivial,trivial,trivial,trivial,trivial,trivial,trivial,trivial,trivial,trivial,trivial,trivial,trivial,trivial,trivial,trivial,trivial,trivial,trivial,trivial,trivial,trivial,trivial,trivial,trivial,trivial,trivial,trivial⟩
   iterate 10 (refine zap (fun K hK=>?_); go_simp; first | refine hK _ ?_ | refine ⟨(fun h=>by cases h),hK _ ?_⟩; clear hK K)
   refine zav (I (t:Int)) rfl (fun w' hw'=>by have:=hw'.cell k1; go_simp) ?_;refine zai fun K h=>?_; go_simp; refine h _ ?_; clear h K;iterate 3 (refine zap (fun K hK=>?_); go_simp; first | refine hK _ ?_ | refine ⟨(fun h=>by cases h),hK _ ?_⟩; clear hK K)
   refine zav (I (t:Int)) rfl (fun w' hw'=>by have:=hw'.cell g0; go_simp) ?_;refine zai fun K h=>?_; go_simp; refine h _ ?_; clear h K;iterate 4 (refine zap (fun K hK=>?_); go_simp; first | refine hK _ ?_ | refine ⟨(fun h=>by cases h),hK _ ?_⟩; clear hK K)
   refine zav (I (t:Int)) rfl (fun w' hw'=>by have:=hw'.cell k1; go_simp) ?_;refine zai fun K h=>?_; go_simp; refine h _ ?_; clear h K;iterate 3 (refine zap (fun K hK=>?_); go_simp; first | refine hK _ ?_ | refine ⟨(fun h=>by cases h),hK _ ?_⟩; clear hK K)
   refine zav (.slice (some ⟨yb,yo,none⟩) ci.length lcap2) rfl (fun w' hw'=>by have:=hw'.cell lc0; go_simp) ?_;refine zai fun K h=>?_; go_simp; refine h _ ?_; clear h K;iterate 5 (refine zap (fun K hK=>?_); go_simp; first | refine hK _ ?_ | refine ⟨(fun h=>by cases h),hK _ ?_⟩; clear hK K)
   refine zav (.agg #[I ck,I ca2,I co,I cn]) rfl (fun w' hw'=>zbQ 34 (.tmp 104) rfl b13 2 rfl (zbS zdm.o hw') [I ck,I ca2,I co,I cn] rfl zqA (by kernel_rfl)) ?_;refine zai fun K h=>?_; go_simp; refine h _ ?_; clear h K;iterate 3 (refine zap (fun K hK=>?_); go_simp; first | refine hK _ ?_ | refine ⟨(fun h=>by cases h),hK _ ?_⟩; clear hK K)
   refine zav (.slice (some ⟨yb,yo,none⟩) ci.length lcap2) rfl (fun w' hw'=>by have:=hw'.cell lc0; go_simp) ?_;refine zai fun K h=>?_; go_simp; refine h _ ?_; clear h K;(refine zap (fun K hK=>?_); go_simp; first | refine hK _ ?_ | refine ⟨(fun h=>by cases h),hK _ ?_⟩; clear hK K)
   refine zav (I (t:Int)) rfl (fun w' hw'=>by have:=hw'.cell k1; go_simp) ?_;refine zai fun K h=>?_; go_simp; refine h _ ?_; clear h K;(refine zap (fun K hK=>?_); go_simp; first | refine hK _ ?_ | refine ⟨(fun h=>by cases h),hK _ ?_⟩; clear hK K)
   refine zav (.agg #[I ck,I ca2,I co,I cn]) rfl (fun w' hw'=>by have q0:=hw'.cell y0; have q1:=hw'.cell y1; have q2:=hw'.cell y2; have q3:=hw'.cell y3; go_simp) ?_;refine zai fun K h=>?_; go_simp; refine h _ ?_; clear h K;iterate 2 (refine zap (fun K hK=>?_); go_simp; first | refine hK _ ?_ | refine ⟨(fun h=>by cases h),hK _ ?_⟩; clear hK K)
   refine zaM ?_;intro w6 e6 _;replace g0:=e6.cell g0;clear hst hgd hb1 hb2 hb3 hb4 hb5 ht1 ht0 lc0 y0 y1 y2 y3 k0 k1;replace zbg:=zbx zbg e6;replace zdm:=zbx zdm e6;replace X:=zhd (X.o.ext e6);replace HV:=zrx HV e6;replace OPA:=zhd (zak OPA.o e6);replace EW:=zhd (EW.o.trans e6);clear e6;have f0:w6.frozen? ⟨g,i,none⟩=false:=OPA.o.frozenAt _;have hkb:j < 2000:=by have q:=HLJ.o; have q2:=HPB.o; omega
   have hwr:IntKind.i64.wrap ((t:Int)+1)=(t:Int)+1:=by have q:=HTL.o; have q2:=HC8.o; rw [IntKind.wrap_i64]; omega
   go_wp2
   go_roundw
   case rel =>
    have hst:=OPA.o.stored i (I ((t:Int)+1));refine ⟨j+1,HLJ.o,by go_num,?_,EW.o.setCell (Nat.le_of_eq GS.o) _⟩;have h3:=hst.1
    have e:(List.map I (atL l.length (x.store.past.take j))).set i (I ((t:Int)+1))=List.map I (atL l.length (x.store.past.take j++[⟨(i:Int),(t:Int),⟨ck,ca2,co,cn⟩⟩])):=by
     rw [zpy (r:=⟨(i:Int),(t:Int),⟨ck,ca2,co,cn⟩⟩) rfl,HTT.o,List.map_set]
    rw [e] at h3;rw [List.take_add_one,HRQ.o];exact h3
   case measure=>have:=HLJ.o; simp [intOf]; omega
  obtain rfl:j=x.store.past.length:=by omega
  clear hlt hj;have htk:x.store.past.take x.store.past.length=x.store.past:=List.take_of_length_le (Nat.le_refl _);have OA:=OPA.o;rw [htk] at OA;have OPB:=zhd OA;clear OA OPA htk;rename World=>wv;have E1:=EW;replace EW:=zhd (Ext.refl wv);have x19:=zaa (i:=19) zbg.o rfl;go_wp2_with fail
  clear x19;go_loopw [126] (fun i wr=>∃ k:Nat,k<=x.clients.length/\i=I k/\Ext wv wr) (fun i _=>x.clients.length - (intOf i).toNat)
  case atStart=>exact ⟨0,Nat.zero_le _,rfl,Ext.refl _⟩
  case round =>
   obtain ⟨k,hk,rfl,hex⟩:=hrel;have HX1:=zhd hex;replace zbg:=zbx zbg hex;replace X:=zhd (X.o.ext hex);replace HV:=zrx HV hex;replace OPB:=zhd (zak OPB.o hex);replace EW:=zhd (EW.o.trans hex);clear hex;by_cases hlt:k < x.clients.length
   case neg =>
    go_wp2
    go_ret
    exact ⟨rfl,E0.o.trans (E1.o.trans EW.o)⟩
   obtain ⟨css,hcs⟩:=zdg (by decide) X.o.clients;obtain ⟨c0,c,hc0,hc,-⟩:=zfB hcs.left.o hlt;obtain ⟨kcalls,kbox,kgot,rfl,q1,q2,q3⟩:=zd0 (zeS hcs.left hc0 hc)
   obtain ⟨kb,ko,hka⟩:∃ b o,ka0=some ⟨b,o,none⟩:=by
    obtain ⟨_,_,e1,_,_,_,hf⟩:=X.o.clients.o.form (by decide);simp only [Value.slice.injEq,true_and] at e1;obtain ⟨rfl,rfl⟩:=e1;obtain ⟨b,o,_,e2,_⟩:=hf _ _ hc;exact ⟨b,o,e2⟩
   subst hka;have HRG:=zhd (zea (by decide) hcs.right.o hcs.left.o.sizes hc0)
   have HCA:Hid (c.at_=(c.got.length:Int)/\((zbK x.store.past k).length=c.got.length∨(zbK x.store.past k).length=c.got.length+1)/\c.got.length<=1000):=by
    obtain ⟨_,⟨ks,bz,h2⟩,_⟩:=GX.o;have q:=h2.clients k c hc;exact ⟨q.at_,q.step,((GX.o.fit (by decide)).each c (List.mem_of_getElem? hc)).2.2.1⟩
   obtain ⟨ka1,kc1,rfl⟩:=zaf q1.o;obtain ⟨kx1,ky1,rfl⟩:=zaf q2.o;obtain ⟨kg1,kh1,rfl⟩:=zaf q3.o;have HLT:=zhd hlt;have hli:(k:Int) < (x.clients.length:Int):=by omega
   have hl0:(0:Int)<=(k:Int):=by omega
   clear hcs hc0 hc q1 q2 q3 hlt hk;go_wp2_with (with_reducible refine zT ?_)
   unfold Hid;clear hli hl0;refine zfH rfl 63 (.tmp 129) rfl kb (ko+k * 6) rfl [.slice ka1 c.calls.length kc1,I c.at_,.bool c.sent,I c.gen,.slice kx1 c.box.length ky1,.slice kg1 c.got.length kh1] HRG.o zbG zbF (fun v130 H_v130=>?_);go_wp2_with (with_reducible refine zT ?_)
   clear HRG;have SB:Hid (g < wr.heap.size/\wv.heap.size<=wr.heap.size):=⟨(OPB.o.lt g rfl).2,HX1.o.size⟩;refine zae rfl 63 zC (by kernel_rfl) (fun b16 w701_ M701=>?_);have zo7:=zld zbg M701;have znC:=zmb M701;have zqP:Hid (¬ U b16):=fun q=>by have q1:=(HU.o _).1 q; have q2:=M701.o.at_; have q3:=SB.o; omega
   have zrq:Hid (wv.heap.size<=b16):=by unfold Hid; have q:=M701.o.at_; have q3:=SB.o; omega
   go_wp2_with (with_reducible refine zT ?_)
   refine zac rfl 63 (.tmp 16) (.tmp 130) rfl b16 rfl _ (zcv H_v130) znC rfl zbF rfl (fun w702_ M702=>?_);replace OPB:=zhd (zak OPB.o M701.o.ext);replace OPB:=zhd (OPB.o.kept M702.o.grown (.inr (za5 OPB.o znC.o (by decide))));replace znC:=zwb M702;have hkl:k < l.length:=by have q:=HLT.o; rw [HCLN.o] at q; exact q
   obtain ⟨_,_,e1,_,_,hat⟩:=(show zbB w702_ (.slice (some ⟨g,0,none⟩) l.length l.length) (atL l.length x.store.past) from by have q:=Row.of_owns OPB.o; unfold zbB; rw [ziF]; exact q).form;obtain ⟨gb2,go2,e2,g0⟩:=hat k (by rw [ziF]; exact hkl);simp only [Value.slice.injEq] at e1;obtain ⟨rfl,-,rfl⟩:=e1;simp only [Option.some.injEq,Addr.mk.injEq,and_true] at e2;obtain ⟨rfl,rfl⟩:=e2;rw [zno _ hkl,Nat.zero_add] at g0;have e1:w702_.cell? ⟨b16,1,none⟩=some (I (c.got.length:Int)):=by have q:=zaa (i:=1) znC.o rfl; rw [HCA.o.1] at q; exact q
   have e5:w702_.cell? ⟨b16,5,none⟩=some (.slice kg1 c.got.length kh1):=zaa (i:=5) znC.o rfl;obtain ⟨-,hst,hgl⟩:=HCA.o;replace zbg:=zwl M702 (zmo M701 zbg) zo7;replace X:=zHw M702 (zhd (X.o.ext M701.o.ext)) zqP;replace HV:=zwr M702 (zme M701 HV) zqP;replace EW:=zwe M702 (zet EW M701) zrq;generalize (zbK x.store.past k).length=t at *;have hi1:(k:Int) < (l.length:Int):=by omega
   have hi0:(0:Int)<=(k:Int):=by omega
   have hb1:decide ((t:Int) < (c.got.length:Int))=false:=decide_eq_false (by omega);have hb2:decide (t < c.got.length)=false:=decide_eq_false (by omega);have hb3:decide ((c.got.length:Int)+1 < (t:Int))=false:=decide_eq_false (by omega);have hwr:IntKind.i64.wrap ((c.got.length:Int)+1)=(c.got.length:Int)+1:=by rw [IntKind.wrap_i64]; omega
   clear hat hst hgl hkl;go_wp2_with fail
   refine zbj [none,none,none,none,none,none,none,none,none,none,none,none,none,none,none,none,none,none,none,none,none,none,none,none,none] (by kernel_rfl) (by kernel_rfl) ?_ ?_
   ·exact ⟨trivial,trivial,trivial,trivial,trivial,trivial,trivial,trivial,trivial,trivial,trivial,trivial,trivial,trivial,trivial,trivial,trivial,trivial,trivial,trivial,trivial,trivial,trivial,trivial,trivial,trivial⟩
   (refine zap (fun K hK=>?_); go_simp; first | refine hK _ ?_ | refine ⟨(fun h=>by cases h),hK _ ?_⟩; clear hK K)
   refine zav (I (c.got.length:Int)) rfl (fun w' hw'=>by have:=hw'.cell e1; go_simp) ?_;refine zai fun K h=>?_; go_simp; refine h _ ?_; clear h K;(refine zap (fun K hK=>?_); go_simp; first | refine hK _ ?_ | refine ⟨(fun h=>by cases h),hK _ ?_⟩; clear hK K)
   refine zav (.slice kg1 c.got.length kh1) rfl (fun w' hw'=>by have:=hw'.cell e5; go_simp) ?_;refine zai fun K h=>?_; go_simp; refine h _ ?_; clear h K;iterate 6 (refine zap (fun K hK=>?_); go_simp; first | refine hK _ ?_ | refine ⟨(fun h=>by cases h),hK _ ?_⟩; clear hK K)
   refine zav (I (t:Int)) rfl (fun w' hw'=>by have:=hw'.cell g0; go_simp) ?_;refine zai fun K h=>?_; go_simp; refine h _ ?_; clear h K;(refine zap (fun K hK=>?_); go_simp; first | refine hK _ ?_ | refine ⟨(fun h=>by cases h),hK _ ?_⟩; clear hK K)
   refine zav (I (c.got.length:Int)) rfl (fun w' hw'=>by have:=hw'.cell e1; go_simp) ?_;refine zai fun K h=>?_; go_simp; refine h _ ?_; clear h K;iterate 6 (refine zap (fun K hK=>?_); go_simp; first | refine hK _ ?_ | refine ⟨(fun h=>by cases h),hK _ ?_⟩; clear hK K)
   refine zav (I (t:Int)) rfl (fun w' hw'=>by have:=hw'.cell g0; go_simp) ?_;refine zai fun K h=>?_; go_simp; refine h _ ?_; clear h K;(refine zap (fun K hK=>?_); go_simp; first | refine hK _ ?_ | refine ⟨(fun h=>by cases h),hK _ ?_⟩; clear hK K)
   refine zav (I (c.got.length:Int)) rfl (fun w' hw'=>by have:=hw'.cell e1; go_simp) ?_;refine zai fun K h=>?_; go_simp; refine h _ ?_; clear h K;iterate 3 (refine zap (fun K hK=>?_); go_simp; first | refine hK _ ?_ | refine ⟨(fun h=>by cases h),hK _ ?_⟩; clear hK K)
   refine zaM ?_;intro w6 e6 _;clear e1 e5 g0 hb1 hb2 hb3 hwr hi1 hi0;replace zbg:=zbx zbg e6;replace znC:=zbx znC e6;replace X:=zhd (X.o.ext e6);replace HV:=zrx HV e6;replace OPB:=zhd (zak OPB.o e6);replace EW:=zhd (EW.o.trans e6);clear e6;have hkb:k < 2000:=by have q:=HLT.o; have q2:=HCLN.o; have q3:=HL3.o; omega
   go_wp2
   go_roundw
   case rel=>exact ⟨k+1,HLT.o,by go_num,EW.o⟩
   case measure=>have:=HLT.o; simp [intOf]; omega

end Go.Proofs.YtdmipnnfoolelaeGreat
