/- Texts of the proof, merged: U5. -/
import Derived.Test.YtdmipnnfoolelagGreatKTA
import Derived.Test.YtdmipnnfoolelagGreatKT1
import Derived.Test.YtdmipnnfoolelagGreatKTP
import Derived.Test.YtdmipnnfoolelagGreatKTH
import Derived.Test.YtdmipnnfoolelagGreatKTO
import Derived.Test.YtdmipnnfoolelagGreatKTK
set_option maxHeartbeats 16000000
set_option maxRecDepth 100000

namespace Go.Proofs.YtdmipnnfoolelagGreat
open Go.RowKit Go.Mk

theorem Tryz.infoRequestU:(Tryz.prog.info? 37).map (fun i=>(i.zero,i.size,i.bytes))=some (some (.agg #[I 0,I 0,I 0,I 0,I 0,I 0]),6,48):=by kernel_rfl
def rqZ (c:Cl):Rq:=⟨0,0,c⟩
theorem zqT (l:List Cl):(l.map rqZ).map Rq.call=l:=by
 rw [List.map_map]
 exact List.map_id' l
theorem zny {w:World} {v:Value} {l:List (Int×Int)} (h:zaw w v l):zat 2 zdU w v (l.map fun x=>⟨x.1,x.2⟩):=by
 refine (zc6 (f:=fun (x:Rp)=>[I x.err,I x.n]) (fun _=>rfl)).2 ?_
 rw [List.length_map,List.flatMap_map]
 exact h
theorem zkN (x0 x1 x2 x3:Value) (w:World):(Instr.field 32 (.agg #[x0,x1,x2,x3]) 0).run Tryz.prog w=.ok x0 w:=by kernel_rfl

theorem zlx (hPlay:zk0) (hRound:zhU) (hSettle:zhC) (v0 v1:Value) (calls:List Cl) (steps:List (Int×Int)) (w:World) (h0:zat 4 zdy w v0 calls) (h1:zaw w v1 steps) :
  zaV Tryz.prog 3 #[v0,v1] w fun r _=>r=.bool true:=by
 refine zc1 ?_;obtain ⟨B,HB0⟩:∃ B:Nat->Prop,Hid (∀ k,B k↔True):=⟨_,fun _=>Iff.rfl⟩;have HCS:=zhd (Rd.widen (B:=B) (Rd.of (zeS zpF _ _) h0) (fun k _ _=>(HB0.o k).2 trivial));replace HCS:Hid (Rd B (fun w=>zat 4 zdy w v0 calls) w):=HCS;have HSTP:=zhd h1;obtain ⟨za,zc,rfl⟩:=zag h0;obtain ⟨ta,tc,rfl⟩:=zao h1;have HPL:=zhd hPlay;have HRO:=zhd hRound;have HSE:=zhd hSettle;clear h0 h1 hPlay hRound hSettle;have EW:=zhd (Ext.refl w);go_enter Tryz.func3,Tryz.ntmps3
 go_wp2_with fail
 refine (zkc HPL.o HRO.o HSE.o w).to fun r wl el hr=>?_;subst hr;replace HCS:=zrx HCS el;replace EW:=zhd (EW.o.trans el);clear el;go_wp2_with (with_reducible refine zT ?_)
 unfold Hid;refine zcq rfl 22 1 #[.slice za calls.length zc] (by kernel_rfl) (fun bl w1_ M1=>?_);have zo2:=zmb M1;obtain ⟨l,hl⟩:∃ x,[calls]=x:=⟨_,rfl⟩;have HLC:=zhd hl;replace HCS:=zme M1 HCS
 have hv:zat 1 zgi w1_ (.slice (some ⟨bl,0,none⟩) 1 1) l:=by
  rw [<- hl]
  exact ⟨[[.slice za calls.length zc]],⟨rfl,fun i c x hc hx=>by
   match i,hc,hx with
   | 0,hc,hx=>cases hc; cases hx; exact ⟨rfl,_,rfl,HCS.o.o⟩
   | i+1,hc,hx=>simp at hc⟩,Row.of_owns (zdb M1.o (Nat.le_refl _) rfl (by decide))⟩
 have HV:=zhd (Rd.widen (B:=B) (Rd.of (zeS zk6 _ _) hv) (fun k _ _=>(HB0.o k).2 trivial));replace HV:Hid (Rd B (fun w=>zat 1 zgi w (.slice (some ⟨bl,0,none⟩) 1 1) l) w1_):=HV;clear hv hl zo2;go_wp2_with fail
 refine (zlj _ l w1_ HV.o.o).mono ?_;rintro e wr0 ⟨bR,rfl,hbR,e0⟩
 replace EW:=zhd ((zet EW M1).o.trans e0);replace HCS:=zrx HCS e0;replace HV:=zrx HV e0;clear e0;cases bR
 case false =>
  go_wp2
  go_ret
  exact ⟨rfl,EW.o⟩
 have HRL:=zhd (hbR.1 rfl);clear hbR;go_wp2_with fail
 obtain ⟨P,HP⟩:∃ X:Nat->Prop,Hid (∀ k,X k↔(B k∨wr0.heap.size<=k)):=⟨_,fun _=>Iff.rfl⟩;replace HCS:=zhd (HCS.o.widen (B:=P) fun k _ h=>(HP.o k).2 (.inl h));replace HV:=zhd (HV.o.widen (B:=P) fun k _ h=>(HP.o k).2 (.inl h));refine (zjV _ _ l steps wr0 P HRL.o HV.o (HSTP.o.ext EW.o)).to fun r wp ep hr=>?_;obtain ⟨cs,es,rfl,hm,hes⟩:=zq3 hr;obtain ⟨mk,hmk⟩:∃ mk,zcr (za4 l) (steps.take 400)=mk:=⟨_,rfl⟩;have hgz:=zk5 HRL.o (steps.take 400);rw [hmk] at hm hgz;obtain ⟨c,u,a,p,box,plan,cl,rfl,hM⟩:=zcB hm;obtain ⟨ca,cc,ua,uc,aa,ac,pa,pc,xa,xc,la,lc,ka,kc,rfl,rfl,rfl,rfl,rfl,rfl,rfl⟩:=hM.slices;have GZ:=zhd hgz;obtain ⟨esa,esc,rfl⟩:=zao hes.o;have H:=zhd (hM.widen (B:=P) fun k _ h=>(HP.o k).2 (by rcases h with h | h; exact (HP.o k).1 h; exact .inr h));clear hM hm hr hes hmk hgz;replace HCS:=zrx HCS ep;replace HV:=zrx HV ep;replace EW:=zhd (EW.o.trans ep);clear ep;go_wp2_with (with_reducible refine zT ?_)
 refine zaf rfl 45 zM (by kernel_rfl) (fun b6 w2_ M2=>?_);obtain ⟨P1,HP1⟩:=zEx P b6;have zjZ:=zNn HP1;have zrp:=zOn M2 EW;have zeW:=zmb M2;go_wp2_with (with_reducible refine zT ?_)
 refine zab rfl 45 (.tmp 6) (.tmp 26) rfl b6 rfl [.slice ca mk.store.cells.length cc,.slice ua mk.store.undo.length uc,.slice aa mk.store.answers.length ac,.slice pa mk.store.past.length pc,I mk.server.gen,.slice xa mk.server.box.length xc,.bool mk.server.busy,I mk.server.now.client,I mk.server.now.token,I mk.server.now.call.kind,I mk.server.now.call.name,I mk.server.now.call.other,I mk.server.now.call.n,.slice la mk.server.plan.length lc,I mk.server.says.err,I mk.server.says.n,.bool mk.up,I mk.pause,I mk.falls,.slice ka mk.clients.length kc] (rfl) zeW rfl zaP rfl (fun w3_ M3=>?_);replace zeW:=zwb M3;go_wp2_with (with_reducible refine zT ?_)
 refine zah rfl 45 (.tmp 6) rfl b6 rfl zeW zaY zaP (fun v29 H_v29=>?_);go_wp2_with fail
 rw [H_v29.o];clear H_v29;obtain ⟨K,HK⟩:∃ X:Nat->Prop,Hid (∀ k,X k↔(P1 k∨w3_.heap.size<=k)):=⟨_,fun _=>Iff.rfl⟩;replace HCS:=zwr M3 (zme M2 (zmd HP1 M2 HCS)) zjZ;replace HCS:=zhd (HCS.o.widen (B:=K) fun k _ h=>(HK.o k).2 (.inl h));replace HV:=zwr M3 (zme M2 (zmd HP1 M2 HV)) zjZ;replace HV:=zhd (HV.o.widen (B:=K) fun k _ h=>(HK.o k).2 (.inl h));replace H:=zHw M3 (zhd ((zMD HP1 M2 H).o.ext M2.o.ext)) zjZ;replace H:=zhd (H.o.widen (B:=K) fun k _ h=>(HK.o k).2 (.inl h));replace zjZ:Hid (¬ K b6):=zrY HK zjZ zeW;refine (HSE.o l mk _ _ _ _ _ _ _ w3_ K H.o GZ.o).to fun r ws es9 hr=>?_;obtain ⟨cs,rfl,hcs⟩:=zfc hr;obtain ⟨S,hS⟩:∃ s,(zbs 300 mk).1=s:=⟨_,rfl⟩;obtain ⟨SN,hSN⟩:∃ s,(zbs 300 mk).2=s:=⟨_,rfl⟩;rw [hS] at hcs;simp only [hSN];obtain ⟨c9,u9,a9,p9,box9,plan9,cl9,rfl,hM⟩:=zcB hcs;obtain ⟨ca9,cc9,ua9,uc9,aa9,ac9,pa9,pc9,xa9,xc9,la9,lc9,ka9,kc9,rfl,rfl,rfl,rfl,rfl,rfl,rfl⟩:=hM.slices;have HS:=zhd hS;have HSN:=zhd hSN;have X9:=zhd (hM.widen (B:=K) fun k _ h=>(HK.o k).2 (by rcases h with h | h; exact (HK.o k).1 h; exact .inr h));clear hr hcs hM hS hSN;replace EW:=zhd ((zwe M3 (zet EW M2) zrp).o.trans es9);replace zeW:=zbx zeW es9;replace HCS:=zrx HCS es9;replace HV:=zrx HV es9;replace H:=zhd (H.o.ext es9);clear es9;go_wp2_with (with_reducible refine zT ?_)
 refine zaf rfl 45 zM (by kernel_rfl) (fun b8 w4_ M4=>?_);obtain ⟨K1,HK1⟩:=zEx K b8;have zlw:=zNn HK1;have zpb:=zOn M4 EW;have zby:=zmb M4;go_wp2_with (with_reducible refine zT ?_)
 refine zab rfl 45 (.tmp 8) (.tmp 31) rfl b8 rfl [.slice ca9 S.store.cells.length cc9,.slice ua9 S.store.undo.length uc9,.slice aa9 S.store.answers.length ac9,.slice pa9 S.store.past.length pc9,I S.server.gen,.slice xa9 S.server.box.length xc9,.bool S.server.busy,I S.server.now.client,I S.server.now.token,I S.server.now.call.kind,I S.server.now.call.name,I S.server.now.call.other,I S.server.now.call.n,.slice la9 S.server.plan.length lc9,I S.server.says.err,I S.server.says.n,.bool S.up,I S.pause,I S.falls,.slice ka9 S.clients.length kc9] (rfl) zby rfl zaP rfl (fun w5_ M5=>?_);replace zby:=zwb M5
 have HST:Hid (zd8 S=true/\SN<=300/\GzM l S):=by
  obtain ⟨h1,⟨ks,bz,h2⟩,h3⟩:=id GZ.o;obtain ⟨q1,q2,-⟩:=zkP h1 h2;have q3:=zkz 300 GZ.o;rw [HS.o] at q1 q3;rw [HSN.o] at q2;exact ⟨q1,q2,q3⟩
 have HAL:Hid (S.clients.length=1/\∀ c,S.clients[0]?=some c->c.got=(allCl calls).2.map (fun x=>⟨x.1,x.2⟩)/\zbI (zaB S.store.cells S.store.undo)=(allCl calls).1):=by
  obtain ⟨q1,-,q3⟩:=HST.o;rw [<- HLC.o] at q3;obtain ⟨_,⟨ks,bz,h2⟩,_⟩:=q3;exact zqd h2 q1
 have HRC:Hid (calls.length<=8/\∀ x ∈ calls,wrongCl x=0):=by
  have q:=HRL.o;rw [<- HLC.o] at q;exact q.2 calls (List.mem_singleton.2 rfl)
 obtain ⟨i0,hi,hz0,hz1,hz2⟩:=info_parts Tryz.infoRequestU;have HI:=zhd (And.intro hi (And.intro hz0 (And.intro hz1 hz2)));clear hi hz0 hz1 hz2 H HV zeW;go_wp2_with fail
 replace EW:=zwe M5 (zet EW M4) zpb;have E0:=EW;replace EW:=zhd (Ext.refl w5_);replace HCS:=zwr M5 (zme M4 (zmd HK1 M4 HCS)) zlw;replace X9:=zHw M5 (zhd ((zMD HK1 M4 X9).o.ext M4.o.ext)) zlw;go_loopw [10,35] (fun es i wr=>∃ j:Nat,j<=calls.length/\i=I j/\wr.ownsRow w5_.heap.size 37 6 es j (zbo ((calls.take j).map rqZ))/\Ext w5_ wr) (fun _ i _=>calls.length - (intOf i).toNat)
 case atStart=>exact ⟨0,Nat.zero_le _,rfl,World.ownsRow_nil _ _ _ _,Ext.refl _⟩
 case round =>
  obtain ⟨j,hj,rfl,ho,hex⟩:=hrel;obtain ⟨ea,ecap,rfl⟩:=zc4 ho;replace zby:=zbx zby hex;replace HCS:=zrx HCS hex;replace X9:=zhd (X9.o.ext hex);replace EW:=zhd (EW.o.trans hex);clear hex;have OPE:=zhd ho;clear ho;by_cases hlt:j < calls.length
  case pos =>
   obtain ⟨x,hx⟩:∃ x,calls[j]?=some x:=⟨calls[j],List.getElem?_eq_getElem hlt⟩;obtain ⟨_,_,e1,_,_,hf⟩:=zma HCS.o.o;simp only [Value.slice.injEq,true_and] at e1;obtain ⟨rfl,rfl⟩:=e1;obtain ⟨cb,co,rfl,d0,d1,d2,d3⟩:=hf j x hx;have HX:=zhd hx;have HLT:=zhd hlt;obtain ⟨ck,ca2,co2,cn⟩:=x;simp only [] at d0 d1 d2 d3;have hli:(j:Int) < (calls.length:Int):=by omega
   have hl0:(0:Int)<=(j:Int):=by omega
   clear hf hx hlt hj;go_wp2_with (with_reducible refine zT ?_)
   clear d0 d1 d2 d3 hli hl0;refine zaf rfl 35 #[I 0,I 0,I 0,I 0] (by kernel_rfl) (fun b12 w601_ M601=>?_);have zpR:=zld zby M601;obtain ⟨K11,HK11⟩:=zEx K1 b12;have zr2:Hid (w5_.heap.size<=b12):=by unfold Hid; have q2:=M601.o.at_; have q3:=EW.o.size; omega
   have zq6:=zmb M601;go_wp2_with (with_reducible refine zT ?_)
   refine zab rfl 35 (.tmp 12) (.tmp 38) rfl b12 rfl [I ck,I ca2,I co2,I cn] (rfl) zq6 rfl zsa rfl (fun w602_ M602=>?_);replace OPE:=zhd (zak OPE.o M601.o.ext);replace OPE:=zhd (OPE.o.kept M602.o.grown (.inr (za6 OPE.o zq6.o (by decide))));replace zq6:=zwb M602;have x0:=zad (i:=0) zq6.o rfl;have x1:=zad (i:=1) zq6.o rfl;have x2:=zad (i:=2) zq6.o rfl;have x3:=zad (i:=3) zq6.o rfl;go_wp2_with (with_reducible refine zT ?_)
   clear x0 x1 x2 x3;refine za7 rfl 37 #[(2,.tmp 40)] rfl #[I 0,I 0,I ck,I ca2,I co2,I cn] (by kernel_rfl) (fun v41 H_v41=>?_);obtain rfl:=H_v41.o;clear H_v41;go_wp2_with (with_reducible refine zT ?_)
   unfold Hid;refine zcq rfl 37 1 #[I 0,I 0,I ck,I ca2,I co2,I cn] (by kernel_rfl) (fun b42 w603_ M603=>?_);replace zby:=zwl M602 (zmo M601 zby) zpR;go_wp2_with (first | (at_builtin; refine zbv ?_) | (with_reducible refine zT ?_))
   unfold Hid;obtain ⟨hi,hz0,hz1,hz2⟩:=HI.o;have hlit:Row w603_ 6 (.slice (some ⟨b42,0,none⟩) 1 1) 1 (zbo [rqZ ⟨ck,ca2,co2,cn⟩]):=Row.of_owns (zdb (base:=0) M603.o (Nat.zero_le _) rfl (by decide));replace EW:=zet (zwe M602 (zet EW M601) zr2) M603;replace OPE:=zhd (zak OPE.o M603.o.ext);refine zay _ rfl (.tmp 39) (.tmp 42) 30 rfl w5_.heap.size 37 i0 (.agg #[I 0,I 0,I 0,I 0,I 0,I 0]) 6 48 zlX hi hz0 hz1 hz2 rfl (by decide) _ j (zbo ((calls.take j).map rqZ)) rfl OPE.o _ rfl 1 _ hlit (zdM _) (by have q:=HRC.o.1; have q2:=HLT.o; omega) (by decide) EW.o.size ?_;intro v43 wz ho hg;have hew:Ext w5_ wz:=EW.o.grown hg (fun k hk=>(OPE.o.lt k hk).1)
   have htk:zbo ((calls.take j).map rqZ)++zbo [rqZ ⟨ck,ca2,co2,cn⟩]=zbo ((calls.take (j+1)).map rqZ):=by
    rw [<- zek,List.take_add_one,HX.o,List.map_append];rfl
   rw [htk] at ho;have hkb:j < 2000:=by have q:=HRC.o.1; have q2:=HLT.o; omega
   clear hi hz0 hz1 hz2 hlit htk hg;go_wp2
   go_roundw
   case rel=>exact ⟨j+1,HLT.o,by go_num,ho,hew⟩
   case measure=>have:=HLT.o; simp [intOf]; omega
  obtain rfl:j=calls.length:=by omega
  have hrq:zmZ wr (.slice ea calls.length ecap) (calls.map rqZ):=by
   have q:=Row.of_owns OPE.o;rw [List.take_of_length_le (Nat.le_refl _)] at q;unfold zmZ;rw [List.length_map];exact q
  clear hlt hj OPE;go_wp2_with fail
  refine (zpp _ (calls.map rqZ) wr hrq (fun r hr=>by obtain ⟨c,hc,rfl⟩:=List.mem_map.1 hr; exact HRC.o.2 c hc) (by rw [List.length_map]; have q:=HRC.o.1; omega)).mono ?_;rintro e w8 ⟨r,rfl,e8,nv,yv,rfl,hx,hy⟩
  rw [zqT] at hx hy;obtain ⟨na,nc,rfl⟩:=zao hx;obtain ⟨ya,yc,rfl⟩:=zao hy;have HNOW:=zhd hx;have HSAY:=zhd (zny hy);clear hx hy hrq;replace zby:=zbx zby e8;replace HCS:=zrx HCS e8;replace X9:=zhd (X9.o.ext e8);replace EW:=zhd (EW.o.trans e8);clear e8;have hlt:0 < S.clients.length:=by rw [HAL.o.1]; decide
  obtain ⟨css,hcs⟩:=zdu (by decide) X9.o.clients;obtain ⟨c0,c,hc0,hc,-⟩:=zfJ hcs.left.o hlt;obtain ⟨kcalls,kbox,kgot,rfl,q1,q2,q3⟩:=zdW (ze5 hcs.left hc0 hc)
  obtain ⟨kb,ko,hka⟩:∃ b o,ka9=some ⟨b,o,none⟩:=by
   obtain ⟨_,_,e1,_,_,_,hf⟩:=X9.o.clients.o.form (by decide);simp only [Value.slice.injEq,true_and] at e1;obtain ⟨rfl,rfl⟩:=e1;obtain ⟨b,o,_,e2,_⟩:=hf _ _ hc;exact ⟨b,o,e2⟩
  subst hka;have HRG:=zhd (zeh (by decide) hcs.right.o hcs.left.o.sizes hc0);obtain ⟨ka1,kc1,rfl⟩:=zag q1.o;obtain ⟨kx1,ky1,rfl⟩:=zag q2.o;obtain ⟨kg1,kh1,rfl⟩:=zag q3.o;have Q3:=zhd q3;have HC:=zhd hc;clear hcs hc0 hc q1 q2 q3;have g5:=HRG.o 5 _ rfl;rw [Nat.zero_mul,Nat.add_zero] at g5;obtain ⟨hgot,hnm⟩:=HAL.o.2 c HC.o;have HGT:=zhd hgot;have HNM:=zhd hnm;clear HRG hlt hgot hnm;have x19:=zad (i:=19) zby.o rfl;rw [HAL.o.1] at x19;go_wp2_with fail
  clear x19 g5;refine Calls.exts (zrq _ _ c.got w8 Q3.o.o (by rw [HGT.o]; exact HSAY.o)) (fun w9 e9=>?_);clear HSAY;replace HNOW:=zhd (HNOW.o.ext e9);replace zby:=zbx zby e9;replace HCS:=zrx HCS e9;replace X9:=zhd (X9.o.ext e9);replace Q3:=zrx Q3 e9;replace EW:=zhd (EW.o.trans e9);clear e9;go_wp2_with (with_reducible refine zT ?_)
  unfold Hid;refine zeG rfl 32 (.tmp 64) rfl b8 0 rfl zby [.slice ca9 S.store.cells.length cc9,.slice ua9 S.store.undo.length uc9,.slice aa9 S.store.answers.length ac9,.slice pa9 S.store.past.length pc9] rfl zcG zfk (fun v65 H_v65=>?_);go_wp2_with fail
  rw [H_v65.o];clear H_v65;refine (zgZ _ _ _ _ S.store w9 K1 (zdp X9.o.cells X9.o.undo X9.o.answers X9.o.past) (zl2 HST.o.2.2).cells).to fun r wA eA hr=>?_;obtain ⟨cs,rfl,hcs⟩:=zbU hr;obtain ⟨c',u',a',p',rfl,r1,r2,r3,r4⟩:=zd7 hcs;obtain ⟨ca',cc',rfl⟩:=zao r1.o;have R1:=zhd r1.o;have hf:=zkN (.slice ca' (zbz S.store).cells.length cc') u' a' p' wA;clear hr hcs r1 r2 r3 r4;replace HNOW:=zhd (HNOW.o.ext eA);replace zby:=zbx zby eA;replace HCS:=zrx HCS eA;replace X9:=zhd (X9.o.ext eA);replace Q3:=zrx Q3 eA;replace EW:=zhd (EW.o.trans eA);clear eA;go_wp2_with fail
  clear hf;refine (zou _ (zbz S.store).cells wA R1.o (by obtain ⟨_,⟨ks,bz,h2⟩,_⟩:=HST.o.2.2; exact h2.right)).mono ?_;rintro e wB ⟨r,rfl,eB,hof⟩
  obtain ⟨oa,oc,rfl⟩:=zao hof;have HOF:=zhd hof;clear hof R1;replace HNOW:=zhd (HNOW.o.ext eB);replace zby:=zbx zby eB;replace HCS:=zrx HCS eB;replace X9:=zhd (X9.o.ext eB);replace Q3:=zrx Q3 eB;replace EW:=zhd (EW.o.trans eB);clear eB;go_wp2_with fail
  refine (zjS HNM.o HOF.o HNOW.o).to fun r wC eC hr=>?_;subst hr;replace zby:=zbx zby eC;replace HCS:=zrx HCS eC;replace X9:=zhd (X9.o.ext eC);replace Q3:=zrx Q3 eC;replace EW:=zhd (EW.o.trans eC);clear eC;go_wp2
  go_ret
  exact ⟨rfl,E0.o.trans EW.o⟩

end Go.Proofs.YtdmipnnfoolelagGreat
