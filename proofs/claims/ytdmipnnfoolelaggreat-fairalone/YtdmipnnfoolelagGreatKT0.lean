/- Texts of the proof, merged: U2. -/
import Derived.Test.YtdmipnnfoolelagGreatKTA
import Derived.Test.YtdmipnnfoolelagGreatKTZ
import Derived.Test.YtdmipnnfoolelagGreatKTG
import Derived.Test.YtdmipnnfoolelagGreatKTW
set_option maxHeartbeats 8000000
set_option maxRecDepth 100000

namespace Go.Proofs.YtdmipnnfoolelagGreat
open Go.RowKit Go.Mk

def c12:List Cl:=[⟨1,7,0,5⟩,⟨2,7,0,0⟩]
def l12:List (List Cl):=[c12]
def s12:List (Int×Int):=[(3,0)]
def m12:Mc:=zcr (za4 l12) s12
def aA0:Mc:=⟨newSt,zbQ 0 [],false,1,1,[⟨[⟨1,7,0,5⟩,⟨2,7,0,0⟩],0,false,0,[],[]⟩]⟩
def aT0:Mc:=⟨⟨[0,0,0,0,0,0,0,0,0,0,0],[],[],[]⟩,zbQ 1 [],true,0,1,[⟨[⟨1,7,0,5⟩,⟨2,7,0,0⟩],0,false,0,[],[]⟩]⟩
def aT1:Mc:=⟨⟨[0,0,0,0,0,0,0,0,0,0,0],[],[],[]⟩,⟨1,[(zbF ⟨0,0,⟨1,7,0,5⟩⟩)],false,zeroRq,[],⟨0,0⟩⟩,true,0,1,[⟨[⟨1,7,0,5⟩,⟨2,7,0,0⟩],0,true,1,[],[]⟩]⟩
def aA1:Mc:=⟨⟨[0,0,0,0,0,0,0,0,0,0,0],[],[],[]⟩,⟨1,[],true,⟨0,0,⟨1,7,0,5⟩⟩,[(1,7),(2,5),(0,1)],⟨0,0⟩⟩,true,0,1,[⟨[⟨1,7,0,5⟩,⟨2,7,0,0⟩],0,true,1,[],[]⟩]⟩
def aA2:Mc:=⟨⟨[0,7,0,0,0,0,0,0,0,0,0],[(1,0)],[],[]⟩,⟨1,[],true,⟨0,0,⟨1,7,0,5⟩⟩,[(2,5),(0,1)],⟨0,0⟩⟩,true,0,1,[⟨[⟨1,7,0,5⟩,⟨2,7,0,0⟩],0,true,1,[],[]⟩]⟩
def aA3:Mc:=⟨⟨[0,7,5,0,0,0,0,0,0,0,0],[(2,0),(1,0)],[],[]⟩,⟨1,[],true,⟨0,0,⟨1,7,0,5⟩⟩,[(0,1)],⟨0,0⟩⟩,true,0,1,[⟨[⟨1,7,0,5⟩,⟨2,7,0,0⟩],0,true,1,[],[]⟩]⟩
theorem r12:za9 l12:=⟨by decide,fun c hc=>by
 rw [List.mem_singleton.1 hc]
 exact ⟨by decide,fun x hx=>by
  rcases List.mem_cons.1 hx with rfl | hx
  ·decide
  ·rw [List.mem_singleton.1 hx]; decide⟩⟩
theorem m12_0:m12=aA0:=rfl
theorem zrU:zbL aA0=aT0:=rfl
theorem zrT:doM aT0 1 0=(aT1,0):=rfl
theorem zrX:doM aT1 2 0=(aA1,0):=by
 have hq:readRq (zbF ⟨0,0,⟨1,7,0,5⟩⟩)=(⟨0,0,⟨1,7,0,5⟩⟩,0):=zju (by decide)
 have h:zaC ⟨[0,0,0,0,0,0,0,0,0,0,0],[],[],[]⟩ ⟨1,[(zbF ⟨0,0,⟨1,7,0,5⟩⟩)],false,zeroRq,[],⟨0,0⟩⟩=(⟨[0,0,0,0,0,0,0,0,0,0,0],[],[],[]⟩,⟨1,[],true,⟨0,0,⟨1,7,0,5⟩⟩,[(1,7),(2,5),(0,1)],⟨0,0⟩⟩,[],0):=by
  unfold zaC
  dsimp only
  rw [hq]
  rfl
 unfold doM
 rw [if_neg (by decide),if_pos rfl,if_neg (by simp [aT1])]
 show (if (zaC ⟨[0,0,0,0,0,0,0,0,0,0,0],[],[],[]⟩ ⟨1,[(zbF ⟨0,0,⟨1,7,0,5⟩⟩)],false,zeroRq,[],⟨0,0⟩⟩).2.2.2≠0 then _ else _)=_
 rw [h]
 rfl
theorem zm9 (m m1 m2:Mc) (h0:(zbL m).clients.length=1) (h1:(doM (zbL m) 1 0).1=m1) (h2:(doM m1 2 0).1=m2):roundM m=m2:=by
 show (doM ((List.range (zbL m).clients.length).foldl (fun m (n:Nat)=>(doM m 1 (n:Int)).1) (zbL m)) 2 0).1=m2
 rw [h0]
 show (doM (doM (zbL m) 1 0).1 2 0).1=m2
 rw [h1,h2]
theorem rd12_0:roundM aA0=aA1:=zm9 aA0 aT1 aA1 rfl (by rw [zrU,zrT]) (by rw [zrX])
theorem rd12_1:roundM aA1=aA2:=zm9 aA1 aA1 aA2 rfl rfl rfl
theorem rd12_2:roundM aA2=aA3:=zm9 aA2 aA2 aA3 rfl rfl rfl
theorem zrC:3 < (zbs 300 m12).2:=by
 rw [m12_0,show (300:Nat)=299+1 from rfl,zep 299 rfl,rd12_0,show (299:Nat)=298+1 from rfl,zep 298 rfl,rd12_1,show (298:Nat)=297+1 from rfl,zep 297 rfl,rd12_2,show (297:Nat)=296+1 from rfl,zep 296 rfl]
 simp only []
 omega
theorem zq5:zc2 l12 s12=0:=by
 unfold zc2
 rw [if_neg (by rw [zg6 r12]; simp),if_neg (by decide)]
theorem zrs:GzM l12 m12:=zk5 r12 s12
theorem zrJ {c:Cn} (hc:(zbs 300 m12).1.clients[0]?=some c):c.got=[⟨0,0⟩,⟨0,5⟩]:=by
 obtain ⟨h1,⟨ks,bz,h2⟩,-⟩:=zrs
 obtain ⟨q1,-,ks',bz',q3⟩:=zkP h1 h2
 exact ((zqd q3 q1).2 c hc).1.trans rfl
theorem zrZ:(zbs 300 m12).1.clients.length=1:=by
 obtain ⟨h1,⟨ks,bz,h2⟩,-⟩:=zrs
 obtain ⟨q1,-,ks',bz',q3⟩:=zkP h1 h2
 exact (zqd q3 q1).1
theorem zoH (m:Mc) (c u a p box plan cl:Value) (w:World):(Instr.field 45 (.agg (zaL m c u a p box plan cl).toArray) 2).run Tryz.prog w=.ok (.bool m.up) w:=by kernel_rfl

theorem zkc (hPlay:zk0) (hRound:zhU) (hSettle:zhC) (w:World):zaV Tryz.prog 4 #[] w fun r _=>r=.bool true:=by
 refine zc1 ?_;have HPL:=zhd hPlay;have HRO:=zhd hRound;have HSE:=zhd hSettle;clear hPlay hRound hSettle;have EW:=zhd (Ext.refl w);go_enter Tryz.func4,Tryz.ntmps4
 go_wp2_with (with_reducible refine zT ?_)
 refine za7 rfl 35 #[(0,.const (.int .i64 1)),(1,.const (.int .i64 7)),(3,.const (.int .i64 5))] rfl #[I 1,I 7,I 0,I 5] (by kernel_rfl) (fun v7 H_v7=>?_);obtain rfl:=H_v7.o;clear H_v7;go_wp2_with (with_reducible refine zT ?_)
 refine za7 rfl 35 #[(0,.const (.int .i64 2)),(1,.const (.int .i64 7))] rfl #[I 2,I 7,I 0,I 0] (by kernel_rfl) (fun v8 H_v8=>?_);obtain rfl:=H_v8.o;clear H_v8;go_wp2_with (with_reducible refine zT ?_)
 unfold Hid;refine zcq rfl 35 2 #[I 1,I 7,I 0,I 5,I 2,I 7,I 0,I 0] (by kernel_rfl) (fun bq w1_ M1=>?_);have zsj:=zmb M1;go_wp2_with (with_reducible refine zT ?_)
 unfold Hid;have HC:Hid (zat 4 zdy w1_ (.slice (some ⟨bq,0,none⟩) 2 2) c12):=(zc6 (f:=fun (x:Cl)=>[I x.kind,I x.name,I x.other,I x.n]) (fun _=>rfl)).2 (Row.of_owns (zdb M1.o (Nat.le_refl _) rfl (by decide)));refine zcq rfl 22 1 #[.slice (some ⟨bq,0,none⟩) 2 2] (by kernel_rfl) (fun bl w2_ M2=>?_);have zo2:=zmb M2;obtain ⟨B,HB0⟩:∃ B:Nat->Prop,Hid (∀ k,B k↔True):=⟨_,fun _=>Iff.rfl⟩
 have hv:zat 1 zgi w2_ (.slice (some ⟨bl,0,none⟩) 1 1) l12:=⟨[[.slice (some ⟨bq,0,none⟩) 2 2]],⟨rfl,fun i c x hc hx=>by
  match i,hc,hx with
  | 0,hc,hx=>cases hc; cases hx; exact ⟨rfl,_,rfl,HC.o.ext zd9 M2.o.ext⟩
  | i+1,hc,hx=>simp at hc⟩,Row.of_owns (zdb M2.o (Nat.le_refl _) rfl (by decide))⟩
 have HV:=zhd (Rd.widen (B:=B) (Rd.of (zeS zk6 _ _) hv) (fun k _ _=>(HB0.o k).2 trivial));clear hv HC zsj zo2;go_wp2_with (with_reducible refine zT ?_)
 refine za7 rfl 64 #[(0,.const (.int .i64 3))] rfl #[I 3,I 0] (by kernel_rfl) (fun v11 H_v11=>?_);obtain rfl:=H_v11.o;clear H_v11;go_wp2_with (with_reducible refine zT ?_)
 unfold Hid;refine zcq rfl 64 1 #[I 3,I 0] (by kernel_rfl) (fun bs w3_ M3=>?_);have zsl:=zmb M3;have HST:Hid (zaw w3_ (.slice (some ⟨bs,0,none⟩) 1 1) s12):=Row.of_owns (zdb M3.o (Nat.le_refl _) rfl (by decide));clear zsl;go_wp2_with fail
 obtain ⟨P,HP⟩:∃ X:Nat->Prop,Hid (∀ k,X k↔(B k∨w3_.heap.size<=k)):=⟨_,fun _=>Iff.rfl⟩;replace HV:=zme M3 HV;replace HV:=zhd (HV.o.widen (B:=P) fun k _ h=>(HP.o k).2 (.inl h));refine (HPL.o _ _ l12 s12 w3_ P HV.o HST.o).to fun r w2 e2 hr=>?_;obtain ⟨cs,es,rfl,hok,-⟩:=zo9 hr;obtain ⟨-,hm,hes⟩:=hok zq5;rw [zq5];obtain ⟨c,u,a,p,box,plan,cl,rfl,hM⟩:=zcB hm;obtain ⟨ca,cc,ua,uc,aa,ac,pa,pc,xa,xc,la,lc,ka,kc,rfl,rfl,rfl,rfl,rfl,rfl,rfl⟩:=hM.slices;obtain ⟨mk,hmk⟩:∃ mk,zcr (za4 l12) s12=mk:=⟨_,rfl⟩;rw [hmk] at hM ⊢;have HMK:Hid (m12=mk):=hmk;obtain ⟨esa,esc,hesq⟩:=zao hes.o;replace hesq:es=.slice esa 1 esc:=hesq;subst hesq;have H:=zhd (hM.widen (B:=P) fun k _ h=>(HP.o k).2 (by rcases h with h | h; exact (HP.o k).1 h; exact .inr h));have GZ:Hid (GzM l12 mk):=by rw [<- HMK.o]; exact zrs
 clear hok hr hm hes hM HV HST hmk;replace EW:=zhd ((zet (zet (zet EW M1) M2) M3).o.trans e2);clear e2;go_wp2_with (with_reducible refine zT ?_)
 refine zaf rfl 45 zM (by kernel_rfl) (fun b1 w4_ M4=>?_);obtain ⟨P1,HP1⟩:=zEx P b1;have zas:=zNn HP1;have zaZ:=zOn M4 EW;have zac:=zmb M4;go_wp2_with (with_reducible refine zT ?_)
 refine zab rfl 45 (.tmp 1) (.tmp 14) rfl b1 rfl [.slice ca mk.store.cells.length cc,.slice ua mk.store.undo.length uc,.slice aa mk.store.answers.length ac,.slice pa mk.store.past.length pc,I mk.server.gen,.slice xa mk.server.box.length xc,.bool mk.server.busy,I mk.server.now.client,I mk.server.now.token,I mk.server.now.call.kind,I mk.server.now.call.name,I mk.server.now.call.other,I mk.server.now.call.n,.slice la mk.server.plan.length lc,I mk.server.says.err,I mk.server.says.n,.bool mk.up,I mk.pause,I mk.falls,.slice ka mk.clients.length kc] (rfl) zac rfl zaP rfl (fun w5_ M5=>?_);replace zac:=zwb M5;go_wp2_with (with_reducible refine zT ?_)
 refine zah rfl 45 (.tmp 1) rfl b1 rfl zac zaY zaP (fun v18 H_v18=>?_);go_wp2_with fail
 rw [H_v18.o];clear H_v18;obtain ⟨l,hl⟩:∃ x,l12=x:=⟨_,rfl⟩;rw [hl] at GZ;have HL12:=zhd hl;clear hl;obtain ⟨K,HK⟩:∃ X:Nat->Prop,Hid (∀ k,X k↔(P1 k∨w5_.heap.size<=k)):=⟨_,fun _=>Iff.rfl⟩;replace H:=zHw M5 (zhd ((zMD HP1 M4 H).o.ext M4.o.ext)) zas;replace H:=zhd (H.o.widen (B:=K) fun k _ h=>(HK.o k).2 (.inl h));replace zas:Hid (¬ K b1):=zrY HK zas zac;refine (HSE.o l mk _ _ _ _ _ _ _ w5_ K H.o GZ.o).to fun r ws es9 hr=>?_;obtain ⟨cs,rfl,hcs⟩:=zfc hr;obtain ⟨S,hS⟩:∃ s,(zbs 300 mk).1=s:=⟨_,rfl⟩;obtain ⟨SN,hSN⟩:∃ s,(zbs 300 mk).2=s:=⟨_,rfl⟩;rw [hS] at hcs;simp only [hSN];obtain ⟨c9,u9,a9,p9,box9,plan9,cl9,rfl,hM⟩:=zcB hcs;obtain ⟨ca9,cc9,ua9,uc9,aa9,ac9,pa9,pc9,xa9,xc9,la9,lc9,ka9,kc9,rfl,rfl,rfl,rfl,rfl,rfl,rfl⟩:=hM.slices;have HS:=zhd hS;have HSN:=zhd hSN;have X9:=zhd (hM.widen (B:=K) fun k _ h=>(HK.o k).2 (by rcases h with h | h; exact (HK.o k).1 h; exact .inr h));clear hr hcs hM hS hSN;replace EW:=zhd ((zwe M5 (zet EW M4) zaZ).o.trans es9);replace zac:=zbx zac es9;replace H:=zhd (H.o.ext es9);clear es9;have HSC:Hid (S.clients.length=1):=by rw [<- HS.o,<- HMK.o]; exact zrZ
 have HSG:Hid (∀ c,S.clients[0]?=some c->c.got=[⟨0,0⟩,⟨0,5⟩]):=by rw [<- HS.o,<- HMK.o]; exact fun c hc=>zrJ hc
 have HSM:Hid (3 < SN):=by rw [<- HSN.o,<- HMK.o]; exact zrC
 have HUP:Hid (mk.up=false):=by rw [<- HMK.o,m12_0]; rfl
 have HU2:Hid ((roundM mk).up=true):=by rw [<- HMK.o,m12_0,rd12_0]; rfl
 go_wp2_with (with_reducible refine zT ?_)
 refine zaf rfl 45 zM (by kernel_rfl) (fun b4 w6_ M6=>?_);have zbp:=zld zac M6;obtain ⟨K1,HK1⟩:=zEx K b4;have zcY:=zNn HK1;have zd6:=zOn M6 EW;have zaH:=zmb M6;go_wp2_with (with_reducible refine zT ?_)
 refine zab rfl 45 (.tmp 4) (.tmp 20) rfl b4 rfl [.slice ca9 S.store.cells.length cc9,.slice ua9 S.store.undo.length uc9,.slice aa9 S.store.answers.length ac9,.slice pa9 S.store.past.length pc9,I S.server.gen,.slice xa9 S.server.box.length xc9,.bool S.server.busy,I S.server.now.client,I S.server.now.token,I S.server.now.call.kind,I S.server.now.call.name,I S.server.now.call.other,I S.server.now.call.n,.slice la9 S.server.plan.length lc9,I S.server.says.err,I S.server.says.n,.bool S.up,I S.pause,I S.falls,.slice ka9 S.clients.length kc9] (rfl) zaH rfl zaP rfl (fun w7_ M7=>?_);replace zaH:=zwb M7;replace zac:=zwl M7 (zmo M6 zac) zbp;have x16:=zad (i:=16) zac.o rfl;rw [HUP.o] at x16;go_wp2_with (with_reducible refine zT ?_)
 unfold Hid;clear x16;refine zeG rfl 45 (.tmp 1) rfl b1 0 rfl zac [.slice ca mk.store.cells.length cc,.slice ua mk.store.undo.length uc,.slice aa mk.store.answers.length ac,.slice pa mk.store.past.length pc,I mk.server.gen,.slice xa mk.server.box.length xc,.bool mk.server.busy,I mk.server.now.client,I mk.server.now.token,I mk.server.now.call.kind,I mk.server.now.call.name,I mk.server.now.call.other,I mk.server.now.call.n,.slice la mk.server.plan.length lc,I mk.server.says.err,I mk.server.says.n,.bool mk.up,I mk.pause,I mk.falls,.slice ka mk.clients.length kc] rfl zaY zaP (fun v35 H_v35=>?_);go_wp2_with fail
 rw [H_v35.o];clear H_v35;replace H:=zHw M7 (zhd ((zMD HK1 M6 H).o.ext M6.o.ext)) zcY;refine (HRO.o l mk _ _ _ _ _ _ _ w7_ K1 H.o GZ.o).to fun r w5 e5 hr=>?_;obtain ⟨cs,rfl,hcs⟩:=zbU hr;obtain ⟨c5,u5,a5,p5,box5,plan5,cl5,rfl,hM5⟩:=zcB hcs;obtain ⟨ca5,cc5,ua5,uc5,aa5,ac5,pa5,pc5,xa5,xc5,la5,lc5,ka5,kc5,rfl,rfl,rfl,rfl,rfl,rfl,rfl⟩:=hM5.slices;clear hr hcs hM5;replace X9:=zhd ((zHw M7 (zhd ((zMD HK1 M6 X9).o.ext M6.o.ext)) zcY).o.ext e5);replace EW:=zhd ((zwe M7 (zet EW M6) zd6).o.trans e5);replace zac:=zbx zac e5;replace zaH:=zbx zaH e5;replace H:=zhd (H.o.ext e5);clear e5;have hf:=zoH (roundM mk) (.slice ca5 (roundM mk).store.cells.length cc5) (.slice ua5 (roundM mk).store.undo.length uc5) (.slice aa5 (roundM mk).store.answers.length ac5) (.slice pa5 (roundM mk).store.past.length pc5) (.slice xa5 (roundM mk).server.box.length xc5) (.slice la5 (roundM mk).server.plan.length lc5) (.slice ka5 (roundM mk).clients.length kc5) w5;rw [HU2.o] at hf;obtain ⟨css,hcs⟩:=zdu (by decide) X9.o.clients;obtain ⟨c0,c,hc0,hc,-⟩:=zfJ (k:=0) hcs.left.o (by rw [HSC.o]; decide);obtain ⟨kcalls,kbox,kgot,rfl,q1,q2,q3⟩:=zdW (ze5 hcs.left hc0 hc)
 obtain ⟨kb,ko,hka⟩:∃ b o,ka9=some ⟨b,o,none⟩:=by
  obtain ⟨_,_,e1,_,_,_,hf⟩:=X9.o.clients.o.form (by decide);simp only [Value.slice.injEq,true_and] at e1;obtain ⟨rfl,rfl⟩:=e1;obtain ⟨b,o,_,e2,_⟩:=hf _ _ hc;exact ⟨b,o,e2⟩
 subst hka;have hrg:=zeh (by decide) hcs.right.o hcs.left.o.sizes hc0;have g5:=hrg 5 _ rfl;rw [Nat.zero_mul,Nat.add_zero] at g5;obtain ⟨gao,gcap,e3,hg1,hg2,hgf⟩:=zgq q3.o;subst e3;rw [HSG.o c hc] at g5 hgf hg1;obtain ⟨gb,go2,rfl,-,r1⟩:=hgf 1 ⟨0,5⟩ rfl;simp only [List.length_cons,List.length_nil,Nat.zero_add,Nat.one_mul] at g5 r1 hg1;rw [show go2+2+1=go2+3 from rfl] at r1;clear hcs hc0 hc q1 q2 q3 hrg hgf;have y19:=zad (i:=19) zaH.o rfl;rw [HSC.o] at y19;have hsn:decide ((3:Int) < (SN:Int))=true:=decide_eq_true (by have q:=HSM.o; omega);have hsn2:decide (3 < SN)=true:=decide_eq_true HSM.o;go_wp2
 go_ret
 exact ⟨rfl,EW.o⟩

end Go.Proofs.YtdmipnnfoolelagGreat
