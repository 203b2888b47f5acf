/- Texts of the proof, merged: J3. -/
import Derived.Test.YtdmipnnfoolelafGreatKTA
import Derived.Test.YtdmipnnfoolelafGreatKT0
set_option maxHeartbeats 8000000
set_option maxRecDepth 100000

namespace Go.Proofs.YtdmipnnfoolelafGreat
open Go.RowKit Go.Mk

def l10:List (List Cl):=[[⟨1,7,0,5⟩]]
def aX:Nat->Mc
 | 0=>⟨newSt,zbM 0 [],true,0,0,[⟨[⟨1,7,0,5⟩],0,false,0,[],[]⟩]⟩
 | 1=>⟨newSt,⟨0,[(zbA ⟨0,0,⟨1,7,0,5⟩⟩)],false,zeroRq,[],⟨0,0⟩⟩,true,0,0,[⟨[⟨1,7,0,5⟩],0,true,0,[],[]⟩]⟩
 | 2=>⟨newSt,⟨0,[],true,⟨0,0,⟨1,7,0,5⟩⟩,[(1,7),(2,5),(0,1)],⟨0,0⟩⟩,true,0,0,[⟨[⟨1,7,0,5⟩],0,true,0,[],[]⟩]⟩
 | 3=>⟨⟨[0,7,0,0,0,0,0,0,0,0,0],[(1,0)],[],[]⟩,⟨0,[],true,⟨0,0,⟨1,7,0,5⟩⟩,[(2,5),(0,1)],⟨0,0⟩⟩,true,0,0,[⟨[⟨1,7,0,5⟩],0,true,0,[],[]⟩]⟩
 | 4=>⟨⟨[0,7,0,0,0,0,0,0,0,0,0],[(1,0)],[],[]⟩,zbM 0 [],false,1,1,[⟨[⟨1,7,0,5⟩],0,true,0,[],[]⟩]⟩
 | 5=>⟨⟨[0,0,0,0,0,0,0,0,0,0,0],[],[],[]⟩,zbM 1 [],true,0,1,[⟨[⟨1,7,0,5⟩],0,true,0,[],[]⟩]⟩
 | _=>⟨⟨[0,0,0,0,0,0,0,0,0,0,0],[],[],[]⟩,⟨1,[(zbA ⟨0,0,⟨1,7,0,5⟩⟩)],false,zeroRq,[],⟨0,0⟩⟩,true,0,1,[⟨[⟨1,7,0,5⟩],0,true,1,[],[]⟩]⟩
def zpL:List (Int×Int):=[(1,0),(2,0),(2,0),(3,0),(4,0),(1,0)]
theorem r10:za8 l10:=⟨by decide,fun c hc=>by
 rw [List.mem_singleton.1 hc]
 exact ⟨by decide,fun x hx=>by rw [List.mem_singleton.1 hx]; decide⟩⟩
theorem n10:znv l10=aX 0:=if_pos (zeZ r10)
theorem ztc:doM (aX 0) 1 0=(aX 1,0):=rfl
theorem zs2:doM (aX 1) 2 0=(aX 2,0):=by
 have hq:readRq (zbA ⟨0,0,⟨1,7,0,5⟩⟩)=(⟨0,0,⟨1,7,0,5⟩⟩,0):=zhP (by decide)
 have h:zaz newSt ⟨0,[(zbA ⟨0,0,⟨1,7,0,5⟩⟩)],false,zeroRq,[],⟨0,0⟩⟩=(newSt,⟨0,[],true,⟨0,0,⟨1,7,0,5⟩⟩,[(1,7),(2,5),(0,1)],⟨0,0⟩⟩,[],0):=by
  unfold zaz
  dsimp only
  rw [hq]
  rfl
 unfold doM
 rw [if_neg (by decide),if_pos rfl,if_neg (by simp [aX])]
 show (if (zaz newSt ⟨0,[(zbA ⟨0,0,⟨1,7,0,5⟩⟩)],false,zeroRq,[],⟨0,0⟩⟩).2.2.2≠0 then _ else _)=_
 rw [h]
 rfl
theorem zs0:doM (aX 2) 2 0=(aX 3,0):=rfl
theorem zth:doM (aX 3) 3 0=(aX 4,0):=rfl
theorem zsY:doM (aX 4) 4 0=(aX 5,0):=rfl
theorem zs1:doM (aX 5) 1 0=(aX 6,0):=rfl
theorem zs6 {k:Nat} {p:Int×Int} (h:zpL[k]?=some p):doM (aX k) p.1 p.2=(aX (k+1),0):=by
 match k,h with
 | 0,h=>cases h; exact ztc
 | 1,h=>cases h; exact zs2
 | 2,h=>cases h; exact zs0
 | 3,h=>cases h; exact zth
 | 4,h=>cases h; exact zsY
 | 5,h=>cases h; exact zs1
 | k+6,h=>simp [zpL] at h
theorem ztf:∀ k,k<=6->Gd l10 (aX k) k
 | 0,_=>⟨r10,⟨_,_,zoH l10⟩,zjk l10⟩
 | k+1,h=>by
  obtain ⟨p,hp⟩:∃ p,zpL[k]?=some p:=⟨zpL[k]'(by simp [zpL]; omega),List.getElem?_eq_getElem _⟩
  have q:=zsh (ztf k (by omega)) p.1 p.2
  rw [zs6 hp] at q
  exact q

theorem zis (hNew:zov) (hDo:zrz) (w:World):zaT Tryz.prog 6 #[] w fun r _=>r=.bool true:=by
 refine zcb ?_;have HNW:=zhd hNew;have HDO:=zhd hDo;clear hNew hDo;have EW:=zhd (Ext.refl w);go_enter Tryz.func6,Tryz.ntmps6
 go_wp2_with (with_reducible refine zT ?_)
 refine zaX rfl 34 #[(0,.const (.int .i64 1)),(1,.const (.int .i64 7)),(3,.const (.int .i64 5))] rfl #[I 1,I 7,I 0,I 5] (by kernel_rfl) (fun v9 H_v9=>?_);obtain rfl:=H_v9.o;clear H_v9;go_wp2_with (with_reducible refine zT ?_)
 unfold Hid;refine zcw rfl 34 1 #[I 1,I 7,I 0,I 5] (by kernel_rfl) (fun bq w1_ M1=>?_);have zsT:=zmb M1;go_wp2_with (with_reducible refine zT ?_)
 unfold Hid;have HC:Hid (zas 4 zdw w1_ (.slice (some ⟨bq,0,none⟩) 1 1) [⟨1,7,0,5⟩]):=(zdx (f:=fun (x:Cl)=>[I x.kind,I x.name,I x.other,I x.n]) (fun _=>rfl)).2 (Row.of_owns (zdi M1.o (Nat.le_refl _) rfl (by decide)));refine zcw rfl 52 1 #[.slice (some ⟨bq,0,none⟩) 1 1] (by kernel_rfl) (fun bl w2_ M2=>?_);have zqw:=zmb M2;obtain ⟨B,HB0⟩:∃ B:Nat->Prop,Hid (∀ k,B k↔True):=⟨_,fun _=>Iff.rfl⟩
 have hv:zas 1 zdI w2_ (.slice (some ⟨bl,0,none⟩) 1 1) l10:=⟨[[.slice (some ⟨bq,0,none⟩) 1 1]],⟨rfl,fun i c x hc hx=>by
  match i,hc,hx with
  | 0,hc,hx=>cases hc; cases hx; exact ⟨rfl,_,rfl,HC.o.ext zdK M2.o.ext⟩
  | i+1,hc,hx=>simp at hc⟩,Row.of_owns (zdi M2.o (Nat.le_refl _) rfl (by decide))⟩
 have HV:=zhd (Rd.widen (B:=B) (Rd.of (zb8 zhb _ _) hv) (fun k _ _=>(HB0.o k).2 trivial));clear hv HC zsT zqw;go_wp2_with fail
 obtain ⟨C,HC⟩:∃ X:Nat->Prop,Hid (∀ k,X k↔(B k∨w2_.heap.size<=k)):=⟨_,fun _=>Iff.rfl⟩;replace HV:=zhd (HV.o.widen (B:=C) fun k _ h=>(HC.o k).2 (.inl h));refine (HNW.o _ l10 w2_ C HV.o).to fun r w2 e2 hr=>?_;obtain ⟨c1,u1,a1,p1,box1,plan1,cl1,rfl,hM,-⟩:=zjf hr n10;rw [zeZ r10];obtain ⟨ca1,cc1,ua1,uc1,aa1,ac1,pa1,pc1,xa1,xc1,la1,lc1,ka1,kc1,rfl,rfl,rfl,rfl,rfl,rfl,rfl⟩:=hM.slices;have X1:=zhd (hM.widen (B:=C) fun k _ h=>(HC.o k).2 (by rcases h with h | h; exact (HC.o k).1 h; exact .inr h));clear hr hM HV;replace EW:=zhd ((zet (zet EW M1) M2).o.trans e2);clear e2;go_wp2_with (with_reducible refine zT ?_)
 refine zae rfl 44 zM (by kernel_rfl) (fun b1 w3_ M3=>?_);obtain ⟨C1,HC1⟩:=zEx C b1;have zat:=zNn HC1;have zaZ:=zOn M3 EW;have zad:=zmb M3;go_wp2_with (with_reducible refine zT ?_)
 refine zac rfl 44 (.tmp 1) (.tmp 13) rfl b1 rfl [.slice ca1 (aX 0).store.cells.length cc1,.slice ua1 (aX 0).store.undo.length uc1,.slice aa1 (aX 0).store.answers.length ac1,.slice pa1 (aX 0).store.past.length pc1,I (aX 0).server.gen,.slice xa1 (aX 0).server.box.length xc1,.bool (aX 0).server.busy,I (aX 0).server.now.client,I (aX 0).server.now.token,I (aX 0).server.now.call.kind,I (aX 0).server.now.call.name,I (aX 0).server.now.call.other,I (aX 0).server.now.call.n,.slice la1 (aX 0).server.plan.length lc1,I (aX 0).server.says.err,I (aX 0).server.says.n,.bool (aX 0).up,I (aX 0).pause,I (aX 0).falls,.slice ka1 (aX 0).clients.length kc1] (rfl) zad rfl zaG rfl (fun w4_ M4=>?_);replace zad:=zwb M4;go_wp2_with (with_reducible refine zT ?_)
 refine zah rfl 44 (.tmp 1) rfl b1 rfl zad zaS zaG (fun v15 H_v15=>?_);go_wp2_with (with_reducible refine zT ?_)
 refine zae rfl 44 zM (by kernel_rfl) (fun b3 w5_ M5=>?_);have zaY:=zld zad M5;obtain ⟨C11,HC11⟩:=zEx C1 b3;have za9:=zNn HC11;replace EW:=zwe M4 (zet EW M3) zaZ;have zcN:=zOn M5 EW;have zav:=zmb M5;go_wp2_with (with_reducible refine zT ?_)
 refine zac rfl 44 (.tmp 3) (.tmp 15) rfl b3 rfl _ (zcv H_v15) zav rfl zaG rfl (fun w6_ M6=>?_);replace zav:=zwb M6;go_wp2_with (with_reducible refine zT ?_)
 refine zaX rfl 49 #[(0,.const (.int .i64 1))] rfl #[I 1,I 0] (by kernel_rfl) (fun v16 H_v16=>?_);obtain rfl:=H_v16.o;clear H_v16;go_wp2_with (with_reducible refine zT ?_)
 refine zaX rfl 49 #[(0,.const (.int .i64 2))] rfl #[I 2,I 0] (by kernel_rfl) (fun v17 H_v17=>?_);obtain rfl:=H_v17.o;clear H_v17;go_wp2_with (with_reducible refine zT ?_)
 refine zaX rfl 49 #[(0,.const (.int .i64 2))] rfl #[I 2,I 0] (by kernel_rfl) (fun v18 H_v18=>?_);obtain rfl:=H_v18.o;clear H_v18;go_wp2_with (with_reducible refine zT ?_)
 refine zaX rfl 49 #[(0,.const (.int .i64 3))] rfl #[I 3,I 0] (by kernel_rfl) (fun v19 H_v19=>?_);obtain rfl:=H_v19.o;clear H_v19;go_wp2_with (with_reducible refine zT ?_)
 refine zaX rfl 49 #[(0,.const (.int .i64 4))] rfl #[I 4,I 0] (by kernel_rfl) (fun v20 H_v20=>?_);obtain rfl:=H_v20.o;clear H_v20;go_wp2_with (with_reducible refine zT ?_)
 refine zaX rfl 49 #[(0,.const (.int .i64 1))] rfl #[I 1,I 0] (by kernel_rfl) (fun v21 H_v21=>?_);obtain rfl:=H_v21.o;clear H_v21;go_wp2_with (with_reducible refine zT ?_)
 unfold Hid;refine zcw rfl 49 6 #[I 1,I 0,I 2,I 0,I 2,I 0,I 3,I 0,I 4,I 0,I 1,I 0] (by kernel_rfl) (fun b22 w7_ M7=>?_);replace zad:=zwl M6 (zmo M5 zad) zaY;have zqB:=zld zav M7;obtain ⟨C111,HC111⟩:=zEx C11 b22;have ztd:=zNn HC111;replace EW:=zwe M6 (zet EW M5) zcN;have ziK:=zmb M7;go_wp2_with fail
 replace X1:=zhd ((zMD HC111 M7 (zHw M6 (zhd ((zMD HC11 M5 (zHw M4 (zhd ((zMD HC1 M3 X1).o.ext M3.o.ext)) zat)).o.ext M5.o.ext)) za9)).o.ext M7.o.ext);replace zat:=znw HC111 (znw HC11 zat);replace za9:=znw HC111 za9;replace zad:=zmo M7 zad;replace zav:=zmo M7 zav;replace EW:=zet EW M7;go_loopw [24] (fun i wr=>∃ (k:Nat) (E:Nat->Prop) (c' u' a' p' box' plan' cl':Value),k<=6/\i=I k/\RdM E wr (aX k) c' u' a' p' box' plan' cl'/\¬ E b1/\¬ E b3/\wr.heap[b1]?=some (.cells #[.slice ca1 (aX 0).store.cells.length cc1,.slice ua1 (aX 0).store.undo.length uc1,.slice aa1 (aX 0).store.answers.length ac1,.slice pa1 (aX 0).store.past.length pc1,I (aX 0).server.gen,.slice xa1 (aX 0).server.box.length xc1,.bool (aX 0).server.busy,I (aX 0).server.now.client,I (aX 0).server.now.token,I (aX 0).server.now.call.kind,I (aX 0).server.now.call.name,I (aX 0).server.now.call.other,I (aX 0).server.now.call.n,.slice la1 (aX 0).server.plan.length lc1,I (aX 0).server.says.err,I (aX 0).server.says.n,.bool (aX 0).up,I (aX 0).pause,I (aX 0).falls,.slice ka1 (aX 0).clients.length kc1] 44 (0,0))/\wr.heap[b3]?=some (.cells (zaH (aX k) c' u' a' p' box' plan' cl').toArray 44 (0,0))/\wr.heap[b22]?=some (.cells #[I 1,I 0,I 2,I 0,I 2,I 0,I 3,I 0,I 4,I 0,I 1,I 0] 49 (0,0))/\Ext w wr) (fun i _=>6 - (intOf i).toNat)
 case atStart=>exact ⟨0,C111,_,_,_,_,_,_,_,Nat.zero_le _,rfl,X1.o,zat.o,za9.o,zad.o,zav.o,ziK.o,EW.o⟩
 case round =>
  obtain ⟨k,E,c',u',a',p',box',plan',cl',hk,rfl,hX,n1,n3,hb1,hb3,hb22,hex⟩:=hrel;clear zad zav ziK X1 zat za9 ztd EW;obtain ⟨ca0,cc0,ua0,uc0,aa0,ac0,pa0,pc0,xa0,xc0,la0,lc0,ka0,kc0,rfl,rfl,rfl,rfl,rfl,rfl,rfl⟩:=hX.slices;have X:=zhd hX;have zat:=zhd n1;have za9:=zhd n3;have zad:=zhd hb1;have zav:Hid (wr.heap[b3]?=some (.cells #[.slice ca0 (aX k).store.cells.length cc0,.slice ua0 (aX k).store.undo.length uc0,.slice aa0 (aX k).store.answers.length ac0,.slice pa0 (aX k).store.past.length pc0,I (aX k).server.gen,.slice xa0 (aX k).server.box.length xc0,.bool (aX k).server.busy,I (aX k).server.now.client,I (aX k).server.now.token,I (aX k).server.now.call.kind,I (aX k).server.now.call.name,I (aX k).server.now.call.other,I (aX k).server.now.call.n,.slice la0 (aX k).server.plan.length lc0,I (aX k).server.says.err,I (aX k).server.says.n,.bool (aX k).up,I (aX k).pause,I (aX k).falls,.slice ka0 (aX k).clients.length kc0] 44 (0,0))):=hb3;have ziK:=zhd hb22;have EW:=zhd hex;clear hX n1 n3 hb1 hb3 hb22 hex;by_cases hlt:k < 6
  ·obtain ⟨sk,sn,hst,c0,c1⟩:∃ sk sn,zpL[k]?=some (sk,sn)/\wr.cell? ⟨b22,k * 2,none⟩=some (I sk)/\wr.cell? ⟨b22,k * 2+1,none⟩=some (I sn):=by
    have hc:k=0∨k=1∨k=2∨k=3∨k=4∨k=5:=by omega
    rcases hc with rfl | rfl | rfl | rfl | rfl | rfl
    ·exact ⟨_,_,rfl,zaa (i:=0) ziK.o rfl,zaa (i:=1) ziK.o rfl⟩
    ·exact ⟨_,_,rfl,zaa (i:=2) ziK.o rfl,zaa (i:=3) ziK.o rfl⟩
    ·exact ⟨_,_,rfl,zaa (i:=4) ziK.o rfl,zaa (i:=5) ziK.o rfl⟩
    ·exact ⟨_,_,rfl,zaa (i:=6) ziK.o rfl,zaa (i:=7) ziK.o rfl⟩
    ·exact ⟨_,_,rfl,zaa (i:=8) ziK.o rfl,zaa (i:=9) ziK.o rfl⟩
    ·exact ⟨_,_,rfl,zaa (i:=10) ziK.o rfl,zaa (i:=11) ziK.o rfl⟩
   have HDX:=zhd (zs6 hst);have hli:(k:Int) < 6:=by omega
   have hl0:(0:Int)<=(k:Int):=by omega
   have HLT:=zhd hlt;clear hst hlt hk;go_wp2_with (with_reducible refine zT ?_)
   clear c0 c1 hli hl0;refine zae rfl 49 #[I 0,I 0] (by kernel_rfl) (fun b5 w101_ M101=>?_);have zcQ:=zld zad M101;have zjj:=zld zav M101;have zp8:=zld ziK M101;obtain ⟨E1,HE1⟩:=zEx E b5;have zdM:=zNn HE1;have zhU:=zOn M101 EW;have zba:=zmb M101;go_wp2_with (with_reducible refine zT ?_)
   refine zac rfl 49 (.tmp 5) (.tmp 27) rfl b5 rfl [I sk,I sn] (rfl) zba rfl zqV rfl (fun w102_ M102=>?_);replace zba:=zwb M102;go_wp2_with (with_reducible refine zT ?_)
   replace zav:=zwl M102 (zmo M101 zav) zjj;refine zah rfl 44 (.tmp 3) rfl b3 rfl zav zaS zaG (fun v29 H_v29=>?_);have s0:=zaa (i:=0) zba.o rfl;have s1:=zaa (i:=1) zba.o rfl;go_wp2_with fail
   clear s0 s1;rw [H_v29.o];clear H_v29;replace X:=zHw M102 (zhd ((zMD HE1 M101 X).o.ext M101.o.ext)) zdM;obtain ⟨G,HG⟩:∃ X:Nat->Prop,Hid (∀ k,X k↔(E1 k∨w102_.heap.size<=k)):=⟨_,fun _=>Iff.rfl⟩;replace X:=zhd (X.o.widen (B:=G) fun k _ h=>(HG.o k).2 (.inl h));replace zat:=znw HE1 zat;replace zad:=zwl M102 (zmo M101 zad) zcQ;replace zat:Hid (¬ G b1):=ziy HG zat zad;replace za9:=znw HE1 za9;replace za9:Hid (¬ G b3):=ziy HG za9 zav;replace zdM:Hid (¬ G b5):=ziy HG zdM zba;refine (HDO.o l10 (aX k) k _ _ _ _ _ _ _ sk sn w102_ G X.o (ztf k (by have:=HLT.o; omega)) (by have:=HLT.o; omega)).to fun r w3 e3 hr=>?_;have hdx:doM (aX k) sk sn=(aX (k+1),0):=HDX.o;rw [hdx] at hr;clear hdx;obtain ⟨cs,rfl,hcs⟩:=zdC hr;obtain ⟨c2,u2,a2,p2,box2,plan2,cl2,rfl,hM⟩:=zbX hcs;obtain ⟨ca2,cc2,ua2,uc2,aa2,ac2,pa2,pc2,xa2,xc2,la2,lc2,ka2,kc2,rfl,rfl,rfl,rfl,rfl,rfl,rfl⟩:=hM.slices;have Y:=zhd (hM.widen (B:=G) fun k _ h=>(HG.o k).2 (by rcases h with h | h; exact (HG.o k).1 h; exact .inr h));clear hr hcs hM;replace ziK:=zbx (zwl M102 (zmo M101 ziK) zp8) e3;replace EW:=zhd ((zwe M102 (zet EW M101) zhU).o.trans e3);replace zad:=zbx zad e3;replace zav:=zbx zav e3;replace zba:=zbx zba e3;replace X:=zhd (X.o.ext e3);clear e3;go_wp2_with (with_reducible refine zT ?_)
   refine zae rfl 44 zM (by kernel_rfl) (fun b6 w103_ M103=>?_);have zlD:=zld zad M103;have zsb:=zld zav M103;have zqO:=zld ziK M103;obtain ⟨G1,HG1⟩:=zEx G b6;have zpk:=zNn HG1;have zsG:=zOn M103 EW;have zgx:=zmb M103;go_wp2_with (with_reducible refine zT ?_)
   refine zac rfl 44 (.tmp 6) (.tmp 32) rfl b6 rfl [.slice ca2 (aX (k+1)).store.cells.length cc2,.slice ua2 (aX (k+1)).store.undo.length uc2,.slice aa2 (aX (k+1)).store.answers.length ac2,.slice pa2 (aX (k+1)).store.past.length pc2,I (aX (k+1)).server.gen,.slice xa2 (aX (k+1)).server.box.length xc2,.bool (aX (k+1)).server.busy,I (aX (k+1)).server.now.client,I (aX (k+1)).server.now.token,I (aX (k+1)).server.now.call.kind,I (aX (k+1)).server.now.call.name,I (aX (k+1)).server.now.call.other,I (aX (k+1)).server.now.call.n,.slice la2 (aX (k+1)).server.plan.length lc2,I (aX (k+1)).server.says.err,I (aX (k+1)).server.says.n,.bool (aX (k+1)).up,I (aX (k+1)).pause,I (aX (k+1)).falls,.slice ka2 (aX (k+1)).clients.length kc2] (rfl) zgx rfl zaG rfl (fun w104_ M104=>?_);replace zgx:=zwb M104;go_wp2_with (with_reducible refine zT ?_)
   refine zah rfl 44 (.tmp 6) rfl b6 rfl zgx zaS zaG (fun v36 H_v36=>?_);go_wp2_with (with_reducible refine zT ?_)
   replace zav:=zwl M104 (zmo M103 zav) zsb;refine zac rfl 44 (.tmp 3) (.tmp 36) rfl b3 rfl _ (zcv H_v36) zav rfl zaG rfl (fun w105_ M105=>?_);replace zav:=zwb M105;replace za9:=znw HG1 za9;have hkb:k < 1000:=by have q:=HLT.o; omega
   go_wp2
   replace Y:=zHw M105 (zHw M104 (zhd ((zMD HG1 M103 Y).o.ext M103.o.ext)) zpk) za9;replace zat:=znw HG1 zat;replace zad:=zwl M105 (zwl M104 (zmo M103 zad) zlD) zaY;replace ziK:=zwg M105 (zwl M104 (zmo M103 ziK) zqO) zqB;replace EW:=zwe M105 (zwe M104 (zet EW M103) zsG) zcN;go_roundw
   case rel=>exact ⟨k+1,G1,_,_,_,_,_,_,_,HLT.o,by go_num,Y.o,zat.o,za9.o,zad.o,zav.o,ziK.o,EW.o⟩
   case measure=>have:=HLT.o; simp [intOf]; omega
  ·obtain rfl:k=6:=by omega
   obtain ⟨ya,yc,q,-,-,hfm⟩:=X.o.cells.o.form;obtain ⟨yb,yo,rfl,hc9⟩:=hfm 1 (by decide);replace q:(Value.slice ca0 11 cc0)=.slice (some ⟨yb,yo,none⟩) 11 yc:=q;simp only [Value.slice.injEq,true_and] at q;obtain ⟨rfl,rfl⟩:=q;replace hc9:wr.cell? ⟨yb,yo+1,none⟩=some (I 0):=hc9;have g19:wr.cell? ⟨b1,19,none⟩=some (.slice ka1 1 kc1):=zaa (i:=19) zad.o rfl;have g16:wr.cell? ⟨b1,16,none⟩=some (.bool true):=zaa (i:=16) zad.o rfl;have f4:wr.cell? ⟨b3,4,none⟩=some (I 1):=zaa (i:=4) zav.o rfl;have f5:wr.cell? ⟨b3,5,none⟩=some (.slice xa0 1 xc0):=zaa (i:=5) zav.o rfl;have f0:wr.cell? ⟨b3,0,none⟩=some (.slice (some ⟨yb,yo,none⟩) 11 cc0):=zaa (i:=0) zav.o rfl;clear hfm hlt hk;go_wp2
   go_ret
   exact ⟨rfl,EW.o⟩

end Go.Proofs.YtdmipnnfoolelafGreat
