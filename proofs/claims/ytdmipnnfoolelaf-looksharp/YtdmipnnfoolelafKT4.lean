/- Texts of the proof, merged: Q2 Q4 QG. -/
import Derived.Test.YtdmipnnfoolelafKTA
import Derived.Test.YtdmipnnfoolelafKTZ
import Derived.Test.YtdmipnnfoolelafKT3
set_option maxHeartbeats 8000000
set_option maxRecDepth 100000

namespace Go.Proofs.Ytdmipnnfoolelaf
open Go.RowKit Go.Mk

def l11:List (List Cl):=[[⟨5,0,0,0⟩]]
def m11:Mc:=newMc l11
def zgN:Mc:={ m11 with store:={ m11.store with past:=[⟨0,0,⟨5,0,0,0⟩⟩] } }
def zj4:Mc:={ zgN with store:={ zgN.store with cells:=[1,7,5,0,0,0,0,0,0,0,0] } }
theorem r11:zbm l11:=⟨by decide,fun c hc=>by
 rw [List.mem_singleton.1 hc]
 exact ⟨by decide,fun x hx=>by rw [List.mem_singleton.1 hx]; decide⟩⟩
theorem n11:zlw l11=m11:=if_pos (zfN r11)
theorem zmt (xs:List Int) (hx:xs.length=11) (h0:0<=xs.getD 0 0) (h5:xs.getD 0 0<=5):LookM { zgN with store:={ zgN.store with cells:=xs } }:=by
 have hg:GoodC (zcC [⟨5,0,0,0⟩]):=⟨Int.le_refl _,(by decide:(0:Int)<=900),⟨(by decide:1<=8),fun x hx=>by rw [List.mem_singleton.1 hx]; decide⟩,Nat.zero_le _,Nat.zero_le _,fun b hb=>by cases hb⟩
 have hs:zmW (zcC [⟨5,0,0,0⟩]):=⟨(by decide:1<=1000000),Nat.zero_le _,fun b hb=>(by cases hb),Nat.zero_le _⟩
 refine ⟨hx,⟨h0,h5⟩,fun r hr=>?_,(by decide:1<=1000),⟨⟨?_,(by decide:0 * 16<=100000000000000),(by decide:0 * 32<=100000000000000),(by decide:1 * 48<=100000000000000)⟩,⟨Nat.zero_le _,fun b hb=>(by cases hb),Nat.zero_le _⟩,(by decide:1<=1000),fun c hc=>?_⟩,fun c hc=>?_⟩
 ·have hr':r ∈ [(⟨0,0,⟨5,0,0,0⟩⟩:Rq)]:=hr
  rw [List.mem_singleton.1 hr']
  decide
 ·show xs.length * 8<=_
  omega
 ·have hc':c ∈ [zcC [⟨5,0,0,0⟩]]:=hc
  rw [List.mem_singleton.1 hc']
  exact hs
 ·have hc':c ∈ [zcC [⟨5,0,0,0⟩]]:=hc
  rw [List.mem_singleton.1 hc']
  exact hg
theorem ziX:LookM zgN:=zmt newSt.cells rfl (by decide) (by decide)
theorem zlb:LookM zj4:=zmt [1,7,5,0,0,0,0,0,0,0,0] rfl (by decide) (by decide)
theorem zmz:zd6 zgN:=by
 refine ⟨rfl,fun i c hc=>?_⟩
 match i,hc with
 | 0,hc =>
  have hc:some (zcC [⟨5,0,0,0⟩])=some c:=hc
  cases hc
  refine ⟨rfl,.inr rfl,fun k hk=>?_,rfl⟩
  have hk:k < 1:=hk
  obtain rfl:k=0:=by omega
  exact ⟨by decide,rfl,rfl⟩
 | i+1,hc=>exact absurd hc (by simp [zgN,m11,newMc,l11])
theorem zmO:¬ zd6 zj4:=fun h=>by
 have q:[((7:Int),(5:Int))]=[]:=h.1
 cases q

theorem zfE (hNow:zjn) (hPast:zf1) (hIdle:zhl) (hWhole:zf9) (w:World):zba Try.prog 17 #[] w fun r _=>r=.bool true:=by
 refine zb6 ?_;have HNO:=zhd hNow;have HPO:=zhd hPast;have HIO:=zhd hIdle;have HWO:=zhd hWhole;clear hNow hPast hIdle hWhole;have EW:=zhd (Ext.refl w);go_enter Try.func17,Try.ntmps17
 go_wp2_with (with_reducible refine zT ?_)
 refine zbd rfl 33 #[(0,.const (.int .i64 5))] rfl #[I 5,I 0,I 0,I 0] (by kernel_rfl) (fun v7 H_v7=>?_);obtain rfl:=H_v7.o;clear H_v7;go_wp2_with (with_reducible refine zT ?_)
 unfold Hid;refine zbQ rfl 33 1 #[I 5,I 0,I 0,I 0] (by kernel_rfl) (fun bq w1_ M1=>?_);have zoS:=zmb M1;go_wp2_with (with_reducible refine zT ?_)
 unfold Hid;have HC:Hid (zaq 4 zfa w1_ (.slice (some ⟨bq,0,none⟩) 1 1) [⟨5,0,0,0⟩]):=(zbz (f:=fun (x:Cl)=>[I x.kind,I x.name,I x.other,I x.n]) (fun _=>rfl)).2 (Row.of_owns (zbC M1.o (Nat.le_refl _) rfl (by decide)));refine zbQ rfl 59 1 #[.slice (some ⟨bq,0,none⟩) 1 1] (by kernel_rfl) (fun bl w2_ M2=>?_);have zn3:=zmb M2;obtain ⟨B,HB0⟩:∃ B:Nat->Prop,Hid (∀ k,B k↔True):=⟨_,fun _=>Iff.rfl⟩
 have hv:zaq 1 zdb w2_ (.slice (some ⟨bl,0,none⟩) 1 1) l11:=⟨[[.slice (some ⟨bq,0,none⟩) 1 1]],⟨rfl,fun i c x hc hx=>by
  match i,hc,hx with
  | 0,hc,hx=>cases hc; cases hx; exact ⟨rfl,_,rfl,HC.o.ext zj5 M2.o.ext⟩
  | i+1,hc,hx=>simp at hc⟩,Row.of_owns (zbC M2.o (Nat.le_refl _) rfl (by decide))⟩
 have HV:=zhd (Rd.widen (B:=B) (Rd.of (zcS zgb _ _) hv) (fun k _ _=>(HB0.o k).2 trivial));clear hv HC zoS zn3;go_wp2_with fail
 obtain ⟨C,HC⟩:∃ X:Nat->Prop,Hid (∀ k,X k↔(B k∨w2_.heap.size<=k)):=⟨_,fun _=>Iff.rfl⟩;replace HV:=zhd (HV.o.widen (B:=C) fun k _ h=>(HC.o k).2 (.inl h));refine (zeG _ l11 w2_ C HV.o).to fun r w2 e2 hr=>?_;obtain ⟨c1,u1,a1,p1,box1,plan1,cl1,rfl,hM,-⟩:=znk hr n11;rw [zfN r11];obtain ⟨ca1,cc1,ua1,uc1,aa1,ac1,pa1,pc1,xa1,xc1,la1,lc1,ka1,kc1,rfl,rfl,rfl,rfl,rfl,rfl,rfl⟩:=hM.slices;have X1:=zhd (hM.widen (B:=C) fun k _ h=>(HC.o k).2 (by rcases h with h | h; exact (HC.o k).1 h; exact .inr h));clear hr hM HV;replace EW:=zhd ((zet (zet EW M1) M2).o.trans e2);clear e2;go_wp2_with (with_reducible refine zT ?_)
 refine zah rfl 43 zM (by kernel_rfl) (fun b1 w3_ M3=>?_);obtain ⟨C1,HC1⟩:=zEx C b1;have zaD:=zNn HC1;have zbu:=zOn M3 EW;have zad:=zmb M3;go_wp2_with (with_reducible refine zT ?_)
 refine zaf rfl 43 (.tmp 1) (.tmp 11) rfl b1 rfl [.slice ca1 m11.store.cells.length cc1,.slice ua1 m11.store.undo.length uc1,.slice aa1 m11.store.answers.length ac1,.slice pa1 m11.store.past.length pc1,I m11.server.gen,.slice xa1 m11.server.box.length xc1,.bool m11.server.busy,I m11.server.now.client,I m11.server.now.token,I m11.server.now.call.kind,I m11.server.now.call.name,I m11.server.now.call.other,I m11.server.now.call.n,.slice la1 m11.server.plan.length lc1,I m11.server.says.err,I m11.server.says.n,.bool m11.up,I m11.pause,I m11.falls,.slice ka1 m11.clients.length kc1] (rfl) zad rfl za2 rfl (fun w4_ M4=>?_);replace zad:=zwb M4;go_wp2_with (with_reducible refine zT ?_)
 refine zbd rfl 33 #[(0,.const (.int .i64 5))] rfl #[I 5,I 0,I 0,I 0] (by kernel_rfl) (fun v13 H_v13=>?_);obtain rfl:=H_v13.o;clear H_v13;go_wp2_with (with_reducible refine zT ?_)
 refine zbd rfl 35 #[(2,.tmp 13)] rfl #[I 0,I 0,I 5,I 0,I 0,I 0] (by kernel_rfl) (fun v14 H_v14=>?_);obtain rfl:=H_v14.o;clear H_v14;go_wp2_with (with_reducible refine zT ?_)
 unfold Hid;refine zbQ rfl 35 1 #[I 0,I 0,I 5,I 0,I 0,I 0] (by kernel_rfl) (fun bp w5_ M5=>?_);have zoE:=zld zad M5;have zoP:=zmb M5;have hpr:zaq 6 zes w5_ (.slice (some ⟨bp,0,none⟩) 1 1) [⟨0,0,⟨5,0,0,0⟩⟩]:=(zbz (f:=fun (x:Rq)=>[I x.client,I x.token,I x.call.kind,I x.call.name,I x.call.other,I x.call.n]) (fun _=>rfl)).2 (Row.of_owns (zbC (base:=0) M5.o (Nat.zero_le _) rfl (by decide)));have hne:bp≠b1:=Nat.ne_of_gt zoE.o;obtain ⟨D,HD⟩:∃ X:Nat->Prop,Hid (∀ k,X k↔k≠b1):=⟨_,fun _=>Iff.rfl⟩;have PR:=zhd (zg1 (B:=D) (zbC (base:=0) (size:=6) M5.o (Nat.zero_le _) rfl (by decide)) ((HD.o bp).2 hne));replace X1:=zhd ((zHw M4 (zhd ((zMD HC1 M3 X1).o.ext M3.o.ext)) zaD).o.ext M5.o.ext);replace X1:=zhd (X1.o.widen (B:=D) fun k _ h=>(HD.o k).2 (fun e=>by subst e; exact zaD.o h));replace zaD:Hid (¬ D b1):=fun h=>(HD.o b1).1 h rfl;clear hpr hne;clear zoP;go_wp2_with (with_reducible refine zT ?_)
 replace zad:=zmo M5 zad;refine zap rfl 28 (.tmp 17) (.tmp 15) rfl b1 3 rfl [.slice (some ⟨bp,0,none⟩) 1 1] (rfl) zad rfl zoC rfl [.slice ca1 m11.store.cells.length cc1,.slice ua1 m11.store.undo.length uc1,.slice aa1 m11.store.answers.length ac1,.slice (some ⟨bp,0,none⟩) 1 1,I m11.server.gen,.slice xa1 m11.server.box.length xc1,.bool m11.server.busy,I m11.server.now.client,I m11.server.now.token,I m11.server.now.call.kind,I m11.server.now.call.name,I m11.server.now.call.other,I m11.server.now.call.n,.slice la1 m11.server.plan.length lc1,I m11.server.says.err,I m11.server.says.n,.bool m11.up,I m11.pause,I m11.falls,.slice ka1 m11.clients.length kc1] rfl (fun w6_ M6=>?_);replace zad:=zwb M6;replace X1:=zHw M6 X1 zaD;replace PR:=zwr M6 PR zaD
 have XA:Hid (RdM D w6_ zgN (.slice ca1 m11.store.cells.length cc1) (.slice ua1 m11.store.undo.length uc1) (.slice aa1 m11.store.answers.length ac1) (.slice (some ⟨bp,0,none⟩) 1 1) (.slice xa1 m11.server.box.length xc1) (.slice la1 m11.server.plan.length lc1) (.slice ka1 m11.clients.length kc1)) :=
  ⟨X1.o.cells,X1.o.undo,X1.o.answers,PR.o.imp fun _ h=>(zbz (f:=fun (x:Rq)=>[I x.client,I x.token,I x.call.kind,I x.call.name,I x.call.other,I x.call.n]) (fun _=>rfl)).2 h,X1.o.box,X1.o.plan,X1.o.clients⟩
 clear X1 PR;go_wp2_with (with_reducible refine zT ?_)
 refine zai rfl 43 (.tmp 1) rfl b1 rfl zad zbf za2 (fun v19 H_v19=>?_);go_wp2_with fail
 rw [show _=Value.agg (zaO zgN (.slice ca1 m11.store.cells.length cc1) (.slice ua1 m11.store.undo.length uc1) (.slice aa1 m11.store.answers.length ac1) (.slice (some ⟨bp,0,none⟩) 1 1) (.slice xa1 m11.server.box.length xc1) (.slice la1 m11.server.plan.length lc1) (.slice ka1 m11.clients.length kc1)).toArray from H_v19.o];clear H_v19;refine (HPO.o zgN _ _ _ _ _ _ _ 0 w6_ D XA.o ziX).to fun r w3 e3 hr=>?_;obtain ⟨x,y,rfl,hx,hy⟩:=hr;obtain ⟨sxa,sxc,qx⟩:=zac hx;obtain ⟨sya,syc,qy⟩:=zac hy;replace qx:x=.slice sxa 1 sxc:=qx;replace qy:y=.slice sya 1 syc:=qy;subst qx qy;clear hx hy;replace EW:=zhd ((zwe M6 (zet (zwe M4 (zet EW M3) zbu) M5) zbu).o.trans e3);replace zad:=zbx zad e3;replace XA:=zhd (XA.o.ext e3);clear e3;go_wp2_with (with_reducible refine zT ?_)
 refine zai rfl 43 (.tmp 1) rfl b1 rfl zad zbf za2 (fun v23 H_v23=>?_);go_wp2_with (with_reducible refine zT ?_)
 refine zah rfl 43 zM (by kernel_rfl) (fun b5 w7_ M7=>?_);have zcN:=zld zad M7;obtain ⟨D1,HD1⟩:=zEx D b5;have zhP:=zNn HD1;have zlu:=zOn M7 EW;have zbq:=zmb M7;go_wp2_with (with_reducible refine zT ?_)
 refine zaf rfl 43 (.tmp 5) (.tmp 23) rfl b5 rfl _ (zcv H_v23) zbq rfl za2 rfl (fun w8_ M8=>?_);replace zbq:=zwb M8;go_wp2_with (with_reducible refine zT ?_)
 unfold Hid;refine zbQ rfl 3 11 #[I 1,I 7,I 5,I 0,I 0,I 0,I 0,I 0,I 0,I 0,I 0] (by kernel_rfl) (fun bc w9_ M9=>?_);replace zad:=zwl M8 (zmo M7 zad) zcN;have zoH:=zld zad M9;have zoI:=zld zbq M9;have zoR:=zmb M9;have hne:bc≠b1:=Nat.ne_of_gt zoH.o;have hne5:bc≠b5:=Nat.ne_of_gt zoI.o;obtain ⟨E,HE⟩:∃ X:Nat->Prop,Hid (∀ k,X k↔(k≠b1/\k≠b5)):=⟨_,fun _=>Iff.rfl⟩;have CR:=zhd (zg1 (B:=E) (n:=11) (zbC (base:=0) (size:=1) (n:=11) M9.o (Nat.zero_le _) rfl (by decide)) ((HE.o bc).2 ⟨hne,hne5⟩));replace XA:=zhd ((zHw M8 (zhd ((zMD HD1 M7 XA).o.ext M7.o.ext)) zhP).o.ext M9.o.ext);replace zaD:=znw HD1 zaD;replace XA:=zhd (XA.o.widen (B:=E) fun k _ h=>(HE.o k).2 ⟨fun e=>by subst e; exact zaD.o h,fun e=>by subst e; exact zhP.o h⟩);replace zaD:Hid (¬ E b1):=fun h=>((HE.o b1).1 h).1 rfl;replace zhP:Hid (¬ E b5):=fun h=>((HE.o b5).1 h).2 rfl;clear hne hne5 zoR;go_wp2_with (with_reducible refine zT ?_)
 replace zbq:=zmo M9 zbq;refine zap rfl 25 (.tmp 26) (.tmp 24) rfl b5 0 rfl [.slice (some ⟨bc,0,none⟩) 11 11] (rfl) zbq rfl zow rfl [.slice (some ⟨bc,0,none⟩) 11 11,.slice ua1 m11.store.undo.length uc1,.slice aa1 m11.store.answers.length ac1,.slice (some ⟨bp,0,none⟩) 1 1,I m11.server.gen,.slice xa1 m11.server.box.length xc1,.bool m11.server.busy,I m11.server.now.client,I m11.server.now.token,I m11.server.now.call.kind,I m11.server.now.call.name,I m11.server.now.call.other,I m11.server.now.call.n,.slice la1 m11.server.plan.length lc1,I m11.server.says.err,I m11.server.says.n,.bool m11.up,I m11.pause,I m11.falls,.slice ka1 m11.clients.length kc1] rfl (fun w10_ M10=>?_);replace zbq:=zwb M10;replace XA:=zHw M10 XA zhP;replace CR:=zwr M10 CR zhP
 have XB:Hid (RdM E w10_ zj4 (.slice (some ⟨bc,0,none⟩) 11 11) (.slice ua1 m11.store.undo.length uc1) (.slice aa1 m11.store.answers.length ac1) (.slice (some ⟨bp,0,none⟩) 1 1) (.slice xa1 m11.server.box.length xc1) (.slice la1 m11.server.plan.length lc1) (.slice ka1 m11.clients.length kc1)) :=
  ⟨CR.o,XA.o.undo,XA.o.answers,XA.o.past,XA.o.box,XA.o.plan,XA.o.clients⟩
 clear CR;go_wp2_with (with_reducible refine zT ?_)
 replace zad:=zwl M10 (zmo M9 zad) zcN;refine zai rfl 43 (.tmp 1) rfl b1 rfl zad zbf za2 (fun v27 H_v27=>?_);go_wp2_with fail
 rw [show _=Value.agg (zaO zgN (.slice ca1 m11.store.cells.length cc1) (.slice ua1 m11.store.undo.length uc1) (.slice aa1 m11.store.answers.length ac1) (.slice (some ⟨bp,0,none⟩) 1 1) (.slice xa1 m11.server.box.length xc1) (.slice la1 m11.server.plan.length lc1) (.slice ka1 m11.clients.length kc1)).toArray from H_v27.o];clear H_v27;refine (HWO.o zgN _ _ _ _ _ _ _ w10_ E XA.o ziX).to fun r w4 e4 hr=>?_;obtain ⟨b,rfl,hb⟩:=hr;obtain rfl:b=true:=hb.2 zmz;clear hb;replace EW:=zhd ((zwe M10 (zet (zwe M8 (zet EW M7) zlu) M9) zlu).o.trans e4);replace zad:=zbx zad e4;replace zbq:=zbx zbq e4;replace XA:=zhd (XA.o.ext e4);replace XB:=zhd (XB.o.ext e4);clear e4;go_wp2_with (with_reducible refine zT ?_)
 unfold Hid;refine zdG rfl 43 (.tmp 5) rfl b5 0 rfl zbq [.slice (some ⟨bc,0,none⟩) 11 11,.slice ua1 m11.store.undo.length uc1,.slice aa1 m11.store.answers.length ac1,.slice (some ⟨bp,0,none⟩) 1 1,I m11.server.gen,.slice xa1 m11.server.box.length xc1,.bool m11.server.busy,I m11.server.now.client,I m11.server.now.token,I m11.server.now.call.kind,I m11.server.now.call.name,I m11.server.now.call.other,I m11.server.now.call.n,.slice la1 m11.server.plan.length lc1,I m11.server.says.err,I m11.server.says.n,.bool m11.up,I m11.pause,I m11.falls,.slice ka1 m11.clients.length kc1] rfl zbf za2 (fun v30 H_v30=>?_);go_wp2_with fail
 rw [show _=Value.agg (zaO zj4 (.slice (some ⟨bc,0,none⟩) 11 11) (.slice ua1 m11.store.undo.length uc1) (.slice aa1 m11.store.answers.length ac1) (.slice (some ⟨bp,0,none⟩) 1 1) (.slice xa1 m11.server.box.length xc1) (.slice la1 m11.server.plan.length lc1) (.slice ka1 m11.clients.length kc1)).toArray from H_v30.o];clear H_v30;refine (HWO.o zj4 _ _ _ _ _ _ _ w4 E XB.o zlb).to fun r w5 e5 hr=>?_;obtain ⟨b,rfl,hb⟩:=hr
 obtain rfl:b=false:=by
  cases b
  ·rfl
  ·exact absurd (hb.1 rfl) zmO
 clear hb;replace zad:=zbx zad e5;replace zbq:=zbx zbq e5;replace XA:=zhd (XA.o.ext e5);replace XB:=zhd (XB.o.ext e5);replace EW:=zhd (EW.o.trans e5);clear e5;go_wp2_with (with_reducible refine zT ?_)
 unfold Hid;refine zdG rfl 43 (.tmp 1) rfl b1 0 rfl zad [.slice ca1 m11.store.cells.length cc1,.slice ua1 m11.store.undo.length uc1,.slice aa1 m11.store.answers.length ac1,.slice (some ⟨bp,0,none⟩) 1 1,I m11.server.gen,.slice xa1 m11.server.box.length xc1,.bool m11.server.busy,I m11.server.now.client,I m11.server.now.token,I m11.server.now.call.kind,I m11.server.now.call.name,I m11.server.now.call.other,I m11.server.now.call.n,.slice la1 m11.server.plan.length lc1,I m11.server.says.err,I m11.server.says.n,.bool m11.up,I m11.pause,I m11.falls,.slice ka1 m11.clients.length kc1] rfl zbf za2 (fun v35 H_v35=>?_);go_wp2_with fail
 rw [show _=Value.agg (zaO zgN (.slice ca1 m11.store.cells.length cc1) (.slice ua1 m11.store.undo.length uc1) (.slice aa1 m11.store.answers.length ac1) (.slice (some ⟨bp,0,none⟩) 1 1) (.slice xa1 m11.server.box.length xc1) (.slice la1 m11.server.plan.length lc1) (.slice ka1 m11.clients.length kc1)).toArray from H_v35.o];clear H_v35;refine (HIO.o zgN _ _ _ _ _ _ _ w5 E XA.o ziX).to fun r w6 e6 hr=>?_;replace hr:r=.bool false:=hr;subst hr;replace zad:=zbx zad e6;replace zbq:=zbx zbq e6;replace XA:=zhd (XA.o.ext e6);replace XB:=zhd (XB.o.ext e6);replace EW:=zhd (EW.o.trans e6);clear e6;go_wp2_with (with_reducible refine zT ?_)
 unfold Hid;refine zdG rfl 43 (.tmp 5) rfl b5 0 rfl zbq [.slice (some ⟨bc,0,none⟩) 11 11,.slice ua1 m11.store.undo.length uc1,.slice aa1 m11.store.answers.length ac1,.slice (some ⟨bp,0,none⟩) 1 1,I m11.server.gen,.slice xa1 m11.server.box.length xc1,.bool m11.server.busy,I m11.server.now.client,I m11.server.now.token,I m11.server.now.call.kind,I m11.server.now.call.name,I m11.server.now.call.other,I m11.server.now.call.n,.slice la1 m11.server.plan.length lc1,I m11.server.says.err,I m11.server.says.n,.bool m11.up,I m11.pause,I m11.falls,.slice ka1 m11.clients.length kc1] rfl zbf za2 (fun v50 H_v50=>?_);go_wp2_with fail
 rw [show _=Value.agg (zaO zj4 (.slice (some ⟨bc,0,none⟩) 11 11) (.slice ua1 m11.store.undo.length uc1) (.slice aa1 m11.store.answers.length ac1) (.slice (some ⟨bp,0,none⟩) 1 1) (.slice xa1 m11.server.box.length xc1) (.slice la1 m11.server.plan.length lc1) (.slice ka1 m11.clients.length kc1)).toArray from H_v50.o];clear H_v50;refine (HNO.o zj4 _ _ _ _ _ _ _ w6 E XB.o zlb).to fun r w7 e7 hr=>?_;obtain ⟨na,nc,qn⟩:=zam hr;replace qn:r=.slice na 1 nc:=qn;subst qn;clear hr;replace zad:=zbx zad e7;replace zbq:=zbx zbq e7;replace XA:=zhd (XA.o.ext e7);replace XB:=zhd (XB.o.ext e7);replace EW:=zhd (EW.o.trans e7);clear e7;go_wp2
 go_ret
 exact ⟨rfl,EW.o⟩

open Go.RowKit Go.Mk

theorem ziY (hNow:zjn) (hPast:zf1) (hIdle:zhl) (hWhole:zf9) (v0 v1:Value) (l:List (List Cl)) (steps:List (Int×Int)) (w:World) (h0:zaq 1 zdb w v0 l) (h1:zan w v1 steps) :
  zba Try.prog 4 #[v0,v1] w fun r _=>r=.bool true:=by
 refine zb6 ?_;have HV:=zhd (Rd.widen (B:=fun _=>True) (Rd.of (zcS zgb _ _) h0) (fun _ _ _=>trivial));replace HV:Hid (Rd (fun _=>True) (fun w=>zaq 1 zdb w v0 l) w):=HV;have HSTP:=zhd h1;obtain ⟨za,zc,rfl⟩:=zac h0;obtain ⟨ta,tc,rfl⟩:=zam h1;have HNO:=zhd hNow;have HPO:=zhd hPast;have HIO:=zhd hIdle;have HWO:=zhd hWhole;clear h0 h1 hNow hPast hIdle hWhole;have EW:=zhd (Ext.refl w);obtain ⟨B,HB0⟩:∃ B:Nat->Prop,Hid (∀ k,B k↔True):=⟨_,fun _=>Iff.rfl⟩;replace HV:=zhd (HV.o.widen (B:=B) fun k _ _=>(HB0.o k).2 trivial);go_enter Try.func4,Try.ntmps4
 go_wp2_with fail
 refine (zfE HNO.o HPO.o HIO.o HWO.o w).to fun r wl el hr=>?_;subst hr;replace HV:=zrx HV el;replace EW:=zhd (EW.o.trans el);clear el;go_wp2_with fail
 refine (zeP _ l wl HV.o.o).mono ?_;rintro e wr0 ⟨bR,rfl,hbR,e0⟩
 replace HV:=zrx HV e0;replace EW:=zhd (EW.o.trans e0);clear e0;cases bR
 case false =>
  go_wp2
  go_ret
  exact ⟨rfl,EW.o⟩
 have HRL:=zhd (hbR.1 rfl);clear hbR;go_wp2_with fail
 obtain ⟨P,HP⟩:∃ X:Nat->Prop,Hid (∀ k,X k↔(B k∨wr0.heap.size<=k)):=⟨_,fun _=>Iff.rfl⟩;replace HV:=zhd (HV.o.widen (B:=P) fun k _ h=>(HP.o k).2 (.inl h));refine (zej _ _ l steps wr0 P HRL.o HV.o (HSTP.o.ext EW.o)).to fun r wp ep hr=>?_;obtain ⟨cs,es,rfl,hm,hes⟩:=zi1 hr;obtain ⟨mk,hmk⟩:∃ mk,zdc (newMc l) (steps.take 400)=mk:=⟨_,rfl⟩;have hgd:=ziP HRL.o steps;rw [hmk] at hm hgd;obtain ⟨c,u,a,p,box,plan,cl,rfl,hM⟩:=zeT hm;obtain ⟨ca,cc,ua,uc,aa,ac,pa,pc,xa,xc,la,lc,ka,kc,rfl,rfl,rfl,rfl,rfl,rfl,rfl⟩:=hM.slices;have GD:=zhd hgd;obtain ⟨esa,esc,rfl⟩:=zam hes.o;have H:=zhd (hM.widen (B:=P) fun k _ h=>(HP.o k).2 (by rcases h with h | h; exact (HP.o k).1 h; exact .inr h));clear hM hm hr hes hmk hgd;replace HV:=zrx HV ep;replace EW:=zhd (EW.o.trans ep);clear ep;go_wp2_with (with_reducible refine zT ?_)
 refine zah rfl 43 zM (by kernel_rfl) (fun b5 w1_ M1=>?_);obtain ⟨P1,HP1⟩:=zEx P b5;have zhP:=zNn HP1;have zlu:=zOn M1 EW;have zbq:=zmb M1;go_wp2_with (with_reducible refine zT ?_)
 refine zaf rfl 43 (.tmp 5) (.tmp 16) rfl b5 rfl [.slice ca mk.store.cells.length cc,.slice ua mk.store.undo.length uc,.slice aa mk.store.answers.length ac,.slice pa mk.store.past.length pc,I mk.server.gen,.slice xa mk.server.box.length xc,.bool mk.server.busy,I mk.server.now.client,I mk.server.now.token,I mk.server.now.call.kind,I mk.server.now.call.name,I mk.server.now.call.other,I mk.server.now.call.n,.slice la mk.server.plan.length lc,I mk.server.says.err,I mk.server.says.n,.bool mk.up,I mk.pause,I mk.falls,.slice ka mk.clients.length kc] (rfl) zbq rfl za2 rfl (fun w2_ M2=>?_);replace zbq:=zwb M2;go_wp2_with (with_reducible refine zT ?_)
 refine zai rfl 43 (.tmp 5) rfl b5 rfl zbq zbf za2 (fun v18 H_v18=>?_);go_wp2_with fail
 rw [H_v18.o];clear H_v18;replace H:=zHw M2 (zhd ((zMD HP1 M1 H).o.ext M1.o.ext)) zhP;refine (HWO.o mk _ _ _ _ _ _ _ w2_ P1 H.o (ziv GD.o (by decide))).to fun r w3 e3 hr=>?_;obtain ⟨b,rfl,hb⟩:=hr;obtain rfl:b=true:=hb.2 (zjA GD.o);clear hb;replace HV:=zrx (zwr M2 (zme M1 (zmd HP1 M1 HV)) zhP) e3;replace EW:=zhd ((zwe M2 (zet EW M1) zlu).o.trans e3);replace zbq:=zbx zbq e3;replace H:=zhd (H.o.ext e3);clear e3;go_wp2
 go_ret
 exact ⟨rfl,EW.o⟩

open Go.RowKit Go.Mk

theorem zhH (v0 v1:Value) (l:List (List Cl)) (steps:List (Int×Int)) (w:World) (h0:zaq 1 zdb w v0 l) (h1:zan w v1 steps) :
  zba Try.prog 4 #[v0,v1] w fun r _=>r=.bool true:=ziY zkV ziH zkO ziU v0 v1 l steps w h0 h1

end Go.Proofs.Ytdmipnnfoolelaf
