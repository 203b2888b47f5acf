/- zbb of the proof, merged: G3 N15 S5 N18 G4 N10 N11 N12 N13 N14. -/
import Derived.Test.YtdmipnnfoolelagGreatDoorKTA
import Derived.Test.YtdmipnnfoolelagGreatDoorKTP
import Derived.Test.YtdmipnnfoolelagGreatDoorKTN
import Derived.Test.YtdmipnnfoolelagGreatDoorKTQ
import Derived.Test.YtdmipnnfoolelagGreatDoorKTF
import Derived.Test.YtdmipnnfoolelagGreatDoorKTO
import Derived.Test.YtdmipnnfoolelagGreatDoorKTM
import Derived.Deep.DeepCutAuto
set_option maxHeartbeats 2000000
set_option maxRecDepth 100000

namespace Go.Proofs.YtdmipnnfoolelagGreatDoor
open Go.RowKit Go.Mk

theorem zqn (n:Int) (w:World):zaw Tryz.prog 126 #[I n] w fun r _=>r=I (pauseOf n):=by
 unfold zaw
 have HP:Hid (pauseOf n=if n<=1 then 1 else if 3<=n then 3 else n):=by
  unfold Hid pauseOf;repeat' split
  all_goals omega
 generalize pauseOf n=pn at *;by_cases h1:n<=1
 ·obtain rfl:pn=1:=by have q:=HP.o; rw [if_pos h1] at q; exact q
  go_enter Tryz.func126,Tryz.ntmps126
  go_wp2
  go_ret
  refine ⟨_,rfl,Ext.refl _,?_⟩;simp <;> omega
 ·by_cases h3:3<=n
  ·obtain rfl:pn=3:=by have q:=HP.o; rw [if_neg h1,if_pos h3] at q; exact q
   go_enter Tryz.func126,Tryz.ntmps126
   go_wp2
   go_ret
   refine ⟨?_,Ext.refl _⟩;show Ending.returned (Value.int IntKind.i64 (min (max n 1) 3))=_
   rw [show min (max n 1) 3=(3:Int) by omega]
  ·obtain rfl:pn=n:=by have q:=HP.o; rw [if_neg h1,if_neg h3] at q; exact q
   go_enter Tryz.func126,Tryz.ntmps126
   go_wp2
   go_ret
   refine ⟨?_,Ext.refl _⟩;show Ending.returned (Value.int IntKind.i64 (min (max pn 1) 3))=_
   rw [show min (max pn 1) 3=pn by omega]

theorem zkE (gen:Int) (w:World):zaw Tryz.prog 127 #[I gen] w fun r _=>r=.agg #[I gen,.slice none 0 0,.bool false,I 0,I 0,I 0,I 0,I 0,I 0,.slice none 0 0,I 0,I 0]:=by
 unfold zaw;have EW:=zhd (Ext.refl w);go_enter Tryz.func127,Tryz.ntmps127
 go_wp2_with (with_reducible refine zT ?_)
 refine zac rfl 40 zS (by kernel_rfl) (fun b0 w1_ M1=>?_);have zab:=zmb M1;have zcO:Hid (w.heap.size<=b0):=by unfold Hid; have q:=M1.o.at_; omega
 go_wp2_with (with_reducible refine zT ?_)
 refine zbm rfl 40 #[(0,.tmp 3)] rfl #[I gen,.slice none 0 0,.bool false,I 0,I 0,I 0,I 0,I 0,I 0,.slice none 0 0,I 0,I 0] (by kernel_rfl) (fun v4 H_v4=>?_);go_wp2_with (with_reducible refine zT ?_)
 refine zaa rfl 40 (.tmp 2) (.tmp 4) rfl b0 rfl _ (zcv H_v4) zab rfl zdp rfl (fun w2_ M2=>?_);replace zab:=zwb M2;go_wp2
 have z0:=zau (P:=Tryz.prog) 40 zab.o zda (by kernel_rfl);refine bodyPost_ret (by simp [results,Tryz.results127,asAddr,z0,Act.put]; rfl) rfl ?_;replace EW:=zwe M2 (zet EW M1) zcO;exact ⟨_,rfl,EW.o,rfl⟩

theorem zmv (m:Mc) (c u a p box plan cl:Value) (w:World) (A:Nat->Prop) (h:RdM A w m c u a p box plan cl) (hs:zg1 m) (hf:0<=m.falls) :
  za3 Tryz.prog 104 #[.agg (zaM m c u a p box plan cl).toArray] w (fun _=>False) (fun r w'=>zmS zdi (zf5 m).1 (zf5 m).2 r w'):=by
 unfold za3;obtain ⟨ca,cc,ua,uc,aa,ac,pa,pc,xa,xc,la,lc,ka,kc,rfl,rfl,rfl,rfl,rfl,rfl,rfl⟩:=h.slices;obtain ⟨⟨sc,su,sa,sp⟩,⟨gen,bl,busy,⟨nc,nt,⟨nk,na,no,nn⟩⟩,pl,⟨se,sn⟩⟩,up,pause,falls,cls⟩:=m;simp only [zaM] at *;have H:=zhd h;have HS:=zhd hs;clear h hs;have EW:=zhd (Ext.refl w);obtain ⟨B,hB⟩:=zhZ (fun _=>False) w.heap.size 2;have HK:=zhd hB;clear hB;cases up
 case false =>
  have hX:zf5 ⟨⟨sc,su,sa,sp⟩,⟨gen,bl,busy,⟨nc,nt,⟨nk,na,no,nn⟩⟩,pl,⟨se,sn⟩⟩,false,pause,falls,cls⟩=(⟨⟨sc,su,sa,sp⟩,⟨gen,bl,busy,⟨nc,nt,⟨nk,na,no,nn⟩⟩,pl,⟨se,sn⟩⟩,false,pause,falls,cls⟩,11):=rfl;rw [hX];clear hX;go_enter Tryz.func104,Tryz.ntmps104
  go_wp2_with (with_reducible refine zT ?_)
  refine zam rfl 43 (.tmp 0) rfl #[.slice ca sc.length cc,.slice ua su.length uc,.slice aa sa.length ac,.slice pa sp.length pc,I gen,.slice xa bl.length xc,.bool busy,I nc,I nt,I nk,I na,I no,I nn,.slice la pl.length lc,I se,I sn,.bool false,I pause,I falls,.slice ka cls.length kc] rfl (fun b0 w1_ M1=>?_);have zab:=zmb M1;go_wp2_with (with_reducible refine zT ?_)
  refine zac rfl 43 zM (by kernel_rfl) (fun b1 w2_ M2=>?_);have zad:=zmb M2;have zbD:=zA0 M1;have zbz:=zA1 zbD M1 M2;have zaB:=znb HK zbz (by decide);have za9:=zob zbz;go_wp2_with (with_reducible refine zT ?_)
  replace zab:=zmo M2 zab;refine zah rfl 43 (.tmp 1) rfl b0 rfl zab za2 zaT (fun v5 H_v5=>?_);go_wp2_with fail
  rw [show _=Value.agg #[.slice ca sc.length cc,.slice ua su.length uc,.slice aa sa.length ac,.slice pa sp.length pc,I gen,.slice xa bl.length xc,.bool busy,I nc,I nt,I nk,I na,I no,I nn,.slice la pl.length lc,I se,I sn,.bool false,I pause,I falls,.slice ka cls.length kc] from H_v5.o];clear H_v5;have hin:∀ k,w2_.heap.size<=k->B k:=fun k h=>HK.o.2.1 k (by have q:=(zlt zad); have q2:=zbz.o; omega);replace EW:=zet (zet EW M1) M2;refine (zcp ⟨⟨sc,su,sa,sp⟩,⟨gen,bl,busy,⟨nc,nt,⟨nk,na,no,nn⟩⟩,pl,⟨se,sn⟩⟩,false,pause,falls,cls⟩ _ _ _ _ _ _ _ w2_ A (H.o.ext EW.o) HS.o).to fun r wa ea hr=>?_;obtain ⟨cs,rfl,hcs⟩:=zcb hr;obtain ⟨c',u',a',p',box',plan',cl',rfl,hM⟩:=zcu hcs;obtain ⟨ca1,cc1,ua1,uc1,aa1,ac1,pa1,pc1,xa1,xc1,la1,lc1,ka1,kc1,rfl,rfl,rfl,rfl,rfl,rfl,rfl⟩:=hM.slices;have H1:=zhd (hM.widen (B:=B) fun k _ h=>hin k (by rcases h with h | h; exact h.elim; exact h));clear hr hcs hM hin;replace zab:=zbx zab ea;replace zad:=zbx zad ea;replace EW:=zhd (EW.o.trans ea);clear ea;go_wp2_with (with_reducible refine zT ?_)
  refine zac rfl 43 zM (by kernel_rfl) (fun b4 w3_ M3=>?_);have zdc:=zld zab M3;have zca:=zld zad M3;obtain ⟨B1,HB1⟩:=zEx B b4;have zdb:=zNn HB1;have zhS:=zIn HB1;have zew:=zOn M3 EW;have zaE:=zmb M3;go_wp2_with (with_reducible refine zT ?_)
  refine zaa rfl 43 (.tmp 4) (.tmp 6) rfl b4 rfl [.slice ca1 sc.length cc1,.slice ua1 su.length uc1,.slice aa1 sa.length ac1,.slice pa1 sp.length pc1,I gen,.slice xa1 bl.length xc1,.bool busy,I nc,I nt,I nk,I na,I no,I nn,.slice la1 pl.length lc1,I se,I sn,.bool false,I pause,I falls,.slice ka1 cls.length kc1] (rfl) zaE rfl zaT rfl (fun w4_ M4=>?_);replace zaE:=zwb M4;replace zab:=zwl M4 (zmo M3 zab) zdc;have c16:=zae (i:=16) zab.o rfl;go_wp2_with (with_reducible refine zT ?_)
  clear c16;refine zah rfl 43 (.tmp 4) rfl b4 rfl zaE za2 zaT (fun v11 H_v11=>?_);go_wp2_with (with_reducible refine zT ?_)
  replace zad:=zwl M4 (zmo M3 zad) zca;refine zaa rfl 43 (.tmp 2) (.tmp 11) rfl b1 rfl _ (zcv H_v11) zad rfl zaT rfl (fun w5_ M5=>?_);replace zad:=zwb M5;replace zaB:=znw HB1 zaB;go_wp2
  have z0:=zau (P:=Tryz.prog) 43 zad.o za2 (by kernel_rfl);refine bodyPost_ret (by simp [results,Tryz.results104,asAddr,z0]; rfl) rfl ?_;replace H1:=zHw M5 (zHw M4 (zhd ((zMD HB1 M3 H1).o.ext M3.o.ext)) zdb) zaB;replace EW:=zwe M5 (zwe M4 (zet EW M3) zew) za9;exact ⟨_,rfl,EW.o,Rd.widen (zfc (RdM.mc (m:=⟨⟨sc,su,sa,sp⟩,⟨gen,bl,busy,⟨nc,nt,⟨nk,na,no,nn⟩⟩,pl,⟨se,sn⟩⟩,false,pause,falls,cls⟩) H1.o)) (fun k _ h=>HK.o.2.2.2 k (zhS.o k h))⟩
 by_cases h6:6<=falls
 case pos =>
  have hX:zf5 ⟨⟨sc,su,sa,sp⟩,⟨gen,bl,busy,⟨nc,nt,⟨nk,na,no,nn⟩⟩,pl,⟨se,sn⟩⟩,true,pause,falls,cls⟩=(⟨⟨sc,su,sa,sp⟩,⟨gen,bl,busy,⟨nc,nt,⟨nk,na,no,nn⟩⟩,pl,⟨se,sn⟩⟩,true,pause,falls,cls⟩,5):=by
   show (if ¬ (true=true) then _ else if 6<=falls then _ else _)=_
   rw [if_neg (by simp),if_pos h6]
  rw [hX];clear hX;go_enter Tryz.func104,Tryz.ntmps104
  go_wp2_with (with_reducible refine zT ?_)
  refine zam rfl 43 (.tmp 0) rfl #[.slice ca sc.length cc,.slice ua su.length uc,.slice aa sa.length ac,.slice pa sp.length pc,I gen,.slice xa bl.length xc,.bool busy,I nc,I nt,I nk,I na,I no,I nn,.slice la pl.length lc,I se,I sn,.bool true,I pause,I falls,.slice ka cls.length kc] rfl (fun b0 w1_ M1=>?_);have zab:=zmb M1;go_wp2_with (with_reducible refine zT ?_)
  refine zac rfl 43 zM (by kernel_rfl) (fun b1 w2_ M2=>?_);have zad:=zmb M2;have zbD:=zA0 M1;have zbz:=zA1 zbD M1 M2;have zaB:=znb HK zbz (by decide);have za9:=zob zbz;go_wp2_with (with_reducible refine zT ?_)
  replace zab:=zmo M2 zab;refine zah rfl 43 (.tmp 1) rfl b0 rfl zab za2 zaT (fun v5 H_v5=>?_);go_wp2_with fail
  rw [show _=Value.agg #[.slice ca sc.length cc,.slice ua su.length uc,.slice aa sa.length ac,.slice pa sp.length pc,I gen,.slice xa bl.length xc,.bool busy,I nc,I nt,I nk,I na,I no,I nn,.slice la pl.length lc,I se,I sn,.bool true,I pause,I falls,.slice ka cls.length kc] from H_v5.o];clear H_v5;have hin:∀ k,w2_.heap.size<=k->B k:=fun k h=>HK.o.2.1 k (by have q:=(zlt zad); have q2:=zbz.o; omega);replace EW:=zet (zet EW M1) M2;refine (zcp ⟨⟨sc,su,sa,sp⟩,⟨gen,bl,busy,⟨nc,nt,⟨nk,na,no,nn⟩⟩,pl,⟨se,sn⟩⟩,true,pause,falls,cls⟩ _ _ _ _ _ _ _ w2_ A (H.o.ext EW.o) HS.o).to fun r wa ea hr=>?_;obtain ⟨cs,rfl,hcs⟩:=zcb hr;obtain ⟨c',u',a',p',box',plan',cl',rfl,hM⟩:=zcu hcs;obtain ⟨ca1,cc1,ua1,uc1,aa1,ac1,pa1,pc1,xa1,xc1,la1,lc1,ka1,kc1,rfl,rfl,rfl,rfl,rfl,rfl,rfl⟩:=hM.slices;have H1:=zhd (hM.widen (B:=B) fun k _ h=>hin k (by rcases h with h | h; exact h.elim; exact h));clear hr hcs hM hin;replace zab:=zbx zab ea;replace zad:=zbx zad ea;replace EW:=zhd (EW.o.trans ea);clear ea;go_wp2_with (with_reducible refine zT ?_)
  refine zac rfl 43 zM (by kernel_rfl) (fun b4 w3_ M3=>?_);have zdc:=zld zab M3;have zca:=zld zad M3;obtain ⟨B1,HB1⟩:=zEx B b4;have zdb:=zNn HB1;have zhS:=zIn HB1;have zew:=zOn M3 EW;have zaE:=zmb M3;go_wp2_with (with_reducible refine zT ?_)
  refine zaa rfl 43 (.tmp 4) (.tmp 6) rfl b4 rfl [.slice ca1 sc.length cc1,.slice ua1 su.length uc1,.slice aa1 sa.length ac1,.slice pa1 sp.length pc1,I gen,.slice xa1 bl.length xc1,.bool busy,I nc,I nt,I nk,I na,I no,I nn,.slice la1 pl.length lc1,I se,I sn,.bool true,I pause,I falls,.slice ka1 cls.length kc1] (rfl) zaE rfl zaT rfl (fun w4_ M4=>?_);replace zaE:=zwb M4;replace zab:=zwl M4 (zmo M3 zab) zdc;have c16:=zae (i:=16) zab.o rfl;have c18:=zae (i:=18) zab.o rfl;go_wp2_with (with_reducible refine zT ?_)
  clear c16 c18;refine zah rfl 43 (.tmp 4) rfl b4 rfl zaE za2 zaT (fun v16 H_v16=>?_);go_wp2_with (with_reducible refine zT ?_)
  replace zad:=zwl M4 (zmo M3 zad) zca;refine zaa rfl 43 (.tmp 2) (.tmp 16) rfl b1 rfl _ (zcv H_v16) zad rfl zaT rfl (fun w5_ M5=>?_);replace zad:=zwb M5;replace zaB:=znw HB1 zaB;go_wp2
  have z0:=zau (P:=Tryz.prog) 43 zad.o za2 (by kernel_rfl);refine bodyPost_ret (by simp [results,Tryz.results104,asAddr,z0]; rfl) rfl ?_;replace H1:=zHw M5 (zHw M4 (zhd ((zMD HB1 M3 H1).o.ext M3.o.ext)) zdb) zaB;replace EW:=zwe M5 (zwe M4 (zet EW M3) zew) za9;exact ⟨_,rfl,EW.o,Rd.widen (zfc (RdM.mc (m:=⟨⟨sc,su,sa,sp⟩,⟨gen,bl,busy,⟨nc,nt,⟨nk,na,no,nn⟩⟩,pl,⟨se,sn⟩⟩,true,pause,falls,cls⟩) H1.o)) (fun k _ h=>HK.o.2.2.2 k (zhS.o k h))⟩
 have hX:zf5 ⟨⟨sc,su,sa,sp⟩,⟨gen,bl,busy,⟨nc,nt,⟨nk,na,no,nn⟩⟩,pl,⟨se,sn⟩⟩,true,pause,falls,cls⟩=(⟨⟨sc,su,sa,sp⟩,zbQ gen [],false,pauseOf (falls+1),falls+1,cls⟩,0):=by
  show (if ¬ (true=true) then _ else if 6<=falls then _ else _)=_
  rw [if_neg (by simp),if_neg h6]
 rw [hX];clear hX;have h5:falls < 6:=by omega
 have hf0:(0:Int)<=falls:=hf;go_enter Tryz.func104,Tryz.ntmps104
 go_wp2_with (with_reducible refine zT ?_)
 refine zam rfl 43 (.tmp 0) rfl #[.slice ca sc.length cc,.slice ua su.length uc,.slice aa sa.length ac,.slice pa sp.length pc,I gen,.slice xa bl.length xc,.bool busy,I nc,I nt,I nk,I na,I no,I nn,.slice la pl.length lc,I se,I sn,.bool true,I pause,I falls,.slice ka cls.length kc] rfl (fun b0 w1_ M1=>?_);have zab:=zmb M1;go_wp2_with (with_reducible refine zT ?_)
 refine zac rfl 43 zM (by kernel_rfl) (fun b1 w2_ M2=>?_);have zad:=zmb M2;have zbD:=zA0 M1;have zbz:=zA1 zbD M1 M2;have zaB:=znb HK zbz (by decide);have za9:=zob zbz;go_wp2_with (with_reducible refine zT ?_)
 replace zab:=zmo M2 zab;refine zah rfl 43 (.tmp 1) rfl b0 rfl zab za2 zaT (fun v5 H_v5=>?_);go_wp2_with fail
 rw [show _=Value.agg #[.slice ca sc.length cc,.slice ua su.length uc,.slice aa sa.length ac,.slice pa sp.length pc,I gen,.slice xa bl.length xc,.bool busy,I nc,I nt,I nk,I na,I no,I nn,.slice la pl.length lc,I se,I sn,.bool true,I pause,I falls,.slice ka cls.length kc] from H_v5.o];clear H_v5;have hin:∀ k,w2_.heap.size<=k->B k:=fun k h=>HK.o.2.1 k (by have q:=(zlt zad); have q2:=zbz.o; omega);replace EW:=zet (zet EW M1) M2;refine (zcp ⟨⟨sc,su,sa,sp⟩,⟨gen,bl,busy,⟨nc,nt,⟨nk,na,no,nn⟩⟩,pl,⟨se,sn⟩⟩,true,pause,falls,cls⟩ _ _ _ _ _ _ _ w2_ A (H.o.ext EW.o) HS.o).to fun r wa ea hr=>?_;obtain ⟨cs,rfl,hcs⟩:=zcb hr;obtain ⟨c',u',a',p',box',plan',cl',rfl,hM⟩:=zcu hcs;obtain ⟨ca1,cc1,ua1,uc1,aa1,ac1,pa1,pc1,xa1,xc1,la1,lc1,ka1,kc1,rfl,rfl,rfl,rfl,rfl,rfl,rfl⟩:=hM.slices;have H1:=zhd (hM.widen (B:=B) fun k _ h=>hin k (by rcases h with h | h; exact h.elim; exact h));clear hr hcs hM hin;replace zab:=zbx zab ea;replace zad:=zbx zad ea;replace EW:=zhd (EW.o.trans ea);clear ea;go_wp2_with (with_reducible refine zT ?_)
 refine zac rfl 43 zM (by kernel_rfl) (fun b4 w3_ M3=>?_);have zdc:=zld zab M3;have zca:=zld zad M3;obtain ⟨B1,HB1⟩:=zEx B b4;have zdb:=zNn HB1;have zhS:=zIn HB1;have zew:=zOn M3 EW;have zaE:=zmb M3;go_wp2_with (with_reducible refine zT ?_)
 refine zaa rfl 43 (.tmp 4) (.tmp 6) rfl b4 rfl [.slice ca1 sc.length cc1,.slice ua1 su.length uc1,.slice aa1 sa.length ac1,.slice pa1 sp.length pc1,I gen,.slice xa1 bl.length xc1,.bool busy,I nc,I nt,I nk,I na,I no,I nn,.slice la1 pl.length lc1,I se,I sn,.bool true,I pause,I falls,.slice ka1 cls.length kc1] (rfl) zaE rfl zaT rfl (fun w4_ M4=>?_);replace zaE:=zwb M4;replace zab:=zwl M4 (zmo M3 zab) zdc;have c16:=zae (i:=16) zab.o rfl;have c18:=zae (i:=18) zab.o rfl;have d18:=zae (i:=18) zaE.o rfl;go_wp2_with (with_reducible refine zT ?_)
 clear c16 c18 d18;refine zaq rfl 3 (.tmp 20) (.tmp 19) rfl b4 18 rfl [I (falls+1)] (rfl) zaE rfl zi3 rfl [.slice ca1 sc.length cc1,.slice ua1 su.length uc1,.slice aa1 sa.length ac1,.slice pa1 sp.length pc1,I gen,.slice xa1 bl.length xc1,.bool busy,I nc,I nt,I nk,I na,I no,I nn,.slice la1 pl.length lc1,I se,I sn,.bool true,I pause,I (falls+1),.slice ka1 cls.length kc1] rfl (fun w5_ M5=>?_);replace zaE:=zwb M5;have d18:=zae (i:=18) zaE.o rfl;go_wp2_with fail
 clear d18;refine (zqn (falls+1) w5_).to fun r wb eb hr=>?_;subst hr;replace H1:=zhd ((zHw M5 (zHw M4 (zhd ((zMD HB1 M3 H1).o.ext M3.o.ext)) zdb) zdb).o.ext eb);replace zad:=zbx (zwl M5 (zwl M4 (zmo M3 zad) zca) zca) eb;replace EW:=zhd ((zwe M5 (zwe M4 (zet EW M3) zew) zew).o.trans eb);replace zab:=zbx (zwl M5 zab zdc) eb;replace zaE:=zbx zaE eb;clear eb;replace zaB:=znw HB1 zaB;generalize hpn:pauseOf (falls+1)=pn at *;have HPN:=zhd hpn;clear hpn;go_wp2_with (with_reducible refine zT ?_)
 refine zaq rfl 4 (.tmp 24) (.const (.bool false)) rfl b4 16 rfl [.bool false] (rfl) zaE rfl zi4 rfl [.slice ca1 sc.length cc1,.slice ua1 su.length uc1,.slice aa1 sa.length ac1,.slice pa1 sp.length pc1,I gen,.slice xa1 bl.length xc1,.bool busy,I nc,I nt,I nk,I na,I no,I nn,.slice la1 pl.length lc1,I se,I sn,.bool false,I pause,I (falls+1),.slice ka1 cls.length kc1] rfl (fun w6_ M6=>?_);replace zaE:=zwb M6;go_wp2_with (with_reducible refine zT ?_)
 refine zaq rfl 3 (.tmp 25) (.tmp 23) rfl b4 17 rfl [I pn] (rfl) zaE rfl zi3 rfl [.slice ca1 sc.length cc1,.slice ua1 su.length uc1,.slice aa1 sa.length ac1,.slice pa1 sp.length pc1,I gen,.slice xa1 bl.length xc1,.bool busy,I nc,I nt,I nk,I na,I no,I nn,.slice la1 pl.length lc1,I se,I sn,.bool false,I pn,I (falls+1),.slice ka1 cls.length kc1] rfl (fun w7_ M7=>?_);replace zaE:=zwb M7;replace zab:=zwl M7 (zwl M6 zab zdc) zdc;have c4:=zae (i:=4) zab.o rfl;go_wp2_with fail
 clear c4;refine (zkE gen w7_).to fun r wc ec hr=>?_;subst hr;replace zad:=zbx (zwl M7 (zwl M6 zad zca) zca) ec;replace H1:=zhd ((zHw M7 (zHw M6 H1 zdb) zdb).o.ext ec);replace EW:=zhd ((zwe M7 (zwe M6 EW zew) zew).o.trans ec);replace zab:=zbx zab ec;replace zaE:=zbx zaE ec;clear ec;go_wp2_with (with_reducible refine zT ?_)
 refine zaq rfl 40 (.tmp 30) (.tmp 29) rfl b4 4 rfl [I gen,.slice none 0 0,.bool false,I 0,I 0,I 0,I 0,I 0,I 0,.slice none 0 0,I 0,I 0] (rfl) zaE rfl zdp rfl [.slice ca1 sc.length cc1,.slice ua1 su.length uc1,.slice aa1 sa.length ac1,.slice pa1 sp.length pc1,I gen,.slice none 0 0,.bool false,I 0,I 0,I 0,I 0,I 0,I 0,.slice none 0 0,I 0,I 0,.bool false,I pn,I (falls+1),.slice ka1 cls.length kc1] rfl (fun w8_ M8=>?_);replace zaE:=zwb M8;go_wp2_with (with_reducible refine zT ?_)
 refine zah rfl 43 (.tmp 4) rfl b4 rfl zaE za2 zaT (fun v31 H_v31=>?_);go_wp2_with (with_reducible refine zT ?_)
 replace zad:=zwl M8 zad zca;refine zaa rfl 43 (.tmp 2) (.tmp 31) rfl b1 rfl _ (zcv H_v31) zad rfl zaT rfl (fun w9_ M9=>?_);replace zad:=zwb M9;go_wp2
 have z0:=zau (P:=Tryz.prog) 43 zad.o za2 (by kernel_rfl);refine bodyPost_ret (by simp [results,Tryz.results104,asAddr,z0]; rfl) rfl ?_;have hpn:=HPN.o;subst hpn;replace H1:=zHw M9 (zHw M8 H1 zdb) zaB;replace EW:=zwe M9 (zwe M8 EW zew) za9;exact ⟨_,rfl,EW.o,Rd.widen (zfc (RdM.mc (m:=⟨⟨sc,su,sa,sp⟩,zbQ gen [],false,pauseOf (falls+1),falls+1,cls⟩) ⟨H1.o.cells,H1.o.undo,H1.o.answers,H1.o.past,Rd.all fun w=>zaj.nil w,Rd.all fun w=>zbr w,H1.o.clients⟩)) (fun k _ h=>HK.o.2.2.2 k (zhS.o k h))⟩

theorem zmU (m:Mc) (c u a p box plan cl:Value) (w:World) (A:Nat->Prop) (h:RdM A w m c u a p box plan cl) (hs:zg1 m) (hg:0<=m.server.gen/\m.server.gen<=1000000) (hpz:m.up=false->1<=m.pause/\m.pause<=1000000) :
  za3 Tryz.prog 105 #[.agg (zaM m c u a p box plan cl).toArray] w (fun _=>False) (fun r w'=>Agg zdi (zbP m) r w'):=by
 have HGN:=zhd hg;have HPZ:=zhd hpz;clear hg hpz;unfold za3;obtain ⟨ca,cc,ua,uc,aa,ac,pa,pc,xa,xc,la,lc,ka,kc,rfl,rfl,rfl,rfl,rfl,rfl,rfl⟩:=h.slices;obtain ⟨⟨sc,su,sa,sp⟩,⟨gen,bl,busy,⟨nc,nt,⟨nk,na,no,nn⟩⟩,pl,⟨se,sn⟩⟩,up,pause,falls,cls⟩:=m;simp only [zaM] at *;have H:=zhd h;have HS:=zhd hs;clear h hs;have EW:=zhd (Ext.refl w);obtain ⟨B,hB⟩:=zhZ (fun _=>False) w.heap.size 2;have HK:=zhd hB;clear hB;cases up
 case true =>
  have hX:zbP ⟨⟨sc,su,sa,sp⟩,⟨gen,bl,busy,⟨nc,nt,⟨nk,na,no,nn⟩⟩,pl,⟨se,sn⟩⟩,true,pause,falls,cls⟩=⟨⟨sc,su,sa,sp⟩,⟨gen,bl,busy,⟨nc,nt,⟨nk,na,no,nn⟩⟩,pl,⟨se,sn⟩⟩,true,pause,falls,cls⟩:=rfl;rw [hX];clear hX;go_enter Tryz.func105,Tryz.ntmps105
  go_wp2_with (with_reducible refine zT ?_)
  refine zam rfl 43 (.tmp 0) rfl #[.slice ca sc.length cc,.slice ua su.length uc,.slice aa sa.length ac,.slice pa sp.length pc,I gen,.slice xa bl.length xc,.bool busy,I nc,I nt,I nk,I na,I no,I nn,.slice la pl.length lc,I se,I sn,.bool true,I pause,I falls,.slice ka cls.length kc] rfl (fun b0 w1_ M1=>?_);have zab:=zmb M1;go_wp2_with (with_reducible refine zT ?_)
  refine zac rfl 43 zM (by kernel_rfl) (fun b1 w2_ M2=>?_);have zad:=zmb M2;have zbD:=zA0 M1;have zbz:=zA1 zbD M1 M2;have zaB:=znb HK zbz (by decide);have za9:=zob zbz;go_wp2_with (with_reducible refine zT ?_)
  replace zab:=zmo M2 zab;refine zah rfl 43 (.tmp 1) rfl b0 rfl zab za2 zaT (fun v4 H_v4=>?_);go_wp2_with fail
  rw [show _=Value.agg #[.slice ca sc.length cc,.slice ua su.length uc,.slice aa sa.length ac,.slice pa sp.length pc,I gen,.slice xa bl.length xc,.bool busy,I nc,I nt,I nk,I na,I no,I nn,.slice la pl.length lc,I se,I sn,.bool true,I pause,I falls,.slice ka cls.length kc] from H_v4.o];clear H_v4;have hin:∀ k,w2_.heap.size<=k->B k:=fun k h=>HK.o.2.1 k (by have q:=(zlt zad); have q2:=zbz.o; omega);replace EW:=zet (zet EW M1) M2;refine (zcp ⟨⟨sc,su,sa,sp⟩,⟨gen,bl,busy,⟨nc,nt,⟨nk,na,no,nn⟩⟩,pl,⟨se,sn⟩⟩,true,pause,falls,cls⟩ _ _ _ _ _ _ _ w2_ A (H.o.ext EW.o) HS.o).to fun r wa ea hr=>?_;obtain ⟨cs,rfl,hcs⟩:=zcb hr;obtain ⟨c',u',a',p',box',plan',cl',rfl,hM⟩:=zcu hcs;obtain ⟨ca1,cc1,ua1,uc1,aa1,ac1,pa1,pc1,xa1,xc1,la1,lc1,ka1,kc1,rfl,rfl,rfl,rfl,rfl,rfl,rfl⟩:=hM.slices;have H1:=zhd (hM.widen (B:=B) fun k _ h=>hin k (by rcases h with h | h; exact h.elim; exact h));clear hr hcs hM hin;replace zab:=zbx zab ea;replace zad:=zbx zad ea;replace EW:=zhd (EW.o.trans ea);clear ea;go_wp2_with (with_reducible refine zT ?_)
  refine zac rfl 43 zM (by kernel_rfl) (fun b3 w3_ M3=>?_);have zb1:=zld zab M3;have zbK:=zld zad M3;obtain ⟨B1,HB1⟩:=zEx B b3;have zb0:=zNn HB1;have zhS:=zIn HB1;have zeo:=zOn M3 EW;have zaN:=zmb M3;go_wp2_with (with_reducible refine zT ?_)
  refine zaa rfl 43 (.tmp 3) (.tmp 5) rfl b3 rfl [.slice ca1 sc.length cc1,.slice ua1 su.length uc1,.slice aa1 sa.length ac1,.slice pa1 sp.length pc1,I gen,.slice xa1 bl.length xc1,.bool busy,I nc,I nt,I nk,I na,I no,I nn,.slice la1 pl.length lc1,I se,I sn,.bool true,I pause,I falls,.slice ka1 cls.length kc1] (rfl) zaN rfl zaT rfl (fun w4_ M4=>?_);replace zaN:=zwb M4;replace zab:=zwl M4 (zmo M3 zab) zb1;have c16:=zae (i:=16) zab.o rfl;go_wp2_with (with_reducible refine zT ?_)
  clear c16;refine zah rfl 43 (.tmp 3) rfl b3 rfl zaN za2 zaT (fun v8 H_v8=>?_);go_wp2_with (with_reducible refine zT ?_)
  replace zad:=zwl M4 (zmo M3 zad) zbK;refine zaa rfl 43 (.tmp 2) (.tmp 8) rfl b1 rfl _ (zcv H_v8) zad rfl zaT rfl (fun w5_ M5=>?_);replace zad:=zwb M5;replace zaB:=znw HB1 zaB;go_wp2
  have z0:=zau (P:=Tryz.prog) 43 zad.o za2 (by kernel_rfl);refine bodyPost_ret (by simp [results,Tryz.results105,asAddr,z0,Act.put]; rfl) rfl ?_;replace H1:=zHw M5 (zHw M4 (zhd ((zMD HB1 M3 H1).o.ext M3.o.ext)) zb0) zaB;replace EW:=zwe M5 (zwe M4 (zet EW M3) zeo) za9;exact ⟨_,rfl,EW.o,Rd.widen (zcM (RdM.mc (m:=⟨⟨sc,su,sa,sp⟩,⟨gen,bl,busy,⟨nc,nt,⟨nk,na,no,nn⟩⟩,pl,⟨se,sn⟩⟩,true,pause,falls,cls⟩) H1.o)) (fun k _ h=>HK.o.2.2.2 k (zhS.o k h))⟩
 obtain ⟨hq1,hq2⟩:(1:Int)<=pause/\pause<=1000000:=HPZ.o rfl;clear HPZ;by_cases hp:1 < pause
 case pos =>
  have hX:zbP ⟨⟨sc,su,sa,sp⟩,⟨gen,bl,busy,⟨nc,nt,⟨nk,na,no,nn⟩⟩,pl,⟨se,sn⟩⟩,false,pause,falls,cls⟩=⟨⟨sc,su,sa,sp⟩,⟨gen,bl,busy,⟨nc,nt,⟨nk,na,no,nn⟩⟩,pl,⟨se,sn⟩⟩,false,(pause - 1),falls,cls⟩:=by
   show (if (false=true) then _ else if 1 < pause then _ else _)=_
   rw [if_neg (by simp),if_pos hp]
  rw [hX];clear hX;have hne:¬ (pause - 1=0):=by omega
  go_enter Tryz.func105,Tryz.ntmps105
  go_wp2_with (with_reducible refine zT ?_)
  refine zam rfl 43 (.tmp 0) rfl #[.slice ca sc.length cc,.slice ua su.length uc,.slice aa sa.length ac,.slice pa sp.length pc,I gen,.slice xa bl.length xc,.bool busy,I nc,I nt,I nk,I na,I no,I nn,.slice la pl.length lc,I se,I sn,.bool false,I pause,I falls,.slice ka cls.length kc] rfl (fun b0 w1_ M1=>?_);have zab:=zmb M1;go_wp2_with (with_reducible refine zT ?_)
  refine zac rfl 43 zM (by kernel_rfl) (fun b1 w2_ M2=>?_);have zad:=zmb M2;have zbD:=zA0 M1;have zbz:=zA1 zbD M1 M2;have zaB:=znb HK zbz (by decide);have za9:=zob zbz;go_wp2_with (with_reducible refine zT ?_)
  replace zab:=zmo M2 zab;refine zah rfl 43 (.tmp 1) rfl b0 rfl zab za2 zaT (fun v4 H_v4=>?_);go_wp2_with fail
  rw [show _=Value.agg #[.slice ca sc.length cc,.slice ua su.length uc,.slice aa sa.length ac,.slice pa sp.length pc,I gen,.slice xa bl.length xc,.bool busy,I nc,I nt,I nk,I na,I no,I nn,.slice la pl.length lc,I se,I sn,.bool false,I pause,I falls,.slice ka cls.length kc] from H_v4.o];clear H_v4;have hin:∀ k,w2_.heap.size<=k->B k:=fun k h=>HK.o.2.1 k (by have q:=(zlt zad); have q2:=zbz.o; omega);replace EW:=zet (zet EW M1) M2;refine (zcp ⟨⟨sc,su,sa,sp⟩,⟨gen,bl,busy,⟨nc,nt,⟨nk,na,no,nn⟩⟩,pl,⟨se,sn⟩⟩,false,pause,falls,cls⟩ _ _ _ _ _ _ _ w2_ A (H.o.ext EW.o) HS.o).to fun r wa ea hr=>?_;obtain ⟨cs,rfl,hcs⟩:=zcb hr;obtain ⟨c',u',a',p',box',plan',cl',rfl,hM⟩:=zcu hcs;obtain ⟨ca1,cc1,ua1,uc1,aa1,ac1,pa1,pc1,xa1,xc1,la1,lc1,ka1,kc1,rfl,rfl,rfl,rfl,rfl,rfl,rfl⟩:=hM.slices;have H1:=zhd (hM.widen (B:=B) fun k _ h=>hin k (by rcases h with h | h; exact h.elim; exact h));clear hr hcs hM hin;replace zab:=zbx zab ea;replace zad:=zbx zad ea;replace EW:=zhd (EW.o.trans ea);clear ea;go_wp2_with (with_reducible refine zT ?_)
  refine zac rfl 43 zM (by kernel_rfl) (fun b3 w3_ M3=>?_);have zb1:=zld zab M3;have zbK:=zld zad M3;obtain ⟨B1,HB1⟩:=zEx B b3;have zb0:=zNn HB1;have zhS:=zIn HB1;have zeo:=zOn M3 EW;have zaN:=zmb M3;go_wp2_with (with_reducible refine zT ?_)
  refine zaa rfl 43 (.tmp 3) (.tmp 5) rfl b3 rfl [.slice ca1 sc.length cc1,.slice ua1 su.length uc1,.slice aa1 sa.length ac1,.slice pa1 sp.length pc1,I gen,.slice xa1 bl.length xc1,.bool busy,I nc,I nt,I nk,I na,I no,I nn,.slice la1 pl.length lc1,I se,I sn,.bool false,I pause,I falls,.slice ka1 cls.length kc1] (rfl) zaN rfl zaT rfl (fun w4_ M4=>?_);replace zaN:=zwb M4;replace zab:=zwl M4 (zmo M3 zab) zb1;have c16:=zae (i:=16) zab.o rfl;have c17:=zae (i:=17) zaN.o rfl;go_wp2_with (with_reducible refine zT ?_)
  clear c16 c17;refine zaq rfl 3 (.tmp 12) (.tmp 11) rfl b3 17 rfl [I (pause - 1)] (rfl) zaN rfl zi3 rfl [.slice ca1 sc.length cc1,.slice ua1 su.length uc1,.slice aa1 sa.length ac1,.slice pa1 sp.length pc1,I gen,.slice xa1 bl.length xc1,.bool busy,I nc,I nt,I nk,I na,I no,I nn,.slice la1 pl.length lc1,I se,I sn,.bool false,I (pause - 1),I falls,.slice ka1 cls.length kc1] rfl (fun w5_ M5=>?_);replace zaN:=zwb M5;have c17:=zae (i:=17) zaN.o rfl;go_wp2_with (with_reducible refine zT ?_)
  clear c17;refine zah rfl 43 (.tmp 3) rfl b3 rfl zaN za2 zaT (fun v27 H_v27=>?_);go_wp2_with (with_reducible refine zT ?_)
  replace zad:=zwl M5 (zwl M4 (zmo M3 zad) zbK) zbK;refine zaa rfl 43 (.tmp 2) (.tmp 27) rfl b1 rfl _ (zcv H_v27) zad rfl zaT rfl (fun w6_ M6=>?_);replace zad:=zwb M6;replace zaB:=znw HB1 zaB;go_wp2
  have z0:=zau (P:=Tryz.prog) 43 zad.o za2 (by kernel_rfl);refine bodyPost_ret (by simp [results,Tryz.results105,asAddr,z0,Act.put]; rfl) rfl ?_;replace H1:=zHw M6 (zHw M5 (zHw M4 (zhd ((zMD HB1 M3 H1).o.ext M3.o.ext)) zb0) zb0) zaB;replace EW:=zwe M6 (zwe M5 (zwe M4 (zet EW M3) zeo) zeo) za9;exact ⟨_,rfl,EW.o,Rd.widen (zcM (RdM.mc (m:=⟨⟨sc,su,sa,sp⟩,⟨gen,bl,busy,⟨nc,nt,⟨nk,na,no,nn⟩⟩,pl,⟨se,sn⟩⟩,false,(pause - 1),falls,cls⟩) ⟨H1.o.cells,H1.o.undo,H1.o.answers,H1.o.past,H1.o.box,H1.o.plan,H1.o.clients⟩)) (fun k _ h=>HK.o.2.2.2 k (zhS.o k h))⟩
 have hX:zbP ⟨⟨sc,su,sa,sp⟩,⟨gen,bl,busy,⟨nc,nt,⟨nk,na,no,nn⟩⟩,pl,⟨se,sn⟩⟩,false,pause,falls,cls⟩=⟨zci ⟨sc,su,sa,sp⟩,zbQ (gen+1) [],true,0,falls,cls⟩:=by
  show (if (false=true) then _ else if 1 < pause then _ else _)=_
  rw [if_neg (by simp),if_neg hp]
 rw [hX];clear hX;obtain rfl:pause=1:=by omega
 obtain ⟨hg1,hg2⟩:(0:Int)<=gen/\gen<=1000000:=HGN.o;clear HGN;go_enter Tryz.func105,Tryz.ntmps105
 go_wp2_with (with_reducible refine zT ?_)
 refine zam rfl 43 (.tmp 0) rfl #[.slice ca sc.length cc,.slice ua su.length uc,.slice aa sa.length ac,.slice pa sp.length pc,I gen,.slice xa bl.length xc,.bool busy,I nc,I nt,I nk,I na,I no,I nn,.slice la pl.length lc,I se,I sn,.bool false,I 1,I falls,.slice ka cls.length kc] rfl (fun b0 w1_ M1=>?_);have zab:=zmb M1;go_wp2_with (with_reducible refine zT ?_)
 refine zac rfl 43 zM (by kernel_rfl) (fun b1 w2_ M2=>?_);have zad:=zmb M2;have zbD:=zA0 M1;have zbz:=zA1 zbD M1 M2;have zaB:=znb HK zbz (by decide);have za9:=zob zbz;go_wp2_with (with_reducible refine zT ?_)
 replace zab:=zmo M2 zab;refine zah rfl 43 (.tmp 1) rfl b0 rfl zab za2 zaT (fun v4 H_v4=>?_);go_wp2_with fail
 rw [show _=Value.agg #[.slice ca sc.length cc,.slice ua su.length uc,.slice aa sa.length ac,.slice pa sp.length pc,I gen,.slice xa bl.length xc,.bool busy,I nc,I nt,I nk,I na,I no,I nn,.slice la pl.length lc,I se,I sn,.bool false,I 1,I falls,.slice ka cls.length kc] from H_v4.o];clear H_v4;have hin:∀ k,w2_.heap.size<=k->B k:=fun k h=>HK.o.2.1 k (by have q:=(zlt zad); have q2:=zbz.o; omega);replace EW:=zet (zet EW M1) M2;refine (zcp ⟨⟨sc,su,sa,sp⟩,⟨gen,bl,busy,⟨nc,nt,⟨nk,na,no,nn⟩⟩,pl,⟨se,sn⟩⟩,false,1,falls,cls⟩ _ _ _ _ _ _ _ w2_ A (H.o.ext EW.o) HS.o).to fun r wa ea hr=>?_;obtain ⟨cs,rfl,hcs⟩:=zcb hr;obtain ⟨c',u',a',p',box',plan',cl',rfl,hM⟩:=zcu hcs;obtain ⟨ca1,cc1,ua1,uc1,aa1,ac1,pa1,pc1,xa1,xc1,la1,lc1,ka1,kc1,rfl,rfl,rfl,rfl,rfl,rfl,rfl⟩:=hM.slices;have H1:=zhd (hM.widen (B:=B) fun k _ h=>hin k (by rcases h with h | h; exact h.elim; exact h));clear hr hcs hM hin;replace zab:=zbx zab ea;replace zad:=zbx zad ea;replace EW:=zhd (EW.o.trans ea);clear ea;go_wp2_with (with_reducible refine zT ?_)
 refine zac rfl 43 zM (by kernel_rfl) (fun b3 w3_ M3=>?_);have zb1:=zld zab M3;have zbK:=zld zad M3;obtain ⟨B1,HB1⟩:=zEx B b3;have zb0:=zNn HB1;have zhS:=zIn HB1;have zeo:=zOn M3 EW;have zaN:=zmb M3;go_wp2_with (with_reducible refine zT ?_)
 refine zaa rfl 43 (.tmp 3) (.tmp 5) rfl b3 rfl [.slice ca1 sc.length cc1,.slice ua1 su.length uc1,.slice aa1 sa.length ac1,.slice pa1 sp.length pc1,I gen,.slice xa1 bl.length xc1,.bool busy,I nc,I nt,I nk,I na,I no,I nn,.slice la1 pl.length lc1,I se,I sn,.bool false,I 1,I falls,.slice ka1 cls.length kc1] (rfl) zaN rfl zaT rfl (fun w4_ M4=>?_);replace zaN:=zwb M4;replace zab:=zwl M4 (zmo M3 zab) zb1;have c16:=zae (i:=16) zab.o rfl;have c17:=zae (i:=17) zaN.o rfl;go_wp2_with (with_reducible refine zT ?_)
 clear c16 c17;refine zaq rfl 3 (.tmp 12) (.tmp 11) rfl b3 17 rfl [I 0] (rfl) zaN rfl zi3 rfl [.slice ca1 sc.length cc1,.slice ua1 su.length uc1,.slice aa1 sa.length ac1,.slice pa1 sp.length pc1,I gen,.slice xa1 bl.length xc1,.bool busy,I nc,I nt,I nk,I na,I no,I nn,.slice la1 pl.length lc1,I se,I sn,.bool false,I 0,I falls,.slice ka1 cls.length kc1] rfl (fun w5_ M5=>?_);replace zaN:=zwb M5;have c17:=zae (i:=17) zaN.o rfl;go_wp2_with (with_reducible refine zT ?_)
 clear c17;refine zaq rfl 4 (.tmp 16) (.const (.bool true)) rfl b3 16 rfl [.bool true] (rfl) zaN rfl zi4 rfl [.slice ca1 sc.length cc1,.slice ua1 su.length uc1,.slice aa1 sa.length ac1,.slice pa1 sp.length pc1,I gen,.slice xa1 bl.length xc1,.bool busy,I nc,I nt,I nk,I na,I no,I nn,.slice la1 pl.length lc1,I se,I sn,.bool true,I 0,I falls,.slice ka1 cls.length kc1] rfl (fun w6_ M6=>?_);replace zaN:=zwb M6;go_wp2_with (with_reducible refine zT ?_)
 refine zcq rfl 30 (.tmp 17) rfl b3 0 rfl zaN [.slice ca1 sc.length cc1,.slice ua1 su.length uc1,.slice aa1 sa.length ac1,.slice pa1 sp.length pc1] rfl ze6 zh4 (fun v18 H_v18=>?_);go_wp2_with fail
 rw [show _=Value.agg #[.slice ca1 sc.length cc1,.slice ua1 su.length uc1,.slice aa1 sa.length ac1,.slice pa1 sp.length pc1] from H_v18.o];clear H_v18;replace H1:=zHw M6 (zHw M5 (zHw M4 (zhd ((zMD HB1 M3 H1).o.ext M3.o.ext)) zb0) zb0) zb0;refine (zm4 _ _ _ _ ⟨sc,su,sa,sp⟩ w6_ (zcQ.2 ⟨H1.o.cells.o,H1.o.undo.o,H1.o.answers.o,H1.o.past.o⟩) HS.o.1).to fun r wb eb hr1=>?_;obtain ⟨cs,rfl,hcs⟩:=zcb hr1;obtain ⟨c',u',a',p',rfl,r1,r2,r3,r4⟩:=zkA hcs;obtain ⟨ca',cc',rfl⟩:=zao r1.o;obtain ⟨ua',uc',rfl⟩:=zao r2.o;obtain ⟨aa',ac',rfl⟩:=zaf r3.o;obtain ⟨pa',pc',rfl⟩:=zaf r4.o;replace zad:=zwl M6 (zwl M5 (zwl M4 (zmo M3 zad) zbK) zbK) zbK;have hsz:w.heap.size+2<=w6_.heap.size:=by have q:=(zlt zad); have q2:=zbz.o; omega
 have hin:∀ k,k < wb.heap.size->(False∨w6_.heap.size<=k)->B1 k:=fun k _ h=>by
  rcases h with h | h
  ·exact h.elim
  ·exact (HB1.o k).2 ⟨HK.o.2.1 k (by omega),by have q:=(zlt zaN); omega⟩
 have R1:=zhd (r1.widen hin);have R2:=zhd (r2.widen hin);have R3:=zhd (r3.widen hin);have R4:=zhd (r4.widen hin);clear hr1 hcs r1 r2 r3 r4 hin hsz;replace EW:=zhd ((zwe M6 (zwe M5 (zwe M4 (zet EW M3) zeo) zeo) zeo).o.trans eb);replace zab:=zbx (zwl M6 (zwl M5 zab zb1) zb1) eb;replace zad:=zbx zad eb;replace zaN:=zbx zaN eb;replace H1:=zhd (H1.o.ext eb);clear eb;go_wp2_with (with_reducible refine zT ?_)
 refine zaq rfl 30 (.tmp 20) (.tmp 19) rfl b3 0 rfl [.slice ca' (zci ⟨sc,su,sa,sp⟩).cells.length cc',.slice ua' (zci ⟨sc,su,sa,sp⟩).undo.length uc',.slice aa' (zci ⟨sc,su,sa,sp⟩).answers.length ac',.slice pa' (zci ⟨sc,su,sa,sp⟩).past.length pc'] (rfl) zaN rfl zh4 rfl [.slice ca' (zci ⟨sc,su,sa,sp⟩).cells.length cc',.slice ua' (zci ⟨sc,su,sa,sp⟩).undo.length uc',.slice aa' (zci ⟨sc,su,sa,sp⟩).answers.length ac',.slice pa' (zci ⟨sc,su,sa,sp⟩).past.length pc',I gen,.slice xa1 bl.length xc1,.bool busy,I nc,I nt,I nk,I na,I no,I nn,.slice la1 pl.length lc1,I se,I sn,.bool true,I 0,I falls,.slice ka1 cls.length kc1] rfl (fun w7_ M7=>?_);replace zaN:=zwb M7;replace zab:=zwl M7 zab zb1;have c4:=zae (i:=4) zab.o rfl;go_wp2_with fail
 clear c4;refine (zkE (gen+1) w7_).to fun r wc ec hr=>?_;subst hr;replace zad:=zbx (zwl M7 zad zbK) ec;replace H1:=zhd ((zHw M7 H1 zb0).o.ext ec);replace R1:=zrx (zwr M7 R1 zb0) ec;replace R2:=zrx (zwr M7 R2 zb0) ec;replace R3:=zrx (zwr M7 R3 zb0) ec;replace R4:=zrx (zwr M7 R4 zb0) ec;replace EW:=zhd ((zwe M7 EW zeo).o.trans ec);replace zab:=zbx zab ec;replace zaN:=zbx zaN ec;clear ec;go_wp2_with (with_reducible refine zT ?_)
 refine zaq rfl 40 (.tmp 26) (.tmp 25) rfl b3 4 rfl [I (gen+1),.slice none 0 0,.bool false,I 0,I 0,I 0,I 0,I 0,I 0,.slice none 0 0,I 0,I 0] (rfl) zaN rfl zdp rfl [.slice ca' (zci ⟨sc,su,sa,sp⟩).cells.length cc',.slice ua' (zci ⟨sc,su,sa,sp⟩).undo.length uc',.slice aa' (zci ⟨sc,su,sa,sp⟩).answers.length ac',.slice pa' (zci ⟨sc,su,sa,sp⟩).past.length pc',I (gen+1),.slice none 0 0,.bool false,I 0,I 0,I 0,I 0,I 0,I 0,.slice none 0 0,I 0,I 0,.bool true,I 0,I falls,.slice ka1 cls.length kc1] rfl (fun w8_ M8=>?_);replace zaN:=zwb M8;go_wp2_with (with_reducible refine zT ?_)
 refine zah rfl 43 (.tmp 3) rfl b3 rfl zaN za2 zaT (fun v27 H_v27=>?_);go_wp2_with (with_reducible refine zT ?_)
 replace zad:=zwl M8 zad zbK;refine zaa rfl 43 (.tmp 2) (.tmp 27) rfl b1 rfl _ (zcv H_v27) zad rfl zaT rfl (fun w9_ M9=>?_);replace zad:=zwb M9;replace zaB:=znw HB1 zaB;go_wp2
 have z0:=zau (P:=Tryz.prog) 43 zad.o za2 (by kernel_rfl);refine bodyPost_ret (by simp [results,Tryz.results105,asAddr,z0,Act.put]; rfl) rfl ?_;replace H1:=zHw M9 (zHw M8 H1 zb0) zaB;replace R1:=zwr M9 (zwr M8 R1 zb0) zaB;replace R2:=zwr M9 (zwr M8 R2 zb0) zaB;replace R3:=zwr M9 (zwr M8 R3 zb0) zaB;replace R4:=zwr M9 (zwr M8 R4 zb0) zaB;replace EW:=zwe M9 (zwe M8 EW zeo) za9;exact ⟨_,rfl,EW.o,Rd.widen (zcM (RdM.mc (m:=⟨zci ⟨sc,su,sa,sp⟩,zbQ (gen+1) [],true,0,falls,cls⟩) ⟨R1.o,R2.o,R3.o,R4.o,Rd.all fun w=>zaj.nil w,Rd.all fun w=>zbr w,H1.o.clients⟩)) (fun k _ h=>HK.o.2.2.2 k (zhS.o k h))⟩

open Go.RowKit Go.Mk

open Go.RowKit Go.Mk

open Go.RowKit Go.Mk

theorem zdT {w:World} {v:Value} {l:List Rp} (h:zaj 2 zeT w v l):∃ ao cap,v=.slice ao l.length cap/\l.length<=cap/\cap<=maxLen /\
  ∀ k x,l[k]?=some x->∃ b off,ao=some ⟨b,off,none⟩/\w.cell? ⟨b,off+k * 2,none⟩=some (I x.err)/\w.cell? ⟨b,off+k * 2+1,none⟩=some (I x.n):=by
 obtain ⟨ao,cap,h1,h2,h3,-,h5⟩:=h.form (by decide)
 refine ⟨ao,cap,h1,h2,h3,fun k x hx=>?_⟩
 obtain ⟨b,off,c,e,-,hc,hcell⟩:=h5 k x hx
 have hc:c=[I x.err,I x.n]:=hc
 subst hc
 exact ⟨b,off,e,hcell 0 _ rfl,by rw [Nat.add_assoc]; exact hcell 1 _ rfl⟩
theorem znk {w:World} {v:Value} {l:List Cl} (h:zaj 4 zbX w v l):∃ ao cap,v=.slice ao l.length cap/\l.length<=cap/\cap<=maxLen /\
  ∀ k x,l[k]?=some x->∃ b off,ao=some ⟨b,off,none⟩/\w.cell? ⟨b,off+k * 4,none⟩=some (I x.kind)/\w.cell? ⟨b,off+k * 4+1,none⟩=some (I x.name)/\w.cell? ⟨b,off+k * 4+2,none⟩=some (I x.other)/\w.cell? ⟨b,off+k * 4+3,none⟩=some (I x.n):=by
 obtain ⟨ao,cap,h1,h2,h3,-,h5⟩:=h.form (by decide)
 refine ⟨ao,cap,h1,h2,h3,fun k x hx=>?_⟩
 obtain ⟨b,off,c,e,-,hc,hcell⟩:=h5 k x hx
 have hc:c=[I x.kind,I x.name,I x.other,I x.n]:=hc
 subst hc
 exact ⟨b,off,e,hcell 0 _ rfl,by rw [Nat.add_assoc]; exact hcell 1 _ rfl,by rw [Nat.add_assoc]; exact hcell 2 _ rfl,by rw [Nat.add_assoc]; exact hcell 3 _ rfl⟩
theorem zr4 {w:World} {v:Value} {l:List Cn} (h:zaj 6 zcG w v l):∃ ao cap,v=.slice ao l.length cap/\l.length<=cap/\cap<=maxLen /\
  ∀ k x,l[k]?=some x->∃ b off x1 x2 x3,ao=some ⟨b,off,none⟩/\w.cell? ⟨b,off+k * 6,none⟩=some x1/\w.cell? ⟨b,off+k * 6+1,none⟩=some (I x.at_)/\w.cell? ⟨b,off+k * 6+2,none⟩=some (.bool x.sent)/\w.cell? ⟨b,off+k * 6+3,none⟩=some (I x.gen) /\
   w.cell? ⟨b,off+k * 6+4,none⟩=some x2/\w.cell? ⟨b,off+k * 6+5,none⟩=some x3/\zcG w [x1,I x.at_,.bool x.sent,I x.gen,x2,x3] x:=by
 obtain ⟨ao,cap,h1,h2,h3,-,h5⟩:=h.form (by decide)
 refine ⟨ao,cap,h1,h2,h3,fun k x hx=>?_⟩
 obtain ⟨b,off,c,e,-,hc,hcell⟩:=h5 k x hx
 obtain ⟨x1,x2,x3,rfl,hc'⟩:=hc
 exact ⟨b,off,x1,x2,x3,e,hcell 0 _ rfl,by rw [Nat.add_assoc]; exact hcell 1 _ rfl,by rw [Nat.add_assoc]; exact hcell 2 _ rfl,by rw [Nat.add_assoc]; exact hcell 3 _ rfl,by rw [Nat.add_assoc]; exact hcell 4 _ rfl,by rw [Nat.add_assoc]; exact hcell 5 _ rfl,x1,x2,x3,rfl,hc'⟩

open Go.RowKit Go.Mk

theorem zkv {l:List (List Cl)} (hl:zaG l) {m:Mc} {ks:List Nat} {bz:Option Nat} (h:MInv l m ks bz) {k:Nat} (hs:SizeM m k) (hk:k<=1000):zg1 m:=by
 have h1:=h.cells
 have h2:=hs.undo
 have h3:=hs.answers
 have h4:=hs.past
 have h5:=hs.box
 refine ⟨⟨by omega,by omega,by omega,by omega⟩,⟨by omega,fun b hb=>?_,?_⟩,by rw [h.nc]; have:=hl.1; omega,fun c hc=>?_⟩
 ·rw [h.box] at hb
  obtain ⟨k,_,rfl⟩:=List.mem_map.1 hb
  exact Nat.le_trans (Nat.le_of_eq rfl) (by decide:(10:Nat)<=140737488355328)
 ·cases hz:bz with
  | none=>rw [h.idle hz]; exact Nat.zero_le _
  | some i=>have:=(h.work i hz).2.2.2.2; omega
 ·obtain ⟨i,hi⟩:=List.mem_iff_getElem?.1 hc
  have hci:=h.clients i c hi
  have h6:=hs.each c hc
  refine ⟨?_,by omega,fun b hb=>?_,by omega⟩
  ·rw [hci.calls,List.getD_eq_getElem?_getD]
   cases e:l[i]? with
   | none=>simp
   | some x=>have:=(hl.2 x (List.mem_of_getElem? e)).1; simp; omega
  ·cases hci.phase with
   | rest _ _ _ e _=>rw [e] at hb; cases hb
   | wait _ _ _ _ e _=>rw [e] at hb; cases hb
   | work _ _ _ _ e _ _=>rw [e] at hb; cases hb
   | lost _ _ _ e _ _=>rw [e] at hb; cases hb
   | hear _ _ _ _ e =>
    rw [e] at hb
    rw [List.mem_singleton.1 hb]
    exact Nat.le_trans (Nat.le_of_eq rfl) (by decide:(8:Nat)<=140737488355328)

structure Gd (l:List (List Cl)) (m:Mc) (k:Nat):Prop where
 right:zaG l
 inv:∃ ks bz,MInv l m ks bz
 size:SizeM m k
section
variable {l:List (List Cl)} {m:Mc} {k:Nat}
theorem Gd.small (h:Gd l m k) (hk:k<=1000):zg1 m:=by
 obtain ⟨h1,⟨ks,bz,h2⟩,h3⟩:=h
 exact zkv h1 h2 h3 hk
theorem Gd.falls (h:Gd l m k):0<=m.falls/\m.falls<=6:=by
 obtain ⟨_,⟨ks,bz,h2⟩,_⟩:=h
 exact h2.falls
theorem Gd.cells (h:Gd l m k):m.store.cells.length * 8<=140737488355328:=by
 obtain ⟨_,⟨ks,bz,h2⟩,_⟩:=h
 have:=h2.cells
 omega
theorem Gd.down (h:Gd l m k) (hu:m.up=false):1<=m.pause/\m.pause<=1000000:=by
 obtain ⟨_,⟨ks,bz,h2⟩,_⟩:=h
 have:=h2.down hu
 omega
theorem Gd.pause (h:Gd l m k):0<=m.pause/\m.pause<=1000000:=by
 obtain ⟨_,⟨ks,bz,h2⟩,_⟩:=h
 cases hu:m.up with
 | true=>have:=h2.upp hu; omega
 | false=>have:=h2.down hu; omega
theorem Gd.gen (h:Gd l m k):0<=m.server.gen/\m.server.gen<=1000000:=by
 obtain ⟨_,⟨ks,bz,h2⟩,_⟩:=h
 obtain ⟨g1,g2,g3⟩:=h2.gens
 have hf:=h2.falls
 cases hu:m.up with
 | true=>have:=g2 hu; omega
 | false=>have:=g3 hu; omega
end

def zvm (m:Mc) (r:Value) (w:World):Prop:=∃ c u a p box plan cl,r=.agg (zaM m c u a p box plan cl).toArray/\RdM (fun _=>True) w m c u a p box plan cl
theorem zvm.ext {m:Mc} {r:Value} {w w':World} (h:zvm m r w) (he:Ext w w'):zvm m r w':=by
 obtain ⟨c,u,a,p,box,plan,cl,e,h⟩:=h
 exact ⟨c,u,a,p,box,plan,cl,e,h.ext he⟩
def zuD (s:St) (r:Value) (w:World):Prop:=∃ c u a p,r=.agg #[c,u,a,p]/\zc7 w [c,u,a,p] s
theorem zuD.ext {s:St} {r:Value} {w w':World} (h:zuD s r w) (he:Ext w w'):zuD s r w':=by
 obtain ⟨c,u,a,p,e,h⟩:=h
 exact ⟨c,u,a,p,e,zf7 _ _ _ _ he h⟩
theorem ztb {P:Program} {f:FuncId} {args:Array Value} {w:World} {A:Nat->Prop} {s:St} (h:za3 P f args w A (fun r w'=>Agg zc7 s r w')):zaw P f args w (zuD s):=Calls.mono h fun _ w' ⟨r,he,hx,ht⟩=>⟨r,he,hx,by
 obtain ⟨cs,rfl,hcs⟩:=zcb ht
 obtain ⟨c,u,a,p,rfl,_⟩:=zkA hcs
 exact ⟨c,u,a,p,rfl,hcs.o⟩⟩

theorem zhc {P:Program} {ops:Array Oper} {rest:List Oper} {o:Oper} {a:Act} {w:World} {Q:Exit->Act->World->Prop} (hw:Region.wanted o (yielded ops a.tmps)=true) (ty:TypeId) (x:Operand) (ho:o.op=.load ty x) (b off:Nat) (hx:a.eval x=.pointer (some ⟨b,off,none⟩)) {cs:Array Value} {t:TypeId} (hg:Hid (w.heap[b]?=some (.cells cs t (0,0))))
  (vs:List Value) (hsub:(cs.toList.drop off).take vs.length=vs) {fs:Array Field} (hu:P.underlying ty=some (.struct fs)) (hi:(P.info? ty).map (·.size)=some vs.length)
  (h:∀ v,Hid (v=.agg vs.toArray)->wpList P ops Q rest (a.put o.dst v) w):wpList P ops Q (o::rest) a w:=by
 refine wpList_step fun K hK=>?_
 rw [if_pos hw]
 unfold Oper.wp
 rw [zcz ty x ho b off hx hg.o vs hsub hu hi,Oper.upon_value]
 exact hK _ _ (h _ rfl)

theorem zu7 {w:World} {B C:Nat->Prop} {b:Nat} {x:Obj} (h:Hid (∀ k,C k↔(B k∨w.heap.size<=k))) (n:Hid (¬ B b)) (hb:Hid (w.heap[b]?=some x)):Hid (¬ C b):=fun q=>by
 rcases (h.o _).1 q with q | q
 ·exact n.o q
 ·have:=(Array.getElem?_eq_some_iff.1 hb.o).1
  omega

open Go.RowKit Go.Mk

open Go.RowKit Go.Mk

open Go.RowKit Go.Mk

open Go.RowKit Go.Mk

structure Fit (m:Mc):Prop where
 cells:m.store.cells.length=11
 undo:m.store.undo.length<=1000
 answers:m.store.answers.length<=1000
 past:m.store.past.length<=1000
 right:m.up=true->m.server.busy=false->zni m.store.cells
 clients:m.clients.length<=1000
 each:∀ c ∈ m.clients,0<=c.at_/\c.at_<=1000000/\c.got.length<=1000/\c.box.length<=1000
 box:m.server.box.length<=1000
 falls:0<=m.falls
 gen:0<=m.server.gen/\m.server.gen<=1000000
 pause:0<=m.pause/\m.pause<=1000000

open Go.RowKit Go.Mk

theorem zuF {l:List (List Cl)} (hl:zaG l) {m:Mc} {ks:List Nat} {bz:Option Nat} (h:MInv l m ks bz) {k:Nat} (hs:SizeM m k) (hk:k<=1000):Fit m where
 cells:=h.cells
 undo:=Nat.le_trans hs.undo hk
 answers:=Nat.le_trans hs.answers hk
 past:=Nat.le_trans hs.past hk
 right:=fun hu hb=>by
  have h1:bz=none:=by
   have:=h.busy
   rw [hb] at this
   cases bz with
   | none=>rfl
   | some i=>cases this
  have h2:=h.right
  rw [h.clean hu h1] at h2
  exact zo4 h2
 clients:=by rw [h.nc]; have:=hl.1; omega
 each:=fun c hc=>by
  obtain ⟨i,hi⟩:=List.mem_iff_getElem?.1 hc
  have h1:=(h.clients i c hi).at_
  have h2:=hs.each c hc
  rw [h1]
  omega
 box:=Nat.le_trans hs.box hk
 falls:=h.falls.1
 gen:=by
  obtain ⟨g1,g2,g3⟩:=h.gens
  have hf:=h.falls
  cases hu:m.up with
  | true=>have:=g2 hu; omega
  | false=>have:=g3 hu; omega
 pause:=by
  cases hu:m.up with
  | true=>have:=h.upp hu; omega
  | false=>have:=h.down hu; omega

end Go.Proofs.YtdmipnnfoolelagGreatDoor
