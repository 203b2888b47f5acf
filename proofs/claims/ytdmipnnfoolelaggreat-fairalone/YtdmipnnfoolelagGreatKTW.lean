/- Texts of the proof, merged: G3 N15 S5 N18 G4. -/
import Derived.Test.YtdmipnnfoolelagGreatKTA
import Derived.Test.YtdmipnnfoolelagGreatKTU
import Derived.Test.YtdmipnnfoolelagGreatKTM
import Derived.Test.YtdmipnnfoolelagGreatKTV
import Derived.Test.YtdmipnnfoolelagGreatKTF
import Derived.Test.YtdmipnnfoolelagGreatKTS
import Derived.Test.YtdmipnnfoolelagGreatKTH
import Derived.Test.YtdmipnnfoolelagGreatKTJ
set_option maxHeartbeats 2000000
set_option maxRecDepth 100000

namespace Go.Proofs.YtdmipnnfoolelagGreat
open Go.RowKit Go.Mk

theorem zn9 (n:Int) (w:World):zaV Tryz.prog 95 #[I n] w fun r _=>r=I (pauseOf n):=by
 unfold zaV
 have HP:Hid (pauseOf n=if n<=1 then 1 else if 3<=n then 3 else n):=by
  unfold Hid pauseOf;repeat' split
  all_goals omega
 generalize pauseOf n=pn at *;by_cases h1:n<=1
 ·obtain rfl:pn=1:=by have q:=HP.o; rw [if_pos h1] at q; exact q
  go_enter Tryz.func95,Tryz.ntmps95
  go_wp2
  go_ret
  refine ⟨_,rfl,Ext.refl _,?_⟩;simp <;> omega
 ·by_cases h3:3<=n
  ·obtain rfl:pn=3:=by have q:=HP.o; rw [if_neg h1,if_pos h3] at q; exact q
   go_enter Tryz.func95,Tryz.ntmps95
   go_wp2
   go_ret
   refine ⟨?_,Ext.refl _⟩;show Ending.returned (Value.int IntKind.i64 (min (max n 1) 3))=_
   rw [show min (max n 1) 3=(3:Int) by omega]
  ·obtain rfl:pn=n:=by have q:=HP.o; rw [if_neg h1,if_neg h3] at q; exact q
   go_enter Tryz.func95,Tryz.ntmps95
   go_wp2
   go_ret
   refine ⟨?_,Ext.refl _⟩;show Ending.returned (Value.int IntKind.i64 (min (max pn 1) 3))=_
   rw [show min (max pn 1) 3=pn by omega]

theorem zkg (gen:Int) (w:World):zaV Tryz.prog 96 #[I gen] w fun r _=>r=.agg #[I gen,.slice none 0 0,.bool false,I 0,I 0,I 0,I 0,I 0,I 0,.slice none 0 0,I 0,I 0]:=by
 unfold zaV;have EW:=zhd (Ext.refl w);go_enter Tryz.func96,Tryz.ntmps96
 go_wp2_with (with_reducible refine zT ?_)
 refine zaf rfl 42 zS (by kernel_rfl) (fun b0 w1_ M1=>?_);have zaa:=zmb M1;have zbl:Hid (w.heap.size<=b0):=by unfold Hid; have q:=M1.o.at_; omega
 go_wp2_with (with_reducible refine zT ?_)
 refine za7 rfl 42 #[(0,.tmp 3)] rfl #[I gen,.slice none 0 0,.bool false,I 0,I 0,I 0,I 0,I 0,I 0,.slice none 0 0,I 0,I 0] (by kernel_rfl) (fun v4 H_v4=>?_);go_wp2_with (with_reducible refine zT ?_)
 refine zab rfl 42 (.tmp 2) (.tmp 4) rfl b0 rfl _ (zcv H_v4) zaa rfl zda rfl (fun w2_ M2=>?_);replace zaa:=zwb M2;go_wp2
 have z0:=zap (P:=Tryz.prog) 42 zaa.o zcj (by kernel_rfl);refine bodyPost_ret (by simp [results,Tryz.results96,asAddr,z0,Act.put]; rfl) rfl ?_;replace EW:=zwe M2 (zet EW M1) zbl;exact ⟨_,rfl,EW.o,rfl⟩

theorem zlK (m:Mc) (c u a p box plan cl:Value) (w:World) (A:Nat->Prop) (h:RdM A w m c u a p box plan cl) (hs:zhi m) (hf:0<=m.falls) :
  zaJ Tryz.prog 84 #[.agg (zaL m c u a p box plan cl).toArray] w (fun _=>False) (fun r w'=>zge zdc (zd2 m).1 (zd2 m).2 r w'):=by
 unfold zaJ;obtain ⟨ca,cc,ua,uc,aa,ac,pa,pc,xa,xc,la,lc,ka,kc,rfl,rfl,rfl,rfl,rfl,rfl,rfl⟩:=h.slices;obtain ⟨⟨sc,su,sa,sp⟩,⟨gen,bl,busy,⟨nc,nt,⟨nk,na,no,nn⟩⟩,pl,⟨se,sn⟩⟩,up,pause,falls,cls⟩:=m;simp only [zaL] at *;have H:=zhd h;have HS:=zhd hs;clear h hs;have EW:=zhd (Ext.refl w);obtain ⟨B,hB⟩:=zds (fun _=>False) w.heap.size 2;have HK:=zhd hB;clear hB;cases up
 case false =>
  have hX:zd2 ⟨⟨sc,su,sa,sp⟩,⟨gen,bl,busy,⟨nc,nt,⟨nk,na,no,nn⟩⟩,pl,⟨se,sn⟩⟩,false,pause,falls,cls⟩=(⟨⟨sc,su,sa,sp⟩,⟨gen,bl,busy,⟨nc,nt,⟨nk,na,no,nn⟩⟩,pl,⟨se,sn⟩⟩,false,pause,falls,cls⟩,11):=rfl;rw [hX];clear hX;go_enter Tryz.func84,Tryz.ntmps84
  go_wp2_with (with_reducible refine zT ?_)
  refine zaj rfl 45 (.tmp 0) rfl #[.slice ca sc.length cc,.slice ua su.length uc,.slice aa sa.length ac,.slice pa sp.length pc,I gen,.slice xa bl.length xc,.bool busy,I nc,I nt,I nk,I na,I no,I nn,.slice la pl.length lc,I se,I sn,.bool false,I pause,I falls,.slice ka cls.length kc] rfl (fun b0 w1_ M1=>?_);have zaa:=zmb M1;go_wp2_with (with_reducible refine zT ?_)
  refine zaf rfl 45 zM (by kernel_rfl) (fun b1 w2_ M2=>?_);have zac:=zmb M2;have zaW:=zA0 M1;have za1:=zA1 zaW M1 M2;have zas:=znb HK za1 (by decide);have zaZ:=zob za1;go_wp2_with (with_reducible refine zT ?_)
  replace zaa:=zmo M2 zaa;refine zah rfl 45 (.tmp 1) rfl b0 rfl zaa zaY zaP (fun v5 H_v5=>?_);go_wp2_with fail
  rw [show _=Value.agg #[.slice ca sc.length cc,.slice ua su.length uc,.slice aa sa.length ac,.slice pa sp.length pc,I gen,.slice xa bl.length xc,.bool busy,I nc,I nt,I nk,I na,I no,I nn,.slice la pl.length lc,I se,I sn,.bool false,I pause,I falls,.slice ka cls.length kc] from H_v5.o];clear H_v5;have hin:∀ k,w2_.heap.size<=k->B k:=fun k h=>HK.o.2.1 k (by have q:=(zlt zac); have q2:=za1.o; omega);replace EW:=zet (zet EW M1) M2;refine (zc8 ⟨⟨sc,su,sa,sp⟩,⟨gen,bl,busy,⟨nc,nt,⟨nk,na,no,nn⟩⟩,pl,⟨se,sn⟩⟩,false,pause,falls,cls⟩ _ _ _ _ _ _ _ w2_ A (H.o.ext EW.o) HS.o).to fun r wa ea hr=>?_;obtain ⟨cs,rfl,hcs⟩:=zbU hr;obtain ⟨c',u',a',p',box',plan',cl',rfl,hM⟩:=zcB hcs;obtain ⟨ca1,cc1,ua1,uc1,aa1,ac1,pa1,pc1,xa1,xc1,la1,lc1,ka1,kc1,rfl,rfl,rfl,rfl,rfl,rfl,rfl⟩:=hM.slices;have H1:=zhd (hM.widen (B:=B) fun k _ h=>hin k (by rcases h with h | h; exact h.elim; exact h));clear hr hcs hM hin;replace zaa:=zbx zaa ea;replace zac:=zbx zac ea;replace EW:=zhd (EW.o.trans ea);clear ea;go_wp2_with (with_reducible refine zT ?_)
  refine zaf rfl 45 zM (by kernel_rfl) (fun b4 w3_ M3=>?_);have zce:=zld zaa M3;have zbp:=zld zac M3;obtain ⟨B1,HB1⟩:=zEx B b4;have zcY:=zNn HB1;have zf1:=zIn HB1;have zd6:=zOn M3 EW;have zaH:=zmb M3;go_wp2_with (with_reducible refine zT ?_)
  refine zab rfl 45 (.tmp 4) (.tmp 6) rfl b4 rfl [.slice ca1 sc.length cc1,.slice ua1 su.length uc1,.slice aa1 sa.length ac1,.slice pa1 sp.length pc1,I gen,.slice xa1 bl.length xc1,.bool busy,I nc,I nt,I nk,I na,I no,I nn,.slice la1 pl.length lc1,I se,I sn,.bool false,I pause,I falls,.slice ka1 cls.length kc1] (rfl) zaH rfl zaP rfl (fun w4_ M4=>?_);replace zaH:=zwb M4;replace zaa:=zwl M4 (zmo M3 zaa) zce;have c16:=zad (i:=16) zaa.o rfl;go_wp2_with (with_reducible refine zT ?_)
  clear c16;refine zah rfl 45 (.tmp 4) rfl b4 rfl zaH zaY zaP (fun v11 H_v11=>?_);go_wp2_with (with_reducible refine zT ?_)
  replace zac:=zwl M4 (zmo M3 zac) zbp;refine zab rfl 45 (.tmp 2) (.tmp 11) rfl b1 rfl _ (zcv H_v11) zac rfl zaP rfl (fun w5_ M5=>?_);replace zac:=zwb M5;replace zas:=znw HB1 zas;go_wp2
  have z0:=zap (P:=Tryz.prog) 45 zac.o zaY (by kernel_rfl);refine bodyPost_ret (by simp [results,Tryz.results84,asAddr,z0]; rfl) rfl ?_;replace H1:=zHw M5 (zHw M4 (zhd ((zMD HB1 M3 H1).o.ext M3.o.ext)) zcY) zas;replace EW:=zwe M5 (zwe M4 (zet EW M3) zd6) zaZ;exact ⟨_,rfl,EW.o,Rd.widen (zbO (RdM.mc (m:=⟨⟨sc,su,sa,sp⟩,⟨gen,bl,busy,⟨nc,nt,⟨nk,na,no,nn⟩⟩,pl,⟨se,sn⟩⟩,false,pause,falls,cls⟩) H1.o)) (fun k _ h=>HK.o.2.2.2 k (zf1.o k h))⟩
 by_cases h6:6<=falls
 case pos =>
  have hX:zd2 ⟨⟨sc,su,sa,sp⟩,⟨gen,bl,busy,⟨nc,nt,⟨nk,na,no,nn⟩⟩,pl,⟨se,sn⟩⟩,true,pause,falls,cls⟩=(⟨⟨sc,su,sa,sp⟩,⟨gen,bl,busy,⟨nc,nt,⟨nk,na,no,nn⟩⟩,pl,⟨se,sn⟩⟩,true,pause,falls,cls⟩,5):=by
   show (if ¬ (true=true) then _ else if 6<=falls then _ else _)=_
   rw [if_neg (by simp),if_pos h6]
  rw [hX];clear hX;go_enter Tryz.func84,Tryz.ntmps84
  go_wp2_with (with_reducible refine zT ?_)
  refine zaj rfl 45 (.tmp 0) rfl #[.slice ca sc.length cc,.slice ua su.length uc,.slice aa sa.length ac,.slice pa sp.length pc,I gen,.slice xa bl.length xc,.bool busy,I nc,I nt,I nk,I na,I no,I nn,.slice la pl.length lc,I se,I sn,.bool true,I pause,I falls,.slice ka cls.length kc] rfl (fun b0 w1_ M1=>?_);have zaa:=zmb M1;go_wp2_with (with_reducible refine zT ?_)
  refine zaf rfl 45 zM (by kernel_rfl) (fun b1 w2_ M2=>?_);have zac:=zmb M2;have zaW:=zA0 M1;have za1:=zA1 zaW M1 M2;have zas:=znb HK za1 (by decide);have zaZ:=zob za1;go_wp2_with (with_reducible refine zT ?_)
  replace zaa:=zmo M2 zaa;refine zah rfl 45 (.tmp 1) rfl b0 rfl zaa zaY zaP (fun v5 H_v5=>?_);go_wp2_with fail
  rw [show _=Value.agg #[.slice ca sc.length cc,.slice ua su.length uc,.slice aa sa.length ac,.slice pa sp.length pc,I gen,.slice xa bl.length xc,.bool busy,I nc,I nt,I nk,I na,I no,I nn,.slice la pl.length lc,I se,I sn,.bool true,I pause,I falls,.slice ka cls.length kc] from H_v5.o];clear H_v5;have hin:∀ k,w2_.heap.size<=k->B k:=fun k h=>HK.o.2.1 k (by have q:=(zlt zac); have q2:=za1.o; omega);replace EW:=zet (zet EW M1) M2;refine (zc8 ⟨⟨sc,su,sa,sp⟩,⟨gen,bl,busy,⟨nc,nt,⟨nk,na,no,nn⟩⟩,pl,⟨se,sn⟩⟩,true,pause,falls,cls⟩ _ _ _ _ _ _ _ w2_ A (H.o.ext EW.o) HS.o).to fun r wa ea hr=>?_;obtain ⟨cs,rfl,hcs⟩:=zbU hr;obtain ⟨c',u',a',p',box',plan',cl',rfl,hM⟩:=zcB hcs;obtain ⟨ca1,cc1,ua1,uc1,aa1,ac1,pa1,pc1,xa1,xc1,la1,lc1,ka1,kc1,rfl,rfl,rfl,rfl,rfl,rfl,rfl⟩:=hM.slices;have H1:=zhd (hM.widen (B:=B) fun k _ h=>hin k (by rcases h with h | h; exact h.elim; exact h));clear hr hcs hM hin;replace zaa:=zbx zaa ea;replace zac:=zbx zac ea;replace EW:=zhd (EW.o.trans ea);clear ea;go_wp2_with (with_reducible refine zT ?_)
  refine zaf rfl 45 zM (by kernel_rfl) (fun b4 w3_ M3=>?_);have zce:=zld zaa M3;have zbp:=zld zac M3;obtain ⟨B1,HB1⟩:=zEx B b4;have zcY:=zNn HB1;have zf1:=zIn HB1;have zd6:=zOn M3 EW;have zaH:=zmb M3;go_wp2_with (with_reducible refine zT ?_)
  refine zab rfl 45 (.tmp 4) (.tmp 6) rfl b4 rfl [.slice ca1 sc.length cc1,.slice ua1 su.length uc1,.slice aa1 sa.length ac1,.slice pa1 sp.length pc1,I gen,.slice xa1 bl.length xc1,.bool busy,I nc,I nt,I nk,I na,I no,I nn,.slice la1 pl.length lc1,I se,I sn,.bool true,I pause,I falls,.slice ka1 cls.length kc1] (rfl) zaH rfl zaP rfl (fun w4_ M4=>?_);replace zaH:=zwb M4;replace zaa:=zwl M4 (zmo M3 zaa) zce;have c16:=zad (i:=16) zaa.o rfl;have c18:=zad (i:=18) zaa.o rfl;go_wp2_with (with_reducible refine zT ?_)
  clear c16 c18;refine zah rfl 45 (.tmp 4) rfl b4 rfl zaH zaY zaP (fun v16 H_v16=>?_);go_wp2_with (with_reducible refine zT ?_)
  replace zac:=zwl M4 (zmo M3 zac) zbp;refine zab rfl 45 (.tmp 2) (.tmp 16) rfl b1 rfl _ (zcv H_v16) zac rfl zaP rfl (fun w5_ M5=>?_);replace zac:=zwb M5;replace zas:=znw HB1 zas;go_wp2
  have z0:=zap (P:=Tryz.prog) 45 zac.o zaY (by kernel_rfl);refine bodyPost_ret (by simp [results,Tryz.results84,asAddr,z0]; rfl) rfl ?_;replace H1:=zHw M5 (zHw M4 (zhd ((zMD HB1 M3 H1).o.ext M3.o.ext)) zcY) zas;replace EW:=zwe M5 (zwe M4 (zet EW M3) zd6) zaZ;exact ⟨_,rfl,EW.o,Rd.widen (zbO (RdM.mc (m:=⟨⟨sc,su,sa,sp⟩,⟨gen,bl,busy,⟨nc,nt,⟨nk,na,no,nn⟩⟩,pl,⟨se,sn⟩⟩,true,pause,falls,cls⟩) H1.o)) (fun k _ h=>HK.o.2.2.2 k (zf1.o k h))⟩
 have hX:zd2 ⟨⟨sc,su,sa,sp⟩,⟨gen,bl,busy,⟨nc,nt,⟨nk,na,no,nn⟩⟩,pl,⟨se,sn⟩⟩,true,pause,falls,cls⟩=(⟨⟨sc,su,sa,sp⟩,zbQ gen [],false,pauseOf (falls+1),falls+1,cls⟩,0):=by
  show (if ¬ (true=true) then _ else if 6<=falls then _ else _)=_
  rw [if_neg (by simp),if_neg h6]
 rw [hX];clear hX;have h5:falls < 6:=by omega
 have hf0:(0:Int)<=falls:=hf;go_enter Tryz.func84,Tryz.ntmps84
 go_wp2_with (with_reducible refine zT ?_)
 refine zaj rfl 45 (.tmp 0) rfl #[.slice ca sc.length cc,.slice ua su.length uc,.slice aa sa.length ac,.slice pa sp.length pc,I gen,.slice xa bl.length xc,.bool busy,I nc,I nt,I nk,I na,I no,I nn,.slice la pl.length lc,I se,I sn,.bool true,I pause,I falls,.slice ka cls.length kc] rfl (fun b0 w1_ M1=>?_);have zaa:=zmb M1;go_wp2_with (with_reducible refine zT ?_)
 refine zaf rfl 45 zM (by kernel_rfl) (fun b1 w2_ M2=>?_);have zac:=zmb M2;have zaW:=zA0 M1;have za1:=zA1 zaW M1 M2;have zas:=znb HK za1 (by decide);have zaZ:=zob za1;go_wp2_with (with_reducible refine zT ?_)
 replace zaa:=zmo M2 zaa;refine zah rfl 45 (.tmp 1) rfl b0 rfl zaa zaY zaP (fun v5 H_v5=>?_);go_wp2_with fail
 rw [show _=Value.agg #[.slice ca sc.length cc,.slice ua su.length uc,.slice aa sa.length ac,.slice pa sp.length pc,I gen,.slice xa bl.length xc,.bool busy,I nc,I nt,I nk,I na,I no,I nn,.slice la pl.length lc,I se,I sn,.bool true,I pause,I falls,.slice ka cls.length kc] from H_v5.o];clear H_v5;have hin:∀ k,w2_.heap.size<=k->B k:=fun k h=>HK.o.2.1 k (by have q:=(zlt zac); have q2:=za1.o; omega);replace EW:=zet (zet EW M1) M2;refine (zc8 ⟨⟨sc,su,sa,sp⟩,⟨gen,bl,busy,⟨nc,nt,⟨nk,na,no,nn⟩⟩,pl,⟨se,sn⟩⟩,true,pause,falls,cls⟩ _ _ _ _ _ _ _ w2_ A (H.o.ext EW.o) HS.o).to fun r wa ea hr=>?_;obtain ⟨cs,rfl,hcs⟩:=zbU hr;obtain ⟨c',u',a',p',box',plan',cl',rfl,hM⟩:=zcB hcs;obtain ⟨ca1,cc1,ua1,uc1,aa1,ac1,pa1,pc1,xa1,xc1,la1,lc1,ka1,kc1,rfl,rfl,rfl,rfl,rfl,rfl,rfl⟩:=hM.slices;have H1:=zhd (hM.widen (B:=B) fun k _ h=>hin k (by rcases h with h | h; exact h.elim; exact h));clear hr hcs hM hin;replace zaa:=zbx zaa ea;replace zac:=zbx zac ea;replace EW:=zhd (EW.o.trans ea);clear ea;go_wp2_with (with_reducible refine zT ?_)
 refine zaf rfl 45 zM (by kernel_rfl) (fun b4 w3_ M3=>?_);have zce:=zld zaa M3;have zbp:=zld zac M3;obtain ⟨B1,HB1⟩:=zEx B b4;have zcY:=zNn HB1;have zf1:=zIn HB1;have zd6:=zOn M3 EW;have zaH:=zmb M3;go_wp2_with (with_reducible refine zT ?_)
 refine zab rfl 45 (.tmp 4) (.tmp 6) rfl b4 rfl [.slice ca1 sc.length cc1,.slice ua1 su.length uc1,.slice aa1 sa.length ac1,.slice pa1 sp.length pc1,I gen,.slice xa1 bl.length xc1,.bool busy,I nc,I nt,I nk,I na,I no,I nn,.slice la1 pl.length lc1,I se,I sn,.bool true,I pause,I falls,.slice ka1 cls.length kc1] (rfl) zaH rfl zaP rfl (fun w4_ M4=>?_);replace zaH:=zwb M4;replace zaa:=zwl M4 (zmo M3 zaa) zce;have c16:=zad (i:=16) zaa.o rfl;have c18:=zad (i:=18) zaa.o rfl;have d18:=zad (i:=18) zaH.o rfl;go_wp2_with (with_reducible refine zT ?_)
 clear c16 c18 d18;refine zal rfl 3 (.tmp 20) (.tmp 19) rfl b4 18 rfl [I (falls+1)] (rfl) zaH rfl zi3 rfl [.slice ca1 sc.length cc1,.slice ua1 su.length uc1,.slice aa1 sa.length ac1,.slice pa1 sp.length pc1,I gen,.slice xa1 bl.length xc1,.bool busy,I nc,I nt,I nk,I na,I no,I nn,.slice la1 pl.length lc1,I se,I sn,.bool true,I pause,I (falls+1),.slice ka1 cls.length kc1] rfl (fun w5_ M5=>?_);replace zaH:=zwb M5;have d18:=zad (i:=18) zaH.o rfl;go_wp2_with fail
 clear d18;refine (zn9 (falls+1) w5_).to fun r wb eb hr=>?_;subst hr;replace H1:=zhd ((zHw M5 (zHw M4 (zhd ((zMD HB1 M3 H1).o.ext M3.o.ext)) zcY) zcY).o.ext eb);replace zac:=zbx (zwl M5 (zwl M4 (zmo M3 zac) zbp) zbp) eb;replace EW:=zhd ((zwe M5 (zwe M4 (zet EW M3) zd6) zd6).o.trans eb);replace zaa:=zbx (zwl M5 zaa zce) eb;replace zaH:=zbx zaH eb;clear eb;replace zas:=znw HB1 zas;generalize hpn:pauseOf (falls+1)=pn at *;have HPN:=zhd hpn;clear hpn;go_wp2_with (with_reducible refine zT ?_)
 refine zal rfl 4 (.tmp 24) (.const (.bool false)) rfl b4 16 rfl [.bool false] (rfl) zaH rfl zi4 rfl [.slice ca1 sc.length cc1,.slice ua1 su.length uc1,.slice aa1 sa.length ac1,.slice pa1 sp.length pc1,I gen,.slice xa1 bl.length xc1,.bool busy,I nc,I nt,I nk,I na,I no,I nn,.slice la1 pl.length lc1,I se,I sn,.bool false,I pause,I (falls+1),.slice ka1 cls.length kc1] rfl (fun w6_ M6=>?_);replace zaH:=zwb M6;go_wp2_with (with_reducible refine zT ?_)
 refine zal rfl 3 (.tmp 25) (.tmp 23) rfl b4 17 rfl [I pn] (rfl) zaH rfl zi3 rfl [.slice ca1 sc.length cc1,.slice ua1 su.length uc1,.slice aa1 sa.length ac1,.slice pa1 sp.length pc1,I gen,.slice xa1 bl.length xc1,.bool busy,I nc,I nt,I nk,I na,I no,I nn,.slice la1 pl.length lc1,I se,I sn,.bool false,I pn,I (falls+1),.slice ka1 cls.length kc1] rfl (fun w7_ M7=>?_);replace zaH:=zwb M7;replace zaa:=zwl M7 (zwl M6 zaa zce) zce;have c4:=zad (i:=4) zaa.o rfl;go_wp2_with fail
 clear c4;refine (zkg gen w7_).to fun r wc ec hr=>?_;subst hr;replace zac:=zbx (zwl M7 (zwl M6 zac zbp) zbp) ec;replace H1:=zhd ((zHw M7 (zHw M6 H1 zcY) zcY).o.ext ec);replace EW:=zhd ((zwe M7 (zwe M6 EW zd6) zd6).o.trans ec);replace zaa:=zbx zaa ec;replace zaH:=zbx zaH ec;clear ec;go_wp2_with (with_reducible refine zT ?_)
 refine zal rfl 42 (.tmp 30) (.tmp 29) rfl b4 4 rfl [I gen,.slice none 0 0,.bool false,I 0,I 0,I 0,I 0,I 0,I 0,.slice none 0 0,I 0,I 0] (rfl) zaH rfl zda rfl [.slice ca1 sc.length cc1,.slice ua1 su.length uc1,.slice aa1 sa.length ac1,.slice pa1 sp.length pc1,I gen,.slice none 0 0,.bool false,I 0,I 0,I 0,I 0,I 0,I 0,.slice none 0 0,I 0,I 0,.bool false,I pn,I (falls+1),.slice ka1 cls.length kc1] rfl (fun w8_ M8=>?_);replace zaH:=zwb M8;go_wp2_with (with_reducible refine zT ?_)
 refine zah rfl 45 (.tmp 4) rfl b4 rfl zaH zaY zaP (fun v31 H_v31=>?_);go_wp2_with (with_reducible refine zT ?_)
 replace zac:=zwl M8 zac zbp;refine zab rfl 45 (.tmp 2) (.tmp 31) rfl b1 rfl _ (zcv H_v31) zac rfl zaP rfl (fun w9_ M9=>?_);replace zac:=zwb M9;go_wp2
 have z0:=zap (P:=Tryz.prog) 45 zac.o zaY (by kernel_rfl);refine bodyPost_ret (by simp [results,Tryz.results84,asAddr,z0]; rfl) rfl ?_;have hpn:=HPN.o;subst hpn;replace H1:=zHw M9 (zHw M8 H1 zcY) zas;replace EW:=zwe M9 (zwe M8 EW zd6) zaZ;exact ⟨_,rfl,EW.o,Rd.widen (zbO (RdM.mc (m:=⟨⟨sc,su,sa,sp⟩,zbQ gen [],false,pauseOf (falls+1),falls+1,cls⟩) ⟨H1.o.cells,H1.o.undo,H1.o.answers,H1.o.past,Rd.all fun w=>zat.nil w,Rd.all fun w=>zbt w,H1.o.clients⟩)) (fun k _ h=>HK.o.2.2.2 k (zf1.o k h))⟩

theorem zlR (m:Mc) (c u a p box plan cl:Value) (w:World) (A:Nat->Prop) (h:RdM A w m c u a p box plan cl) (hs:zhi m) (hg:0<=m.server.gen/\m.server.gen<=1000000) (hpz:m.up=false->1<=m.pause/\m.pause<=1000000) :
  zaJ Tryz.prog 85 #[.agg (zaL m c u a p box plan cl).toArray] w (fun _=>False) (fun r w'=>Agg zdc (zbL m) r w'):=by
 have HGN:=zhd hg;have HPZ:=zhd hpz;clear hg hpz;unfold zaJ;obtain ⟨ca,cc,ua,uc,aa,ac,pa,pc,xa,xc,la,lc,ka,kc,rfl,rfl,rfl,rfl,rfl,rfl,rfl⟩:=h.slices;obtain ⟨⟨sc,su,sa,sp⟩,⟨gen,bl,busy,⟨nc,nt,⟨nk,na,no,nn⟩⟩,pl,⟨se,sn⟩⟩,up,pause,falls,cls⟩:=m;simp only [zaL] at *;have H:=zhd h;have HS:=zhd hs;clear h hs;have EW:=zhd (Ext.refl w);obtain ⟨B,hB⟩:=zds (fun _=>False) w.heap.size 2;have HK:=zhd hB;clear hB;cases up
 case true =>
  have hX:zbL ⟨⟨sc,su,sa,sp⟩,⟨gen,bl,busy,⟨nc,nt,⟨nk,na,no,nn⟩⟩,pl,⟨se,sn⟩⟩,true,pause,falls,cls⟩=⟨⟨sc,su,sa,sp⟩,⟨gen,bl,busy,⟨nc,nt,⟨nk,na,no,nn⟩⟩,pl,⟨se,sn⟩⟩,true,pause,falls,cls⟩:=rfl;rw [hX];clear hX;go_enter Tryz.func85,Tryz.ntmps85
  go_wp2_with (with_reducible refine zT ?_)
  refine zaj rfl 45 (.tmp 0) rfl #[.slice ca sc.length cc,.slice ua su.length uc,.slice aa sa.length ac,.slice pa sp.length pc,I gen,.slice xa bl.length xc,.bool busy,I nc,I nt,I nk,I na,I no,I nn,.slice la pl.length lc,I se,I sn,.bool true,I pause,I falls,.slice ka cls.length kc] rfl (fun b0 w1_ M1=>?_);have zaa:=zmb M1;go_wp2_with (with_reducible refine zT ?_)
  refine zaf rfl 45 zM (by kernel_rfl) (fun b1 w2_ M2=>?_);have zac:=zmb M2;have zaW:=zA0 M1;have za1:=zA1 zaW M1 M2;have zas:=znb HK za1 (by decide);have zaZ:=zob za1;go_wp2_with (with_reducible refine zT ?_)
  replace zaa:=zmo M2 zaa;refine zah rfl 45 (.tmp 1) rfl b0 rfl zaa zaY zaP (fun v4 H_v4=>?_);go_wp2_with fail
  rw [show _=Value.agg #[.slice ca sc.length cc,.slice ua su.length uc,.slice aa sa.length ac,.slice pa sp.length pc,I gen,.slice xa bl.length xc,.bool busy,I nc,I nt,I nk,I na,I no,I nn,.slice la pl.length lc,I se,I sn,.bool true,I pause,I falls,.slice ka cls.length kc] from H_v4.o];clear H_v4;have hin:∀ k,w2_.heap.size<=k->B k:=fun k h=>HK.o.2.1 k (by have q:=(zlt zac); have q2:=za1.o; omega);replace EW:=zet (zet EW M1) M2;refine (zc8 ⟨⟨sc,su,sa,sp⟩,⟨gen,bl,busy,⟨nc,nt,⟨nk,na,no,nn⟩⟩,pl,⟨se,sn⟩⟩,true,pause,falls,cls⟩ _ _ _ _ _ _ _ w2_ A (H.o.ext EW.o) HS.o).to fun r wa ea hr=>?_;obtain ⟨cs,rfl,hcs⟩:=zbU hr;obtain ⟨c',u',a',p',box',plan',cl',rfl,hM⟩:=zcB hcs;obtain ⟨ca1,cc1,ua1,uc1,aa1,ac1,pa1,pc1,xa1,xc1,la1,lc1,ka1,kc1,rfl,rfl,rfl,rfl,rfl,rfl,rfl⟩:=hM.slices;have H1:=zhd (hM.widen (B:=B) fun k _ h=>hin k (by rcases h with h | h; exact h.elim; exact h));clear hr hcs hM hin;replace zaa:=zbx zaa ea;replace zac:=zbx zac ea;replace EW:=zhd (EW.o.trans ea);clear ea;go_wp2_with (with_reducible refine zT ?_)
  refine zaf rfl 45 zM (by kernel_rfl) (fun b3 w3_ M3=>?_);have za5:=zld zaa M3;have zaX:=zld zac M3;obtain ⟨B1,HB1⟩:=zEx B b3;have zbc:=zNn HB1;have zf1:=zIn HB1;have zcQ:=zOn M3 EW;have zax:=zmb M3;go_wp2_with (with_reducible refine zT ?_)
  refine zab rfl 45 (.tmp 3) (.tmp 5) rfl b3 rfl [.slice ca1 sc.length cc1,.slice ua1 su.length uc1,.slice aa1 sa.length ac1,.slice pa1 sp.length pc1,I gen,.slice xa1 bl.length xc1,.bool busy,I nc,I nt,I nk,I na,I no,I nn,.slice la1 pl.length lc1,I se,I sn,.bool true,I pause,I falls,.slice ka1 cls.length kc1] (rfl) zax rfl zaP rfl (fun w4_ M4=>?_);replace zax:=zwb M4;replace zaa:=zwl M4 (zmo M3 zaa) za5;have c16:=zad (i:=16) zaa.o rfl;go_wp2_with (with_reducible refine zT ?_)
  clear c16;refine zah rfl 45 (.tmp 3) rfl b3 rfl zax zaY zaP (fun v8 H_v8=>?_);go_wp2_with (with_reducible refine zT ?_)
  replace zac:=zwl M4 (zmo M3 zac) zaX;refine zab rfl 45 (.tmp 2) (.tmp 8) rfl b1 rfl _ (zcv H_v8) zac rfl zaP rfl (fun w5_ M5=>?_);replace zac:=zwb M5;replace zas:=znw HB1 zas;go_wp2
  have z0:=zap (P:=Tryz.prog) 45 zac.o zaY (by kernel_rfl);refine bodyPost_ret (by simp [results,Tryz.results85,asAddr,z0,Act.put]; rfl) rfl ?_;replace H1:=zHw M5 (zHw M4 (zhd ((zMD HB1 M3 H1).o.ext M3.o.ext)) zbc) zas;replace EW:=zwe M5 (zwe M4 (zet EW M3) zcQ) zaZ;exact ⟨_,rfl,EW.o,Rd.widen (zb1 (RdM.mc (m:=⟨⟨sc,su,sa,sp⟩,⟨gen,bl,busy,⟨nc,nt,⟨nk,na,no,nn⟩⟩,pl,⟨se,sn⟩⟩,true,pause,falls,cls⟩) H1.o)) (fun k _ h=>HK.o.2.2.2 k (zf1.o k h))⟩
 obtain ⟨hq1,hq2⟩:(1:Int)<=pause/\pause<=1000000:=HPZ.o rfl;clear HPZ;by_cases hp:1 < pause
 case pos =>
  have hX:zbL ⟨⟨sc,su,sa,sp⟩,⟨gen,bl,busy,⟨nc,nt,⟨nk,na,no,nn⟩⟩,pl,⟨se,sn⟩⟩,false,pause,falls,cls⟩=⟨⟨sc,su,sa,sp⟩,⟨gen,bl,busy,⟨nc,nt,⟨nk,na,no,nn⟩⟩,pl,⟨se,sn⟩⟩,false,(pause - 1),falls,cls⟩:=by
   show (if (false=true) then _ else if 1 < pause then _ else _)=_
   rw [if_neg (by simp),if_pos hp]
  rw [hX];clear hX;have hne:¬ (pause - 1=0):=by omega
  go_enter Tryz.func85,Tryz.ntmps85
  go_wp2_with (with_reducible refine zT ?_)
  refine zaj rfl 45 (.tmp 0) rfl #[.slice ca sc.length cc,.slice ua su.length uc,.slice aa sa.length ac,.slice pa sp.length pc,I gen,.slice xa bl.length xc,.bool busy,I nc,I nt,I nk,I na,I no,I nn,.slice la pl.length lc,I se,I sn,.bool false,I pause,I falls,.slice ka cls.length kc] rfl (fun b0 w1_ M1=>?_);have zaa:=zmb M1;go_wp2_with (with_reducible refine zT ?_)
  refine zaf rfl 45 zM (by kernel_rfl) (fun b1 w2_ M2=>?_);have zac:=zmb M2;have zaW:=zA0 M1;have za1:=zA1 zaW M1 M2;have zas:=znb HK za1 (by decide);have zaZ:=zob za1;go_wp2_with (with_reducible refine zT ?_)
  replace zaa:=zmo M2 zaa;refine zah rfl 45 (.tmp 1) rfl b0 rfl zaa zaY zaP (fun v4 H_v4=>?_);go_wp2_with fail
  rw [show _=Value.agg #[.slice ca sc.length cc,.slice ua su.length uc,.slice aa sa.length ac,.slice pa sp.length pc,I gen,.slice xa bl.length xc,.bool busy,I nc,I nt,I nk,I na,I no,I nn,.slice la pl.length lc,I se,I sn,.bool false,I pause,I falls,.slice ka cls.length kc] from H_v4.o];clear H_v4;have hin:∀ k,w2_.heap.size<=k->B k:=fun k h=>HK.o.2.1 k (by have q:=(zlt zac); have q2:=za1.o; omega);replace EW:=zet (zet EW M1) M2;refine (zc8 ⟨⟨sc,su,sa,sp⟩,⟨gen,bl,busy,⟨nc,nt,⟨nk,na,no,nn⟩⟩,pl,⟨se,sn⟩⟩,false,pause,falls,cls⟩ _ _ _ _ _ _ _ w2_ A (H.o.ext EW.o) HS.o).to fun r wa ea hr=>?_;obtain ⟨cs,rfl,hcs⟩:=zbU hr;obtain ⟨c',u',a',p',box',plan',cl',rfl,hM⟩:=zcB hcs;obtain ⟨ca1,cc1,ua1,uc1,aa1,ac1,pa1,pc1,xa1,xc1,la1,lc1,ka1,kc1,rfl,rfl,rfl,rfl,rfl,rfl,rfl⟩:=hM.slices;have H1:=zhd (hM.widen (B:=B) fun k _ h=>hin k (by rcases h with h | h; exact h.elim; exact h));clear hr hcs hM hin;replace zaa:=zbx zaa ea;replace zac:=zbx zac ea;replace EW:=zhd (EW.o.trans ea);clear ea;go_wp2_with (with_reducible refine zT ?_)
  refine zaf rfl 45 zM (by kernel_rfl) (fun b3 w3_ M3=>?_);have za5:=zld zaa M3;have zaX:=zld zac M3;obtain ⟨B1,HB1⟩:=zEx B b3;have zbc:=zNn HB1;have zf1:=zIn HB1;have zcQ:=zOn M3 EW;have zax:=zmb M3;go_wp2_with (with_reducible refine zT ?_)
  refine zab rfl 45 (.tmp 3) (.tmp 5) rfl b3 rfl [.slice ca1 sc.length cc1,.slice ua1 su.length uc1,.slice aa1 sa.length ac1,.slice pa1 sp.length pc1,I gen,.slice xa1 bl.length xc1,.bool busy,I nc,I nt,I nk,I na,I no,I nn,.slice la1 pl.length lc1,I se,I sn,.bool false,I pause,I falls,.slice ka1 cls.length kc1] (rfl) zax rfl zaP rfl (fun w4_ M4=>?_);replace zax:=zwb M4;replace zaa:=zwl M4 (zmo M3 zaa) za5;have c16:=zad (i:=16) zaa.o rfl;have c17:=zad (i:=17) zax.o rfl;go_wp2_with (with_reducible refine zT ?_)
  clear c16 c17;refine zal rfl 3 (.tmp 12) (.tmp 11) rfl b3 17 rfl [I (pause - 1)] (rfl) zax rfl zi3 rfl [.slice ca1 sc.length cc1,.slice ua1 su.length uc1,.slice aa1 sa.length ac1,.slice pa1 sp.length pc1,I gen,.slice xa1 bl.length xc1,.bool busy,I nc,I nt,I nk,I na,I no,I nn,.slice la1 pl.length lc1,I se,I sn,.bool false,I (pause - 1),I falls,.slice ka1 cls.length kc1] rfl (fun w5_ M5=>?_);replace zax:=zwb M5;have c17:=zad (i:=17) zax.o rfl;go_wp2_with (with_reducible refine zT ?_)
  clear c17;refine zah rfl 45 (.tmp 3) rfl b3 rfl zax zaY zaP (fun v27 H_v27=>?_);go_wp2_with (with_reducible refine zT ?_)
  replace zac:=zwl M5 (zwl M4 (zmo M3 zac) zaX) zaX;refine zab rfl 45 (.tmp 2) (.tmp 27) rfl b1 rfl _ (zcv H_v27) zac rfl zaP rfl (fun w6_ M6=>?_);replace zac:=zwb M6;replace zas:=znw HB1 zas;go_wp2
  have z0:=zap (P:=Tryz.prog) 45 zac.o zaY (by kernel_rfl);refine bodyPost_ret (by simp [results,Tryz.results85,asAddr,z0,Act.put]; rfl) rfl ?_;replace H1:=zHw M6 (zHw M5 (zHw M4 (zhd ((zMD HB1 M3 H1).o.ext M3.o.ext)) zbc) zbc) zas;replace EW:=zwe M6 (zwe M5 (zwe M4 (zet EW M3) zcQ) zcQ) zaZ;exact ⟨_,rfl,EW.o,Rd.widen (zb1 (RdM.mc (m:=⟨⟨sc,su,sa,sp⟩,⟨gen,bl,busy,⟨nc,nt,⟨nk,na,no,nn⟩⟩,pl,⟨se,sn⟩⟩,false,(pause - 1),falls,cls⟩) ⟨H1.o.cells,H1.o.undo,H1.o.answers,H1.o.past,H1.o.box,H1.o.plan,H1.o.clients⟩)) (fun k _ h=>HK.o.2.2.2 k (zf1.o k h))⟩
 have hX:zbL ⟨⟨sc,su,sa,sp⟩,⟨gen,bl,busy,⟨nc,nt,⟨nk,na,no,nn⟩⟩,pl,⟨se,sn⟩⟩,false,pause,falls,cls⟩=⟨zbz ⟨sc,su,sa,sp⟩,zbQ (gen+1) [],true,0,falls,cls⟩:=by
  show (if (false=true) then _ else if 1 < pause then _ else _)=_
  rw [if_neg (by simp),if_neg hp]
 rw [hX];clear hX;obtain rfl:pause=1:=by omega
 obtain ⟨hg1,hg2⟩:(0:Int)<=gen/\gen<=1000000:=HGN.o;clear HGN;go_enter Tryz.func85,Tryz.ntmps85
 go_wp2_with (with_reducible refine zT ?_)
 refine zaj rfl 45 (.tmp 0) rfl #[.slice ca sc.length cc,.slice ua su.length uc,.slice aa sa.length ac,.slice pa sp.length pc,I gen,.slice xa bl.length xc,.bool busy,I nc,I nt,I nk,I na,I no,I nn,.slice la pl.length lc,I se,I sn,.bool false,I 1,I falls,.slice ka cls.length kc] rfl (fun b0 w1_ M1=>?_);have zaa:=zmb M1;go_wp2_with (with_reducible refine zT ?_)
 refine zaf rfl 45 zM (by kernel_rfl) (fun b1 w2_ M2=>?_);have zac:=zmb M2;have zaW:=zA0 M1;have za1:=zA1 zaW M1 M2;have zas:=znb HK za1 (by decide);have zaZ:=zob za1;go_wp2_with (with_reducible refine zT ?_)
 replace zaa:=zmo M2 zaa;refine zah rfl 45 (.tmp 1) rfl b0 rfl zaa zaY zaP (fun v4 H_v4=>?_);go_wp2_with fail
 rw [show _=Value.agg #[.slice ca sc.length cc,.slice ua su.length uc,.slice aa sa.length ac,.slice pa sp.length pc,I gen,.slice xa bl.length xc,.bool busy,I nc,I nt,I nk,I na,I no,I nn,.slice la pl.length lc,I se,I sn,.bool false,I 1,I falls,.slice ka cls.length kc] from H_v4.o];clear H_v4;have hin:∀ k,w2_.heap.size<=k->B k:=fun k h=>HK.o.2.1 k (by have q:=(zlt zac); have q2:=za1.o; omega);replace EW:=zet (zet EW M1) M2;refine (zc8 ⟨⟨sc,su,sa,sp⟩,⟨gen,bl,busy,⟨nc,nt,⟨nk,na,no,nn⟩⟩,pl,⟨se,sn⟩⟩,false,1,falls,cls⟩ _ _ _ _ _ _ _ w2_ A (H.o.ext EW.o) HS.o).to fun r wa ea hr=>?_;obtain ⟨cs,rfl,hcs⟩:=zbU hr;obtain ⟨c',u',a',p',box',plan',cl',rfl,hM⟩:=zcB hcs;obtain ⟨ca1,cc1,ua1,uc1,aa1,ac1,pa1,pc1,xa1,xc1,la1,lc1,ka1,kc1,rfl,rfl,rfl,rfl,rfl,rfl,rfl⟩:=hM.slices;have H1:=zhd (hM.widen (B:=B) fun k _ h=>hin k (by rcases h with h | h; exact h.elim; exact h));clear hr hcs hM hin;replace zaa:=zbx zaa ea;replace zac:=zbx zac ea;replace EW:=zhd (EW.o.trans ea);clear ea;go_wp2_with (with_reducible refine zT ?_)
 refine zaf rfl 45 zM (by kernel_rfl) (fun b3 w3_ M3=>?_);have za5:=zld zaa M3;have zaX:=zld zac M3;obtain ⟨B1,HB1⟩:=zEx B b3;have zbc:=zNn HB1;have zf1:=zIn HB1;have zcQ:=zOn M3 EW;have zax:=zmb M3;go_wp2_with (with_reducible refine zT ?_)
 refine zab rfl 45 (.tmp 3) (.tmp 5) rfl b3 rfl [.slice ca1 sc.length cc1,.slice ua1 su.length uc1,.slice aa1 sa.length ac1,.slice pa1 sp.length pc1,I gen,.slice xa1 bl.length xc1,.bool busy,I nc,I nt,I nk,I na,I no,I nn,.slice la1 pl.length lc1,I se,I sn,.bool false,I 1,I falls,.slice ka1 cls.length kc1] (rfl) zax rfl zaP rfl (fun w4_ M4=>?_);replace zax:=zwb M4;replace zaa:=zwl M4 (zmo M3 zaa) za5;have c16:=zad (i:=16) zaa.o rfl;have c17:=zad (i:=17) zax.o rfl;go_wp2_with (with_reducible refine zT ?_)
 clear c16 c17;refine zal rfl 3 (.tmp 12) (.tmp 11) rfl b3 17 rfl [I 0] (rfl) zax rfl zi3 rfl [.slice ca1 sc.length cc1,.slice ua1 su.length uc1,.slice aa1 sa.length ac1,.slice pa1 sp.length pc1,I gen,.slice xa1 bl.length xc1,.bool busy,I nc,I nt,I nk,I na,I no,I nn,.slice la1 pl.length lc1,I se,I sn,.bool false,I 0,I falls,.slice ka1 cls.length kc1] rfl (fun w5_ M5=>?_);replace zax:=zwb M5;have c17:=zad (i:=17) zax.o rfl;go_wp2_with (with_reducible refine zT ?_)
 clear c17;refine zal rfl 4 (.tmp 16) (.const (.bool true)) rfl b3 16 rfl [.bool true] (rfl) zax rfl zi4 rfl [.slice ca1 sc.length cc1,.slice ua1 su.length uc1,.slice aa1 sa.length ac1,.slice pa1 sp.length pc1,I gen,.slice xa1 bl.length xc1,.bool busy,I nc,I nt,I nk,I na,I no,I nn,.slice la1 pl.length lc1,I se,I sn,.bool true,I 0,I falls,.slice ka1 cls.length kc1] rfl (fun w6_ M6=>?_);replace zax:=zwb M6;go_wp2_with (with_reducible refine zT ?_)
 refine zcb rfl 32 (.tmp 17) rfl b3 0 rfl zax [.slice ca1 sc.length cc1,.slice ua1 su.length uc1,.slice aa1 sa.length ac1,.slice pa1 sp.length pc1] rfl zcG zfk (fun v18 H_v18=>?_);go_wp2_with fail
 rw [show _=Value.agg #[.slice ca1 sc.length cc1,.slice ua1 su.length uc1,.slice aa1 sa.length ac1,.slice pa1 sp.length pc1] from H_v18.o];clear H_v18;replace H1:=zHw M6 (zHw M5 (zHw M4 (zhd ((zMD HB1 M3 H1).o.ext M3.o.ext)) zbc) zbc) zbc;refine (zpL _ _ _ _ ⟨sc,su,sa,sp⟩ w6_ (zc7.2 ⟨H1.o.cells.o,H1.o.undo.o,H1.o.answers.o,H1.o.past.o⟩) HS.o.1).to fun r wb eb hr1=>?_;obtain ⟨cs,rfl,hcs⟩:=zbU hr1;obtain ⟨c',u',a',p',rfl,r1,r2,r3,r4⟩:=zd7 hcs;obtain ⟨ca',cc',rfl⟩:=zao r1.o;obtain ⟨ua',uc',rfl⟩:=zao r2.o;obtain ⟨aa',ac',rfl⟩:=zag r3.o;obtain ⟨pa',pc',rfl⟩:=zag r4.o;replace zac:=zwl M6 (zwl M5 (zwl M4 (zmo M3 zac) zaX) zaX) zaX;have hsz:w.heap.size+2<=w6_.heap.size:=by have q:=(zlt zac); have q2:=za1.o; omega
 have hin:∀ k,k < wb.heap.size->(False∨w6_.heap.size<=k)->B1 k:=fun k _ h=>by
  rcases h with h | h
  ·exact h.elim
  ·exact (HB1.o k).2 ⟨HK.o.2.1 k (by omega),by have q:=(zlt zax); omega⟩
 have R1:=zhd (r1.widen hin);have R2:=zhd (r2.widen hin);have R3:=zhd (r3.widen hin);have R4:=zhd (r4.widen hin);clear hr1 hcs r1 r2 r3 r4 hin hsz;replace EW:=zhd ((zwe M6 (zwe M5 (zwe M4 (zet EW M3) zcQ) zcQ) zcQ).o.trans eb);replace zaa:=zbx (zwl M6 (zwl M5 zaa za5) za5) eb;replace zac:=zbx zac eb;replace zax:=zbx zax eb;replace H1:=zhd (H1.o.ext eb);clear eb;go_wp2_with (with_reducible refine zT ?_)
 refine zal rfl 32 (.tmp 20) (.tmp 19) rfl b3 0 rfl [.slice ca' (zbz ⟨sc,su,sa,sp⟩).cells.length cc',.slice ua' (zbz ⟨sc,su,sa,sp⟩).undo.length uc',.slice aa' (zbz ⟨sc,su,sa,sp⟩).answers.length ac',.slice pa' (zbz ⟨sc,su,sa,sp⟩).past.length pc'] (rfl) zax rfl zfk rfl [.slice ca' (zbz ⟨sc,su,sa,sp⟩).cells.length cc',.slice ua' (zbz ⟨sc,su,sa,sp⟩).undo.length uc',.slice aa' (zbz ⟨sc,su,sa,sp⟩).answers.length ac',.slice pa' (zbz ⟨sc,su,sa,sp⟩).past.length pc',I gen,.slice xa1 bl.length xc1,.bool busy,I nc,I nt,I nk,I na,I no,I nn,.slice la1 pl.length lc1,I se,I sn,.bool true,I 0,I falls,.slice ka1 cls.length kc1] rfl (fun w7_ M7=>?_);replace zax:=zwb M7;replace zaa:=zwl M7 zaa za5;have c4:=zad (i:=4) zaa.o rfl;go_wp2_with fail
 clear c4;refine (zkg (gen+1) w7_).to fun r wc ec hr=>?_;subst hr;replace zac:=zbx (zwl M7 zac zaX) ec;replace H1:=zhd ((zHw M7 H1 zbc).o.ext ec);replace R1:=zrx (zwr M7 R1 zbc) ec;replace R2:=zrx (zwr M7 R2 zbc) ec;replace R3:=zrx (zwr M7 R3 zbc) ec;replace R4:=zrx (zwr M7 R4 zbc) ec;replace EW:=zhd ((zwe M7 EW zcQ).o.trans ec);replace zaa:=zbx zaa ec;replace zax:=zbx zax ec;clear ec;go_wp2_with (with_reducible refine zT ?_)
 refine zal rfl 42 (.tmp 26) (.tmp 25) rfl b3 4 rfl [I (gen+1),.slice none 0 0,.bool false,I 0,I 0,I 0,I 0,I 0,I 0,.slice none 0 0,I 0,I 0] (rfl) zax rfl zda rfl [.slice ca' (zbz ⟨sc,su,sa,sp⟩).cells.length cc',.slice ua' (zbz ⟨sc,su,sa,sp⟩).undo.length uc',.slice aa' (zbz ⟨sc,su,sa,sp⟩).answers.length ac',.slice pa' (zbz ⟨sc,su,sa,sp⟩).past.length pc',I (gen+1),.slice none 0 0,.bool false,I 0,I 0,I 0,I 0,I 0,I 0,.slice none 0 0,I 0,I 0,.bool true,I 0,I falls,.slice ka1 cls.length kc1] rfl (fun w8_ M8=>?_);replace zax:=zwb M8;go_wp2_with (with_reducible refine zT ?_)
 refine zah rfl 45 (.tmp 3) rfl b3 rfl zax zaY zaP (fun v27 H_v27=>?_);go_wp2_with (with_reducible refine zT ?_)
 replace zac:=zwl M8 zac zaX;refine zab rfl 45 (.tmp 2) (.tmp 27) rfl b1 rfl _ (zcv H_v27) zac rfl zaP rfl (fun w9_ M9=>?_);replace zac:=zwb M9;replace zas:=znw HB1 zas;go_wp2
 have z0:=zap (P:=Tryz.prog) 45 zac.o zaY (by kernel_rfl);refine bodyPost_ret (by simp [results,Tryz.results85,asAddr,z0,Act.put]; rfl) rfl ?_;replace H1:=zHw M9 (zHw M8 H1 zbc) zas;replace R1:=zwr M9 (zwr M8 R1 zbc) zas;replace R2:=zwr M9 (zwr M8 R2 zbc) zas;replace R3:=zwr M9 (zwr M8 R3 zbc) zas;replace R4:=zwr M9 (zwr M8 R4 zbc) zas;replace EW:=zwe M9 (zwe M8 EW zcQ) zaZ;exact ⟨_,rfl,EW.o,Rd.widen (zb1 (RdM.mc (m:=⟨zbz ⟨sc,su,sa,sp⟩,zbQ (gen+1) [],true,0,falls,cls⟩) ⟨R1.o,R2.o,R3.o,R4.o,Rd.all fun w=>zat.nil w,Rd.all fun w=>zbt w,H1.o.clients⟩)) (fun k _ h=>HK.o.2.2.2 k (zf1.o k h))⟩

open Go.RowKit Go.Mk

open Go.RowKit Go.Mk

open Go.RowKit Go.Mk

theorem zgq {w:World} {v:Value} {l:List Rp} (h:zat 2 zdU w v l):∃ ao cap,v=.slice ao l.length cap/\l.length<=cap/\cap<=maxLen /\
  ∀ k x,l[k]?=some x->∃ b off,ao=some ⟨b,off,none⟩/\w.cell? ⟨b,off+k * 2,none⟩=some (I x.err)/\w.cell? ⟨b,off+k * 2+1,none⟩=some (I x.n):=by
 obtain ⟨ao,cap,h1,h2,h3,-,h5⟩:=h.form (by decide)
 refine ⟨ao,cap,h1,h2,h3,fun k x hx=>?_⟩
 obtain ⟨b,off,c,e,-,hc,hcell⟩:=h5 k x hx
 have hc:c=[I x.err,I x.n]:=hc
 subst hc
 exact ⟨b,off,e,hcell 0 _ rfl,by rw [Nat.add_assoc]; exact hcell 1 _ rfl⟩
theorem zrq (u v:Value) (xs:List Rp) (w:World) (hu:zat 2 zdU w u xs) (hv:zat 2 zdU w v xs) :
  Calls Tryz.prog 9 #[u,v] w fun e w'=>e=.returned (.bool true)/\Ext w w':=by
 obtain ⟨ua,uc,rfl,u1,u2,u3⟩:=zgq hu;obtain ⟨va,vc,rfl,v1,v2,v3⟩:=zgq hv;unfold maxLen at u2 v2;have U3:=zhd u3;have V3:=zhd v3;clear u3 v3 hu hv;have hst:Tryz.prog.stoodInHeld 40=false:=by kernel_rfl
 have hgd:Tryz.prog.eqGuardType Tryz.prog.depth 40=false:=by kernel_rfl
 go_enter Tryz.func9,Tryz.ntmps9
 go_wp2
 go_loopw [13] (fun i wr=>∃ k:Nat,k<=xs.length/\i=I k/\Ext w wr) (fun i _=>xs.length - (intOf i).toNat)
 case atStart=>exact ⟨0,by omega,rfl,Ext.refl _⟩
 case round =>
  obtain ⟨k,hk,rfl,he⟩:=hrel;by_cases hlt:k < xs.length
  ·obtain ⟨x,hx⟩:∃ x,xs[k]?=some x:=⟨xs[k],List.getElem?_eq_getElem hlt⟩;obtain ⟨b,off,rfl,c0,c1⟩:=U3.o k x hx;obtain ⟨b',off',rfl,d0,d1⟩:=V3.o k x hx;clear hx;obtain ⟨xe,xn⟩:=x;replace c0:=he.cell c0;replace d0:=he.cell d0;replace c1:=he.cell c1;replace d1:=he.cell d1;go_wp2_with fail
   refine zcT [none,none,none,none,none,none,none,none,none] (by kernel_rfl) (by kernel_rfl) ?_ ?_
   ·exact ⟨trivial,trivial,trivial,trivial,trivial,trivial,trivial,trivial,trivial,trivial⟩
   iterate 3 (refine zar (fun K hK=>?_); go_simp; first | refine hK _ ?_ | refine ⟨(fun h=>by cases h),hK _ ?_⟩; clear hK K)
   refine zaE (.agg #[I xe,I xn]) rfl (fun w' hw'=>by have q0:=hw'.cell c0; have q1:=hw'.cell c1; go_simp) ?_;refine zan fun K h=>?_; go_simp; refine h _ ?_; clear h K;iterate 3 (refine zar (fun K hK=>?_); go_simp; first | refine hK _ ?_ | refine ⟨(fun h=>by cases h),hK _ ?_⟩; clear hK K)
   refine zaE (.agg #[I xe,I xn]) rfl (fun w' hw'=>by have q0:=hw'.cell d0; have q1:=hw'.cell d1; go_simp) ?_;refine zan fun K h=>?_; go_simp; refine h _ ?_; clear h K;(refine zar (fun K hK=>?_); go_simp; first | refine hK _ ?_ | refine ⟨(fun h=>by cases h),hK _ ?_⟩; clear hK K)
   refine za0 ?_;intro wn hen _;clear c0 c1 d0 d1;go_wp2
   go_roundw
   case rel=>exact ⟨k+1,by omega,by go_num,he.trans hen⟩
   case measure=>simp [intOf]; omega
  ·go_wp2
   go_ret
   exact ⟨rfl,he⟩

theorem zma {w:World} {v:Value} {l:List Cl} (h:zat 4 zdy w v l):∃ ao cap,v=.slice ao l.length cap/\l.length<=cap/\cap<=maxLen /\
  ∀ k x,l[k]?=some x->∃ b off,ao=some ⟨b,off,none⟩/\w.cell? ⟨b,off+k * 4,none⟩=some (I x.kind)/\w.cell? ⟨b,off+k * 4+1,none⟩=some (I x.name)/\w.cell? ⟨b,off+k * 4+2,none⟩=some (I x.other)/\w.cell? ⟨b,off+k * 4+3,none⟩=some (I x.n):=by
 obtain ⟨ao,cap,h1,h2,h3,-,h5⟩:=h.form (by decide)
 refine ⟨ao,cap,h1,h2,h3,fun k x hx=>?_⟩
 obtain ⟨b,off,c,e,-,hc,hcell⟩:=h5 k x hx
 have hc:c=[I x.kind,I x.name,I x.other,I x.n]:=hc
 subst hc
 exact ⟨b,off,e,hcell 0 _ rfl,by rw [Nat.add_assoc]; exact hcell 1 _ rfl,by rw [Nat.add_assoc]; exact hcell 2 _ rfl,by rw [Nat.add_assoc]; exact hcell 3 _ rfl⟩
theorem zo6 {w:World} {v:Value} {l:List Cn} (h:zat 6 zcA w v l):∃ ao cap,v=.slice ao l.length cap/\l.length<=cap/\cap<=maxLen /\
  ∀ k x,l[k]?=some x->∃ b off x1 x2 x3,ao=some ⟨b,off,none⟩/\w.cell? ⟨b,off+k * 6,none⟩=some x1/\w.cell? ⟨b,off+k * 6+1,none⟩=some (I x.at_)/\w.cell? ⟨b,off+k * 6+2,none⟩=some (.bool x.sent)/\w.cell? ⟨b,off+k * 6+3,none⟩=some (I x.gen) /\
   w.cell? ⟨b,off+k * 6+4,none⟩=some x2/\w.cell? ⟨b,off+k * 6+5,none⟩=some x3/\zcA w [x1,I x.at_,.bool x.sent,I x.gen,x2,x3] x:=by
 obtain ⟨ao,cap,h1,h2,h3,-,h5⟩:=h.form (by decide)
 refine ⟨ao,cap,h1,h2,h3,fun k x hx=>?_⟩
 obtain ⟨b,off,c,e,-,hc,hcell⟩:=h5 k x hx
 obtain ⟨x1,x2,x3,rfl,hc'⟩:=hc
 exact ⟨b,off,x1,x2,x3,e,hcell 0 _ rfl,by rw [Nat.add_assoc]; exact hcell 1 _ rfl,by rw [Nat.add_assoc]; exact hcell 2 _ rfl,by rw [Nat.add_assoc]; exact hcell 3 _ rfl,by rw [Nat.add_assoc]; exact hcell 4 _ rfl,by rw [Nat.add_assoc]; exact hcell 5 _ rfl,x1,x2,x3,rfl,hc'⟩

open Go.RowKit Go.Mk

theorem zkf {l:List (List Cl)} (hl:za9 l) {m:Mc} {ks:List Nat} {bz:Option Nat} (h:MInv l m ks bz) {k:Nat} (hs:SizeM m k) (hk:k<=1000):zhi m:=by
 have h1:=h.cells
 have h2:=hs.undo
 have h3:=hs.answers
 have h4:=hs.past
 have h5:=hs.box
 refine ⟨⟨by omega,by omega,by omega,by omega⟩,⟨by omega,fun b hb=>?_,?_⟩,by rw [h.nc]; have:=hl.1; omega,fun c hc=>?_⟩
 ·rw [h.box] at hb
  obtain ⟨k,_,rfl⟩:=List.mem_map.1 hb
  exact Nat.le_trans (Nat.le_of_eq rfl) (by decide:(10:Nat)<=140737488355328)
 ·cases hz:bz with
  | none=>rw [h.idle hz]; exact Nat.zero_le _
  | some i=>have:=(h.work i hz).2.2.2.2; omega
 ·obtain ⟨i,hi⟩:=List.mem_iff_getElem?.1 hc
  have hci:=h.clients i c hi
  have h6:=hs.each c hc
  refine ⟨?_,by omega,fun b hb=>?_,by omega⟩
  ·rw [hci.calls,List.getD_eq_getElem?_getD]
   cases e:l[i]? with
   | none=>simp
   | some x=>have:=(hl.2 x (List.mem_of_getElem? e)).1; simp; omega
  ·cases hci.phase with
   | rest _ _ _ e _=>rw [e] at hb; cases hb
   | wait _ _ _ _ e _=>rw [e] at hb; cases hb
   | work _ _ _ _ e _ _=>rw [e] at hb; cases hb
   | lost _ _ _ e _ _=>rw [e] at hb; cases hb
   | hear _ _ _ _ e =>
    rw [e] at hb
    rw [List.mem_singleton.1 hb]
    exact Nat.le_trans (Nat.le_of_eq rfl) (by decide:(8:Nat)<=140737488355328)

structure Gd (l:List (List Cl)) (m:Mc) (k:Nat):Prop where
 right:za9 l
 inv:∃ ks bz,MInv l m ks bz
 size:SizeM m k
section
variable {l:List (List Cl)} {m:Mc} {k:Nat}
theorem Gd.small (h:Gd l m k) (hk:k<=1000):zhi m:=by
 obtain ⟨h1,⟨ks,bz,h2⟩,h3⟩:=h
 exact zkf h1 h2 h3 hk
theorem Gd.falls (h:Gd l m k):0<=m.falls/\m.falls<=6:=by
 obtain ⟨_,⟨ks,bz,h2⟩,_⟩:=h
 exact h2.falls
theorem Gd.cells (h:Gd l m k):m.store.cells.length * 8<=140737488355328:=by
 obtain ⟨_,⟨ks,bz,h2⟩,_⟩:=h
 have:=h2.cells
 omega
theorem Gd.down (h:Gd l m k) (hu:m.up=false):1<=m.pause/\m.pause<=1000000:=by
 obtain ⟨_,⟨ks,bz,h2⟩,_⟩:=h
 have:=h2.down hu
 omega
theorem Gd.pause (h:Gd l m k):0<=m.pause/\m.pause<=1000000:=by
 obtain ⟨_,⟨ks,bz,h2⟩,_⟩:=h
 cases hu:m.up with
 | true=>have:=h2.upp hu; omega
 | false=>have:=h2.down hu; omega
theorem Gd.gen (h:Gd l m k):0<=m.server.gen/\m.server.gen<=1000000:=by
 obtain ⟨_,⟨ks,bz,h2⟩,_⟩:=h
 obtain ⟨g1,g2,g3⟩:=h2.gens
 have hf:=h2.falls
 cases hu:m.up with
 | true=>have:=g2 hu; omega
 | false=>have:=g3 hu; omega
end

def zrM (m:Mc) (r:Value) (w:World):Prop:=∃ c u a p box plan cl,r=.agg (zaL m c u a p box plan cl).toArray/\RdM (fun _=>True) w m c u a p box plan cl
theorem zrM.ext {m:Mc} {r:Value} {w w':World} (h:zrM m r w) (he:Ext w w'):zrM m r w':=by
 obtain ⟨c,u,a,p,box,plan,cl,e,h⟩:=h
 exact ⟨c,u,a,p,box,plan,cl,e,h.ext he⟩
def zrQ (s:St) (r:Value) (w:World):Prop:=∃ c u a p,r=.agg #[c,u,a,p]/\zcn w [c,u,a,p] s
theorem zrQ.ext {s:St} {r:Value} {w w':World} (h:zrQ s r w) (he:Ext w w'):zrQ s r w':=by
 obtain ⟨c,u,a,p,e,h⟩:=h
 exact ⟨c,u,a,p,e,zhj _ _ _ _ he h⟩
theorem zeG {P:Program} {ops:Array Oper} {rest:List Oper} {o:Oper} {a:Act} {w:World} {Q:Exit->Act->World->Prop} (hw:Region.wanted o (yielded ops a.tmps)=true) (ty:TypeId) (x:Operand) (ho:o.op=.load ty x) (b off:Nat) (hx:a.eval x=.pointer (some ⟨b,off,none⟩)) {cs:Array Value} {t:TypeId} (hg:Hid (w.heap[b]?=some (.cells cs t (0,0))))
  (vs:List Value) (hsub:(cs.toList.drop off).take vs.length=vs) {fs:Array Field} (hu:P.underlying ty=some (.struct fs)) (hi:(P.info? ty).map (·.size)=some vs.length)
  (h:∀ v,Hid (v=.agg vs.toArray)->wpList P ops Q rest (a.put o.dst v) w):wpList P ops Q (o::rest) a w:=by
 refine wpList_step fun K hK=>?_
 rw [if_pos hw]
 unfold Oper.wp
 rw [zb3 ty x ho b off hx hg.o vs hsub hu hi,Oper.upon_value]
 exact hK _ _ (h _ rfl)

theorem zrY {w:World} {B C:Nat->Prop} {b:Nat} {x:Obj} (h:Hid (∀ k,C k↔(B k∨w.heap.size<=k))) (n:Hid (¬ B b)) (hb:Hid (w.heap[b]?=some x)):Hid (¬ C b):=fun q=>by
 rcases (h.o _).1 q with q | q
 ·exact n.o q
 ·have:=(Array.getElem?_eq_some_iff.1 hb.o).1
  omega

end Go.Proofs.YtdmipnnfoolelagGreat
