/- Texts of the proof, merged: G3 N15 S5 N18. -/
import Derived.Test.YtikbhmnjlmbeeaeGreatKOA
import Derived.Test.YtikbhmnjlmbeeaeGreatKOZ
import Derived.Test.YtikbhmnjlmbeeaeGreatKOQ
import Derived.Test.YtikbhmnjlmbeeaeGreatKO0
import Derived.Test.YtikbhmnjlmbeeaeGreatKOH
import Derived.Test.YtikbhmnjlmbeeaeGreatKOY
import Derived.Test.YtikbhmnjlmbeeaeGreatKOJ
import Derived.Test.YtikbhmnjlmbeeaeGreatKOM
set_option maxHeartbeats 2000000
set_option maxRecDepth 100000

namespace Go.Proofs.YtikbhmnjlmbeeaeGreat
open Go.RowKit Go.Mk

theorem znz (n : Int) (w : World) : za3 Tryz.prog 94 #[I n] w fun r _=>r = I (pauseOf n):=by
 unfold za3
 have HP : Hid (pauseOf n = if n <= 1 then 1 else if 3 <= n then 3 else n):=by
  unfold Hid pauseOf;repeat' split
  all_goals omega
 generalize pauseOf n = pn at *;by_cases h1 : n <= 1
 ·obtain rfl : pn = 1:=by have q:=HP.o; rw [if_pos h1] at q; exact q
  go_enter Tryz.func94,Tryz.ntmps94
  go_wp2
  go_ret
  refine ⟨_,rfl,Ext.refl _,?_⟩;simp <;> omega
 ·by_cases h3 : 3 <= n
  ·obtain rfl : pn = 3:=by have q:=HP.o; rw [if_neg h1,if_pos h3] at q; exact q
   go_enter Tryz.func94,Tryz.ntmps94
   go_wp2
   go_ret
   refine ⟨?_,Ext.refl _⟩;show Ending.returned (Value.int IntKind.i64 (min (max n 1) 3)) = _
   rw [show min (max n 1) 3 = (3 : Int) by omega]
  ·obtain rfl : pn = n:=by have q:=HP.o; rw [if_neg h1,if_neg h3] at q; exact q
   go_enter Tryz.func94,Tryz.ntmps94
   go_wp2
   go_ret
   refine ⟨?_,Ext.refl _⟩;show Ending.returned (Value.int IntKind.i64 (min (max pn 1) 3)) = _
   rw [show min (max pn 1) 3 = pn by omega]

theorem zjM (gen : Int) (w : World) : za3 Tryz.prog 95 #[I gen] w fun r _=>r = .agg #[I gen,.slice none 0 0,.bool false,I 0,I 0,I 0,I 0,I 0,I 0,.slice none 0 0,I 0,I 0]:=by
 unfold za3;have EW:=hd (Ext.refl w);go_enter Tryz.func95,Tryz.ntmps95
 go_wp2_with ((with_reducible refine zT ?_ ?_); exact rfl)
 unfold Hid;refine zae rfl 41 zS (by kernel_rfl) (fun b0 w1_ M1=>?_);have zaa:=zmb M1;have za0 : Hid (w.heap.size <= b0):=by unfold Hid; have q:=M1.o.at_; omega
 go_wp2_with ((with_reducible refine zT ?_ ?_); exact rfl)
 unfold Hid;refine zaW rfl 41 #[(0,.tmp 3)] rfl #[I gen,.slice none 0 0,.bool false,I 0,I 0,I 0,I 0,I 0,I 0,.slice none 0 0,I 0,I 0] (by kernel_rfl) (fun v4 H_v4=>?_);go_wp2_with ((with_reducible refine zT ?_ ?_); exact rfl)
 unfold Hid;refine zac rfl 41 (.tmp 2) (.tmp 4) rfl b0 rfl _ (zcv H_v4) zaa rfl zcb rfl (fun w2_ M2=>?_);replace zaa:=zwb M2;go_wp2
 have z0:=zas (P:=Tryz.prog) 41 zaa.o zu41 (by kernel_rfl);refine bodyPost_ret (by simp [results,Tryz.results95,asAddr,z0,Act.put]; rfl) rfl ?_;replace EW:=zwe M2 (zet EW M1) za0;exact ⟨_,rfl,EW.o,rfl⟩

theorem zlb (m : Mc) (c u a p box plan cl : Value) (w : World) (A : Nat -> Prop) (h : RdM A w m c u a p box plan cl) (hs : zhu m) (hf : 0 <= m.falls) :
  zaR Tryz.prog 73 #[.agg (za1 m c u a p box plan cl).toArray] w (fun _=>False) (fun r w'=>zgs zdL (zcT m).1 (zcT m).2 r w'):=by
 unfold zaR;obtain ⟨ca,cc,ua,uc,aa,ac,pa,pc,xa,xc,la,lc,ka,kc,rfl,rfl,rfl,rfl,rfl,rfl,rfl⟩:=h.slices;obtain ⟨⟨sc,su,sa,sp⟩,⟨gen,bl,busy,⟨nc,nt,⟨nk,na,no,nn⟩⟩,pl,⟨se,sn⟩⟩,up,pause,falls,cls⟩:=m;simp only [za1] at *;have H:=hd h;have HS:=hd hs;clear h hs;have EW:=hd (Ext.refl w);obtain ⟨B,hB⟩:=zda (fun _=>False) w.heap.size 2;have HK:=hd hB;clear hB;cases up
 case false =>
  have hX : zcT ⟨⟨sc,su,sa,sp⟩,⟨gen,bl,busy,⟨nc,nt,⟨nk,na,no,nn⟩⟩,pl,⟨se,sn⟩⟩,false,pause,falls,cls⟩ = (⟨⟨sc,su,sa,sp⟩,⟨gen,bl,busy,⟨nc,nt,⟨nk,na,no,nn⟩⟩,pl,⟨se,sn⟩⟩,false,pause,falls,cls⟩,11):=rfl;rw [hX];clear hX;go_enter Tryz.func73,Tryz.ntmps73
  go_wp2_with ((with_reducible refine zT ?_ ?_); exact rfl)
  unfold Hid;refine zaj rfl 44 (.tmp 0) rfl #[.slice ca sc.length cc,.slice ua su.length uc,.slice aa sa.length ac,.slice pa sp.length pc,I gen,.slice xa bl.length xc,.bool busy,I nc,I nt,I nk,I na,I no,I nn,.slice la pl.length lc,I se,I sn,.bool false,I pause,I falls,.slice ka cls.length kc] rfl (fun b0 w1_ M1=>?_);have zaa:=zmb M1;go_wp2_with ((with_reducible refine zT ?_ ?_); exact rfl)
  unfold Hid;refine zae rfl 44 zM (by kernel_rfl) (fun b1 w2_ M2=>?_);have zad:=zmb M2;have zaD:=zA0 M1;have zaJ:=zA1 zaD M1 M2;have zar:=znb HK zaJ (by decide);have zaU:=zob zaJ;go_wp2_with ((with_reducible refine zT ?_ ?_); exact rfl)
  unfold Hid;replace zaa:=zmo M2 zaa;refine zah rfl 44 (.tmp 1) rfl b0 rfl zaa zu44 zaX (fun v5 H_v5=>?_);go_wp2_with fail
  rw [show _ = Value.agg #[.slice ca sc.length cc,.slice ua su.length uc,.slice aa sa.length ac,.slice pa sp.length pc,I gen,.slice xa bl.length xc,.bool busy,I nc,I nt,I nk,I na,I no,I nn,.slice la pl.length lc,I se,I sn,.bool false,I pause,I falls,.slice ka cls.length kc] from H_v5.o];clear H_v5;have hin : ∀ k,w2_.heap.size <= k -> B k:=fun k h=>HK.o.2.1 k (by have q:=(zlt zad); have q2:=zaJ.o; omega);replace EW:=zet (zet EW M1) M2;refine (zc2 ⟨⟨sc,su,sa,sp⟩,⟨gen,bl,busy,⟨nc,nt,⟨nk,na,no,nn⟩⟩,pl,⟨se,sn⟩⟩,false,pause,falls,cls⟩ _ _ _ _ _ _ _ w2_ A (H.o.ext EW.o) HS.o).to fun r wa ea hr=>?_;obtain ⟨cs,rfl,hcs⟩:=zb9 hr;obtain ⟨c',u',a',p',box',plan',cl',rfl,hM⟩:=zc1 hcs;obtain ⟨ca1,cc1,ua1,uc1,aa1,ac1,pa1,pc1,xa1,xc1,la1,lc1,ka1,kc1,rfl,rfl,rfl,rfl,rfl,rfl,rfl⟩:=hM.slices;have H1:=hd (hM.widen (B:=B) fun k _ h=>hin k (by rcases h with h | h; exact h.elim; exact h));clear hr hcs hM hin;replace zaa:=zbx zaa ea;replace zad:=zbx zad ea;replace EW:=hd (EW.o.trans ea);clear ea;go_wp2_with ((with_reducible refine zT ?_ ?_); exact rfl)
  unfold Hid;refine zae rfl 44 zM (by kernel_rfl) (fun b4 w3_ M3=>?_);have zbq:=zld zaa M3;have zbk:=zld zad M3;obtain ⟨B1,HB1⟩:=zEx B b4;have zbJ:=zNn HB1;have zcY:=zIn HB1;have zdc:=zOn M3 EW;have zaI:=zmb M3;go_wp2_with ((with_reducible refine zT ?_ ?_); exact rfl)
  unfold Hid;refine zac rfl 44 (.tmp 4) (.tmp 6) rfl b4 rfl [.slice ca1 sc.length cc1,.slice ua1 su.length uc1,.slice aa1 sa.length ac1,.slice pa1 sp.length pc1,I gen,.slice xa1 bl.length xc1,.bool busy,I nc,I nt,I nk,I na,I no,I nn,.slice la1 pl.length lc1,I se,I sn,.bool false,I pause,I falls,.slice ka1 cls.length kc1] (rfl) zaI rfl zaX rfl (fun w4_ M4=>?_);replace zaI:=zwb M4;replace zaa:=zwl M4 (zmo M3 zaa) zbq;have c16:=zab (i:=16) zaa.o rfl;go_wp2_with ((with_reducible refine zT ?_ ?_); exact rfl)
  unfold Hid;clear c16;refine zah rfl 44 (.tmp 4) rfl b4 rfl zaI zu44 zaX (fun v11 H_v11=>?_);go_wp2_with ((with_reducible refine zT ?_ ?_); exact rfl)
  unfold Hid;replace zad:=zwl M4 (zmo M3 zad) zbk;refine zac rfl 44 (.tmp 2) (.tmp 11) rfl b1 rfl _ (zcv H_v11) zad rfl zaX rfl (fun w5_ M5=>?_);replace zad:=zwb M5;replace zar:=znw HB1 zar;go_wp2
  have z0:=zas (P:=Tryz.prog) 44 zad.o zu44 (by kernel_rfl);refine bodyPost_ret (by simp [results,Tryz.results73,asAddr,z0]; rfl) rfl ?_;replace H1:=zHw M5 (zHw M4 (hd ((zMD HB1 M3 H1).o.ext M3.o.ext)) zbJ) zar;replace EW:=zwe M5 (zwe M4 (zet EW M3) zdc) zaU;exact ⟨_,rfl,EW.o,Rd.widen (zby (RdM.mc (m:=⟨⟨sc,su,sa,sp⟩,⟨gen,bl,busy,⟨nc,nt,⟨nk,na,no,nn⟩⟩,pl,⟨se,sn⟩⟩,false,pause,falls,cls⟩) H1.o)) (fun k _ h=>HK.o.2.2.2 k (zcY.o k h))⟩
 by_cases h6 : 6 <= falls
 case pos =>
  have hX : zcT ⟨⟨sc,su,sa,sp⟩,⟨gen,bl,busy,⟨nc,nt,⟨nk,na,no,nn⟩⟩,pl,⟨se,sn⟩⟩,true,pause,falls,cls⟩ = (⟨⟨sc,su,sa,sp⟩,⟨gen,bl,busy,⟨nc,nt,⟨nk,na,no,nn⟩⟩,pl,⟨se,sn⟩⟩,true,pause,falls,cls⟩,5):=by
   show (if ¬ (true = true) then _ else if 6 <= falls then _ else _) = _
   rw [if_neg (by simp),if_pos h6]
  rw [hX];clear hX;go_enter Tryz.func73,Tryz.ntmps73
  go_wp2_with ((with_reducible refine zT ?_ ?_); exact rfl)
  unfold Hid;refine zaj rfl 44 (.tmp 0) rfl #[.slice ca sc.length cc,.slice ua su.length uc,.slice aa sa.length ac,.slice pa sp.length pc,I gen,.slice xa bl.length xc,.bool busy,I nc,I nt,I nk,I na,I no,I nn,.slice la pl.length lc,I se,I sn,.bool true,I pause,I falls,.slice ka cls.length kc] rfl (fun b0 w1_ M1=>?_);have zaa:=zmb M1;go_wp2_with ((with_reducible refine zT ?_ ?_); exact rfl)
  unfold Hid;refine zae rfl 44 zM (by kernel_rfl) (fun b1 w2_ M2=>?_);have zad:=zmb M2;have zaD:=zA0 M1;have zaJ:=zA1 zaD M1 M2;have zar:=znb HK zaJ (by decide);have zaU:=zob zaJ;go_wp2_with ((with_reducible refine zT ?_ ?_); exact rfl)
  unfold Hid;replace zaa:=zmo M2 zaa;refine zah rfl 44 (.tmp 1) rfl b0 rfl zaa zu44 zaX (fun v5 H_v5=>?_);go_wp2_with fail
  rw [show _ = Value.agg #[.slice ca sc.length cc,.slice ua su.length uc,.slice aa sa.length ac,.slice pa sp.length pc,I gen,.slice xa bl.length xc,.bool busy,I nc,I nt,I nk,I na,I no,I nn,.slice la pl.length lc,I se,I sn,.bool true,I pause,I falls,.slice ka cls.length kc] from H_v5.o];clear H_v5;have hin : ∀ k,w2_.heap.size <= k -> B k:=fun k h=>HK.o.2.1 k (by have q:=(zlt zad); have q2:=zaJ.o; omega);replace EW:=zet (zet EW M1) M2;refine (zc2 ⟨⟨sc,su,sa,sp⟩,⟨gen,bl,busy,⟨nc,nt,⟨nk,na,no,nn⟩⟩,pl,⟨se,sn⟩⟩,true,pause,falls,cls⟩ _ _ _ _ _ _ _ w2_ A (H.o.ext EW.o) HS.o).to fun r wa ea hr=>?_;obtain ⟨cs,rfl,hcs⟩:=zb9 hr;obtain ⟨c',u',a',p',box',plan',cl',rfl,hM⟩:=zc1 hcs;obtain ⟨ca1,cc1,ua1,uc1,aa1,ac1,pa1,pc1,xa1,xc1,la1,lc1,ka1,kc1,rfl,rfl,rfl,rfl,rfl,rfl,rfl⟩:=hM.slices;have H1:=hd (hM.widen (B:=B) fun k _ h=>hin k (by rcases h with h | h; exact h.elim; exact h));clear hr hcs hM hin;replace zaa:=zbx zaa ea;replace zad:=zbx zad ea;replace EW:=hd (EW.o.trans ea);clear ea;go_wp2_with ((with_reducible refine zT ?_ ?_); exact rfl)
  unfold Hid;refine zae rfl 44 zM (by kernel_rfl) (fun b4 w3_ M3=>?_);have zbq:=zld zaa M3;have zbk:=zld zad M3;obtain ⟨B1,HB1⟩:=zEx B b4;have zbJ:=zNn HB1;have zcY:=zIn HB1;have zdc:=zOn M3 EW;have zaI:=zmb M3;go_wp2_with ((with_reducible refine zT ?_ ?_); exact rfl)
  unfold Hid;refine zac rfl 44 (.tmp 4) (.tmp 6) rfl b4 rfl [.slice ca1 sc.length cc1,.slice ua1 su.length uc1,.slice aa1 sa.length ac1,.slice pa1 sp.length pc1,I gen,.slice xa1 bl.length xc1,.bool busy,I nc,I nt,I nk,I na,I no,I nn,.slice la1 pl.length lc1,I se,I sn,.bool true,I pause,I falls,.slice ka1 cls.length kc1] (rfl) zaI rfl zaX rfl (fun w4_ M4=>?_);replace zaI:=zwb M4;replace zaa:=zwl M4 (zmo M3 zaa) zbq;have c16:=zab (i:=16) zaa.o rfl;have c18:=zab (i:=18) zaa.o rfl;go_wp2_with ((with_reducible refine zT ?_ ?_); exact rfl)
  unfold Hid;clear c16 c18;refine zah rfl 44 (.tmp 4) rfl b4 rfl zaI zu44 zaX (fun v16 H_v16=>?_);go_wp2_with ((with_reducible refine zT ?_ ?_); exact rfl)
  unfold Hid;replace zad:=zwl M4 (zmo M3 zad) zbk;refine zac rfl 44 (.tmp 2) (.tmp 16) rfl b1 rfl _ (zcv H_v16) zad rfl zaX rfl (fun w5_ M5=>?_);replace zad:=zwb M5;replace zar:=znw HB1 zar;go_wp2
  have z0:=zas (P:=Tryz.prog) 44 zad.o zu44 (by kernel_rfl);refine bodyPost_ret (by simp [results,Tryz.results73,asAddr,z0]; rfl) rfl ?_;replace H1:=zHw M5 (zHw M4 (hd ((zMD HB1 M3 H1).o.ext M3.o.ext)) zbJ) zar;replace EW:=zwe M5 (zwe M4 (zet EW M3) zdc) zaU;exact ⟨_,rfl,EW.o,Rd.widen (zby (RdM.mc (m:=⟨⟨sc,su,sa,sp⟩,⟨gen,bl,busy,⟨nc,nt,⟨nk,na,no,nn⟩⟩,pl,⟨se,sn⟩⟩,true,pause,falls,cls⟩) H1.o)) (fun k _ h=>HK.o.2.2.2 k (zcY.o k h))⟩
 have hX : zcT ⟨⟨sc,su,sa,sp⟩,⟨gen,bl,busy,⟨nc,nt,⟨nk,na,no,nn⟩⟩,pl,⟨se,sn⟩⟩,true,pause,falls,cls⟩ = (⟨⟨sc,su,sa,sp⟩,zbH gen [],false,pauseOf (falls + 1),falls + 1,cls⟩,0):=by
  show (if ¬ (true = true) then _ else if 6 <= falls then _ else _) = _
  rw [if_neg (by simp),if_neg h6]
 rw [hX];clear hX;have h5 : falls < 6:=by omega
 have hf0 : (0 : Int) <= falls:=hf;go_enter Tryz.func73,Tryz.ntmps73
 go_wp2_with ((with_reducible refine zT ?_ ?_); exact rfl)
 unfold Hid;refine zaj rfl 44 (.tmp 0) rfl #[.slice ca sc.length cc,.slice ua su.length uc,.slice aa sa.length ac,.slice pa sp.length pc,I gen,.slice xa bl.length xc,.bool busy,I nc,I nt,I nk,I na,I no,I nn,.slice la pl.length lc,I se,I sn,.bool true,I pause,I falls,.slice ka cls.length kc] rfl (fun b0 w1_ M1=>?_);have zaa:=zmb M1;go_wp2_with ((with_reducible refine zT ?_ ?_); exact rfl)
 unfold Hid;refine zae rfl 44 zM (by kernel_rfl) (fun b1 w2_ M2=>?_);have zad:=zmb M2;have zaD:=zA0 M1;have zaJ:=zA1 zaD M1 M2;have zar:=znb HK zaJ (by decide);have zaU:=zob zaJ;go_wp2_with ((with_reducible refine zT ?_ ?_); exact rfl)
 unfold Hid;replace zaa:=zmo M2 zaa;refine zah rfl 44 (.tmp 1) rfl b0 rfl zaa zu44 zaX (fun v5 H_v5=>?_);go_wp2_with fail
 rw [show _ = Value.agg #[.slice ca sc.length cc,.slice ua su.length uc,.slice aa sa.length ac,.slice pa sp.length pc,I gen,.slice xa bl.length xc,.bool busy,I nc,I nt,I nk,I na,I no,I nn,.slice la pl.length lc,I se,I sn,.bool true,I pause,I falls,.slice ka cls.length kc] from H_v5.o];clear H_v5;have hin : ∀ k,w2_.heap.size <= k -> B k:=fun k h=>HK.o.2.1 k (by have q:=(zlt zad); have q2:=zaJ.o; omega);replace EW:=zet (zet EW M1) M2;refine (zc2 ⟨⟨sc,su,sa,sp⟩,⟨gen,bl,busy,⟨nc,nt,⟨nk,na,no,nn⟩⟩,pl,⟨se,sn⟩⟩,true,pause,falls,cls⟩ _ _ _ _ _ _ _ w2_ A (H.o.ext EW.o) HS.o).to fun r wa ea hr=>?_;obtain ⟨cs,rfl,hcs⟩:=zb9 hr;obtain ⟨c',u',a',p',box',plan',cl',rfl,hM⟩:=zc1 hcs;obtain ⟨ca1,cc1,ua1,uc1,aa1,ac1,pa1,pc1,xa1,xc1,la1,lc1,ka1,kc1,rfl,rfl,rfl,rfl,rfl,rfl,rfl⟩:=hM.slices;have H1:=hd (hM.widen (B:=B) fun k _ h=>hin k (by rcases h with h | h; exact h.elim; exact h));clear hr hcs hM hin;replace zaa:=zbx zaa ea;replace zad:=zbx zad ea;replace EW:=hd (EW.o.trans ea);clear ea;go_wp2_with ((with_reducible refine zT ?_ ?_); exact rfl)
 unfold Hid;refine zae rfl 44 zM (by kernel_rfl) (fun b4 w3_ M3=>?_);have zbq:=zld zaa M3;have zbk:=zld zad M3;obtain ⟨B1,HB1⟩:=zEx B b4;have zbJ:=zNn HB1;have zcY:=zIn HB1;have zdc:=zOn M3 EW;have zaI:=zmb M3;go_wp2_with ((with_reducible refine zT ?_ ?_); exact rfl)
 unfold Hid;refine zac rfl 44 (.tmp 4) (.tmp 6) rfl b4 rfl [.slice ca1 sc.length cc1,.slice ua1 su.length uc1,.slice aa1 sa.length ac1,.slice pa1 sp.length pc1,I gen,.slice xa1 bl.length xc1,.bool busy,I nc,I nt,I nk,I na,I no,I nn,.slice la1 pl.length lc1,I se,I sn,.bool true,I pause,I falls,.slice ka1 cls.length kc1] (rfl) zaI rfl zaX rfl (fun w4_ M4=>?_);replace zaI:=zwb M4;replace zaa:=zwl M4 (zmo M3 zaa) zbq;have c16:=zab (i:=16) zaa.o rfl;have c18:=zab (i:=18) zaa.o rfl;have d18:=zab (i:=18) zaI.o rfl;go_wp2_with ((with_reducible refine zT ?_ ?_); exact rfl)
 unfold Hid;clear c16 c18 d18;refine zai rfl 3 (.tmp 20) (.tmp 19) rfl b4 18 rfl [I (falls + 1)] (rfl) zaI rfl zi3 rfl [.slice ca1 sc.length cc1,.slice ua1 su.length uc1,.slice aa1 sa.length ac1,.slice pa1 sp.length pc1,I gen,.slice xa1 bl.length xc1,.bool busy,I nc,I nt,I nk,I na,I no,I nn,.slice la1 pl.length lc1,I se,I sn,.bool true,I pause,I (falls + 1),.slice ka1 cls.length kc1] rfl (fun w5_ M5=>?_);replace zaI:=zwb M5;have d18:=zab (i:=18) zaI.o rfl;go_wp2_with fail
 clear d18;refine (znz (falls + 1) w5_).to fun r wb eb hr=>?_;subst hr;replace H1:=hd ((zHw M5 (zHw M4 (hd ((zMD HB1 M3 H1).o.ext M3.o.ext)) zbJ) zbJ).o.ext eb);replace zad:=zbx (zwl M5 (zwl M4 (zmo M3 zad) zbk) zbk) eb;replace EW:=hd ((zwe M5 (zwe M4 (zet EW M3) zdc) zdc).o.trans eb);replace zaa:=zbx (zwl M5 zaa zbq) eb;replace zaI:=zbx zaI eb;clear eb;replace zar:=znw HB1 zar;generalize hpn : pauseOf (falls + 1) = pn at *;have HPN:=hd hpn;clear hpn;go_wp2_with ((with_reducible refine zT ?_ ?_); exact rfl)
 unfold Hid;refine zai rfl 4 (.tmp 24) (.const (.bool false)) rfl b4 16 rfl [.bool false] (rfl) zaI rfl zi4 rfl [.slice ca1 sc.length cc1,.slice ua1 su.length uc1,.slice aa1 sa.length ac1,.slice pa1 sp.length pc1,I gen,.slice xa1 bl.length xc1,.bool busy,I nc,I nt,I nk,I na,I no,I nn,.slice la1 pl.length lc1,I se,I sn,.bool false,I pause,I (falls + 1),.slice ka1 cls.length kc1] rfl (fun w6_ M6=>?_);replace zaI:=zwb M6;go_wp2_with ((with_reducible refine zT ?_ ?_); exact rfl)
 unfold Hid;refine zai rfl 3 (.tmp 25) (.tmp 23) rfl b4 17 rfl [I pn] (rfl) zaI rfl zi3 rfl [.slice ca1 sc.length cc1,.slice ua1 su.length uc1,.slice aa1 sa.length ac1,.slice pa1 sp.length pc1,I gen,.slice xa1 bl.length xc1,.bool busy,I nc,I nt,I nk,I na,I no,I nn,.slice la1 pl.length lc1,I se,I sn,.bool false,I pn,I (falls + 1),.slice ka1 cls.length kc1] rfl (fun w7_ M7=>?_);replace zaI:=zwb M7;replace zaa:=zwl M7 (zwl M6 zaa zbq) zbq;have c4:=zab (i:=4) zaa.o rfl;go_wp2_with fail
 clear c4;refine (zjM gen w7_).to fun r wc ec hr=>?_;subst hr;replace zad:=zbx (zwl M7 (zwl M6 zad zbk) zbk) ec;replace H1:=hd ((zHw M7 (zHw M6 H1 zbJ) zbJ).o.ext ec);replace EW:=hd ((zwe M7 (zwe M6 EW zdc) zdc).o.trans ec);replace zaa:=zbx zaa ec;replace zaI:=zbx zaI ec;clear ec;go_wp2_with ((with_reducible refine zT ?_ ?_); exact rfl)
 unfold Hid;refine zai rfl 41 (.tmp 30) (.tmp 29) rfl b4 4 rfl [I gen,.slice none 0 0,.bool false,I 0,I 0,I 0,I 0,I 0,I 0,.slice none 0 0,I 0,I 0] (rfl) zaI rfl zcb rfl [.slice ca1 sc.length cc1,.slice ua1 su.length uc1,.slice aa1 sa.length ac1,.slice pa1 sp.length pc1,I gen,.slice none 0 0,.bool false,I 0,I 0,I 0,I 0,I 0,I 0,.slice none 0 0,I 0,I 0,.bool false,I pn,I (falls + 1),.slice ka1 cls.length kc1] rfl (fun w8_ M8=>?_);replace zaI:=zwb M8;go_wp2_with ((with_reducible refine zT ?_ ?_); exact rfl)
 unfold Hid;refine zah rfl 44 (.tmp 4) rfl b4 rfl zaI zu44 zaX (fun v31 H_v31=>?_);go_wp2_with ((with_reducible refine zT ?_ ?_); exact rfl)
 unfold Hid;replace zad:=zwl M8 zad zbk;refine zac rfl 44 (.tmp 2) (.tmp 31) rfl b1 rfl _ (zcv H_v31) zad rfl zaX rfl (fun w9_ M9=>?_);replace zad:=zwb M9;go_wp2
 have z0:=zas (P:=Tryz.prog) 44 zad.o zu44 (by kernel_rfl);refine bodyPost_ret (by simp [results,Tryz.results73,asAddr,z0]; rfl) rfl ?_;have hpn:=HPN.o;subst hpn;replace H1:=zHw M9 (zHw M8 H1 zbJ) zar;replace EW:=zwe M9 (zwe M8 EW zdc) zaU;exact ⟨_,rfl,EW.o,Rd.widen (zby (RdM.mc (m:=⟨⟨sc,su,sa,sp⟩,zbH gen [],false,pauseOf (falls + 1),falls + 1,cls⟩) ⟨H1.o.cells,H1.o.undo,H1.o.answers,H1.o.past,Rd.all fun w=>zax.nil w,Rd.all fun w=>zbh w,H1.o.clients⟩)) (fun k _ h=>HK.o.2.2.2 k (zcY.o k h))⟩

theorem zkW (m : Mc) (c u a p box plan cl : Value) (w : World) (A : Nat -> Prop) (h : RdM A w m c u a p box plan cl) (hs : zhu m) (hg : 0 <= m.server.gen /\ m.server.gen <= 1000000) (hpz : m.up = false -> 1 <= m.pause /\ m.pause <= 1000000) :
  zaR Tryz.prog 74 #[.agg (za1 m c u a p box plan cl).toArray] w (fun _=>False) (fun r w'=>Agg zdL (zdB m) r w'):=by
 have HGN:=hd hg;have HPZ:=hd hpz;clear hg hpz;unfold zaR;obtain ⟨ca,cc,ua,uc,aa,ac,pa,pc,xa,xc,la,lc,ka,kc,rfl,rfl,rfl,rfl,rfl,rfl,rfl⟩:=h.slices;obtain ⟨⟨sc,su,sa,sp⟩,⟨gen,bl,busy,⟨nc,nt,⟨nk,na,no,nn⟩⟩,pl,⟨se,sn⟩⟩,up,pause,falls,cls⟩:=m;simp only [za1] at *;have H:=hd h;have HS:=hd hs;clear h hs;have EW:=hd (Ext.refl w);obtain ⟨B,hB⟩:=zda (fun _=>False) w.heap.size 2;have HK:=hd hB;clear hB;cases up
 case true =>
  have hX : zdB ⟨⟨sc,su,sa,sp⟩,⟨gen,bl,busy,⟨nc,nt,⟨nk,na,no,nn⟩⟩,pl,⟨se,sn⟩⟩,true,pause,falls,cls⟩ = ⟨⟨sc,su,sa,sp⟩,⟨gen,bl,busy,⟨nc,nt,⟨nk,na,no,nn⟩⟩,pl,⟨se,sn⟩⟩,true,pause,falls,cls⟩:=rfl;rw [hX];clear hX;go_enter Tryz.func74,Tryz.ntmps74
  go_wp2_with ((with_reducible refine zT ?_ ?_); exact rfl)
  unfold Hid;refine zaj rfl 44 (.tmp 0) rfl #[.slice ca sc.length cc,.slice ua su.length uc,.slice aa sa.length ac,.slice pa sp.length pc,I gen,.slice xa bl.length xc,.bool busy,I nc,I nt,I nk,I na,I no,I nn,.slice la pl.length lc,I se,I sn,.bool true,I pause,I falls,.slice ka cls.length kc] rfl (fun b0 w1_ M1=>?_);have zaa:=zmb M1;go_wp2_with ((with_reducible refine zT ?_ ?_); exact rfl)
  unfold Hid;refine zae rfl 44 zM (by kernel_rfl) (fun b1 w2_ M2=>?_);have zad:=zmb M2;have zaD:=zA0 M1;have zaJ:=zA1 zaD M1 M2;have zar:=znb HK zaJ (by decide);have zaU:=zob zaJ;go_wp2_with ((with_reducible refine zT ?_ ?_); exact rfl)
  unfold Hid;replace zaa:=zmo M2 zaa;refine zah rfl 44 (.tmp 1) rfl b0 rfl zaa zu44 zaX (fun v4 H_v4=>?_);go_wp2_with fail
  rw [show _ = Value.agg #[.slice ca sc.length cc,.slice ua su.length uc,.slice aa sa.length ac,.slice pa sp.length pc,I gen,.slice xa bl.length xc,.bool busy,I nc,I nt,I nk,I na,I no,I nn,.slice la pl.length lc,I se,I sn,.bool true,I pause,I falls,.slice ka cls.length kc] from H_v4.o];clear H_v4;have hin : ∀ k,w2_.heap.size <= k -> B k:=fun k h=>HK.o.2.1 k (by have q:=(zlt zad); have q2:=zaJ.o; omega);replace EW:=zet (zet EW M1) M2;refine (zc2 ⟨⟨sc,su,sa,sp⟩,⟨gen,bl,busy,⟨nc,nt,⟨nk,na,no,nn⟩⟩,pl,⟨se,sn⟩⟩,true,pause,falls,cls⟩ _ _ _ _ _ _ _ w2_ A (H.o.ext EW.o) HS.o).to fun r wa ea hr=>?_;obtain ⟨cs,rfl,hcs⟩:=zb9 hr;obtain ⟨c',u',a',p',box',plan',cl',rfl,hM⟩:=zc1 hcs;obtain ⟨ca1,cc1,ua1,uc1,aa1,ac1,pa1,pc1,xa1,xc1,la1,lc1,ka1,kc1,rfl,rfl,rfl,rfl,rfl,rfl,rfl⟩:=hM.slices;have H1:=hd (hM.widen (B:=B) fun k _ h=>hin k (by rcases h with h | h; exact h.elim; exact h));clear hr hcs hM hin;replace zaa:=zbx zaa ea;replace zad:=zbx zad ea;replace EW:=hd (EW.o.trans ea);clear ea;go_wp2_with ((with_reducible refine zT ?_ ?_); exact rfl)
  unfold Hid;refine zae rfl 44 zM (by kernel_rfl) (fun b3 w3_ M3=>?_);have zaY:=zld zaa M3;have zaQ:=zld zad M3;obtain ⟨B1,HB1⟩:=zEx B b3;have zaP:=zNn HB1;have zcY:=zIn HB1;have zcg:=zOn M3 EW;have zat:=zmb M3;go_wp2_with ((with_reducible refine zT ?_ ?_); exact rfl)
  unfold Hid;refine zac rfl 44 (.tmp 3) (.tmp 5) rfl b3 rfl [.slice ca1 sc.length cc1,.slice ua1 su.length uc1,.slice aa1 sa.length ac1,.slice pa1 sp.length pc1,I gen,.slice xa1 bl.length xc1,.bool busy,I nc,I nt,I nk,I na,I no,I nn,.slice la1 pl.length lc1,I se,I sn,.bool true,I pause,I falls,.slice ka1 cls.length kc1] (rfl) zat rfl zaX rfl (fun w4_ M4=>?_);replace zat:=zwb M4;replace zaa:=zwl M4 (zmo M3 zaa) zaY;have c16:=zab (i:=16) zaa.o rfl;go_wp2_with ((with_reducible refine zT ?_ ?_); exact rfl)
  unfold Hid;clear c16;refine zah rfl 44 (.tmp 3) rfl b3 rfl zat zu44 zaX (fun v8 H_v8=>?_);go_wp2_with ((with_reducible refine zT ?_ ?_); exact rfl)
  unfold Hid;replace zad:=zwl M4 (zmo M3 zad) zaQ;refine zac rfl 44 (.tmp 2) (.tmp 8) rfl b1 rfl _ (zcv H_v8) zad rfl zaX rfl (fun w5_ M5=>?_);replace zad:=zwb M5;replace zar:=znw HB1 zar;go_wp2
  have z0:=zas (P:=Tryz.prog) 44 zad.o zu44 (by kernel_rfl);refine bodyPost_ret (by simp [results,Tryz.results74,asAddr,z0,Act.put]; rfl) rfl ?_;replace H1:=zHw M5 (zHw M4 (hd ((zMD HB1 M3 H1).o.ext M3.o.ext)) zaP) zar;replace EW:=zwe M5 (zwe M4 (zet EW M3) zcg) zaU;exact ⟨_,rfl,EW.o,Rd.widen (zb1 (RdM.mc (m:=⟨⟨sc,su,sa,sp⟩,⟨gen,bl,busy,⟨nc,nt,⟨nk,na,no,nn⟩⟩,pl,⟨se,sn⟩⟩,true,pause,falls,cls⟩) H1.o)) (fun k _ h=>HK.o.2.2.2 k (zcY.o k h))⟩
 obtain ⟨hq1,hq2⟩ : (1 : Int) <= pause /\ pause <= 1000000:=HPZ.o rfl;clear HPZ;by_cases hp : 1 < pause
 case pos =>
  have hX : zdB ⟨⟨sc,su,sa,sp⟩,⟨gen,bl,busy,⟨nc,nt,⟨nk,na,no,nn⟩⟩,pl,⟨se,sn⟩⟩,false,pause,falls,cls⟩ = ⟨⟨sc,su,sa,sp⟩,⟨gen,bl,busy,⟨nc,nt,⟨nk,na,no,nn⟩⟩,pl,⟨se,sn⟩⟩,false,(pause - 1),falls,cls⟩:=by
   show (if (false = true) then _ else if 1 < pause then _ else _) = _
   rw [if_neg (by simp),if_pos hp]
  rw [hX];clear hX;have hne : ¬ (pause - 1 = 0):=by omega
  go_enter Tryz.func74,Tryz.ntmps74
  go_wp2_with ((with_reducible refine zT ?_ ?_); exact rfl)
  unfold Hid;refine zaj rfl 44 (.tmp 0) rfl #[.slice ca sc.length cc,.slice ua su.length uc,.slice aa sa.length ac,.slice pa sp.length pc,I gen,.slice xa bl.length xc,.bool busy,I nc,I nt,I nk,I na,I no,I nn,.slice la pl.length lc,I se,I sn,.bool false,I pause,I falls,.slice ka cls.length kc] rfl (fun b0 w1_ M1=>?_);have zaa:=zmb M1;go_wp2_with ((with_reducible refine zT ?_ ?_); exact rfl)
  unfold Hid;refine zae rfl 44 zM (by kernel_rfl) (fun b1 w2_ M2=>?_);have zad:=zmb M2;have zaD:=zA0 M1;have zaJ:=zA1 zaD M1 M2;have zar:=znb HK zaJ (by decide);have zaU:=zob zaJ;go_wp2_with ((with_reducible refine zT ?_ ?_); exact rfl)
  unfold Hid;replace zaa:=zmo M2 zaa;refine zah rfl 44 (.tmp 1) rfl b0 rfl zaa zu44 zaX (fun v4 H_v4=>?_);go_wp2_with fail
  rw [show _ = Value.agg #[.slice ca sc.length cc,.slice ua su.length uc,.slice aa sa.length ac,.slice pa sp.length pc,I gen,.slice xa bl.length xc,.bool busy,I nc,I nt,I nk,I na,I no,I nn,.slice la pl.length lc,I se,I sn,.bool false,I pause,I falls,.slice ka cls.length kc] from H_v4.o];clear H_v4;have hin : ∀ k,w2_.heap.size <= k -> B k:=fun k h=>HK.o.2.1 k (by have q:=(zlt zad); have q2:=zaJ.o; omega);replace EW:=zet (zet EW M1) M2;refine (zc2 ⟨⟨sc,su,sa,sp⟩,⟨gen,bl,busy,⟨nc,nt,⟨nk,na,no,nn⟩⟩,pl,⟨se,sn⟩⟩,false,pause,falls,cls⟩ _ _ _ _ _ _ _ w2_ A (H.o.ext EW.o) HS.o).to fun r wa ea hr=>?_;obtain ⟨cs,rfl,hcs⟩:=zb9 hr;obtain ⟨c',u',a',p',box',plan',cl',rfl,hM⟩:=zc1 hcs;obtain ⟨ca1,cc1,ua1,uc1,aa1,ac1,pa1,pc1,xa1,xc1,la1,lc1,ka1,kc1,rfl,rfl,rfl,rfl,rfl,rfl,rfl⟩:=hM.slices;have H1:=hd (hM.widen (B:=B) fun k _ h=>hin k (by rcases h with h | h; exact h.elim; exact h));clear hr hcs hM hin;replace zaa:=zbx zaa ea;replace zad:=zbx zad ea;replace EW:=hd (EW.o.trans ea);clear ea;go_wp2_with ((with_reducible refine zT ?_ ?_); exact rfl)
  unfold Hid;refine zae rfl 44 zM (by kernel_rfl) (fun b3 w3_ M3=>?_);have zaY:=zld zaa M3;have zaQ:=zld zad M3;obtain ⟨B1,HB1⟩:=zEx B b3;have zaP:=zNn HB1;have zcY:=zIn HB1;have zcg:=zOn M3 EW;have zat:=zmb M3;go_wp2_with ((with_reducible refine zT ?_ ?_); exact rfl)
  unfold Hid;refine zac rfl 44 (.tmp 3) (.tmp 5) rfl b3 rfl [.slice ca1 sc.length cc1,.slice ua1 su.length uc1,.slice aa1 sa.length ac1,.slice pa1 sp.length pc1,I gen,.slice xa1 bl.length xc1,.bool busy,I nc,I nt,I nk,I na,I no,I nn,.slice la1 pl.length lc1,I se,I sn,.bool false,I pause,I falls,.slice ka1 cls.length kc1] (rfl) zat rfl zaX rfl (fun w4_ M4=>?_);replace zat:=zwb M4;replace zaa:=zwl M4 (zmo M3 zaa) zaY;have c16:=zab (i:=16) zaa.o rfl;have c17:=zab (i:=17) zat.o rfl;go_wp2_with ((with_reducible refine zT ?_ ?_); exact rfl)
  unfold Hid;clear c16 c17;refine zai rfl 3 (.tmp 12) (.tmp 11) rfl b3 17 rfl [I (pause - 1)] (rfl) zat rfl zi3 rfl [.slice ca1 sc.length cc1,.slice ua1 su.length uc1,.slice aa1 sa.length ac1,.slice pa1 sp.length pc1,I gen,.slice xa1 bl.length xc1,.bool busy,I nc,I nt,I nk,I na,I no,I nn,.slice la1 pl.length lc1,I se,I sn,.bool false,I (pause - 1),I falls,.slice ka1 cls.length kc1] rfl (fun w5_ M5=>?_);replace zat:=zwb M5;have c17:=zab (i:=17) zat.o rfl;go_wp2_with ((with_reducible refine zT ?_ ?_); exact rfl)
  unfold Hid;clear c17;refine zah rfl 44 (.tmp 3) rfl b3 rfl zat zu44 zaX (fun v27 H_v27=>?_);go_wp2_with ((with_reducible refine zT ?_ ?_); exact rfl)
  unfold Hid;replace zad:=zwl M5 (zwl M4 (zmo M3 zad) zaQ) zaQ;refine zac rfl 44 (.tmp 2) (.tmp 27) rfl b1 rfl _ (zcv H_v27) zad rfl zaX rfl (fun w6_ M6=>?_);replace zad:=zwb M6;replace zar:=znw HB1 zar;go_wp2
  have z0:=zas (P:=Tryz.prog) 44 zad.o zu44 (by kernel_rfl);refine bodyPost_ret (by simp [results,Tryz.results74,asAddr,z0,Act.put]; rfl) rfl ?_;replace H1:=zHw M6 (zHw M5 (zHw M4 (hd ((zMD HB1 M3 H1).o.ext M3.o.ext)) zaP) zaP) zar;replace EW:=zwe M6 (zwe M5 (zwe M4 (zet EW M3) zcg) zcg) zaU;exact ⟨_,rfl,EW.o,Rd.widen (zb1 (RdM.mc (m:=⟨⟨sc,su,sa,sp⟩,⟨gen,bl,busy,⟨nc,nt,⟨nk,na,no,nn⟩⟩,pl,⟨se,sn⟩⟩,false,(pause - 1),falls,cls⟩) ⟨H1.o.cells,H1.o.undo,H1.o.answers,H1.o.past,H1.o.box,H1.o.plan,H1.o.clients⟩)) (fun k _ h=>HK.o.2.2.2 k (zcY.o k h))⟩
 have hX : zdB ⟨⟨sc,su,sa,sp⟩,⟨gen,bl,busy,⟨nc,nt,⟨nk,na,no,nn⟩⟩,pl,⟨se,sn⟩⟩,false,pause,falls,cls⟩ = ⟨zbB ⟨sc,su,sa,sp⟩,zbH (gen + 1) [],true,0,falls,cls⟩:=by
  show (if (false = true) then _ else if 1 < pause then _ else _) = _
  rw [if_neg (by simp),if_neg hp]
 rw [hX];clear hX;obtain rfl : pause = 1:=by omega
 obtain ⟨hg1,hg2⟩ : (0 : Int) <= gen /\ gen <= 1000000:=HGN.o;clear HGN;go_enter Tryz.func74,Tryz.ntmps74
 go_wp2_with ((with_reducible refine zT ?_ ?_); exact rfl)
 unfold Hid;refine zaj rfl 44 (.tmp 0) rfl #[.slice ca sc.length cc,.slice ua su.length uc,.slice aa sa.length ac,.slice pa sp.length pc,I gen,.slice xa bl.length xc,.bool busy,I nc,I nt,I nk,I na,I no,I nn,.slice la pl.length lc,I se,I sn,.bool false,I 1,I falls,.slice ka cls.length kc] rfl (fun b0 w1_ M1=>?_);have zaa:=zmb M1;go_wp2_with ((with_reducible refine zT ?_ ?_); exact rfl)
 unfold Hid;refine zae rfl 44 zM (by kernel_rfl) (fun b1 w2_ M2=>?_);have zad:=zmb M2;have zaD:=zA0 M1;have zaJ:=zA1 zaD M1 M2;have zar:=znb HK zaJ (by decide);have zaU:=zob zaJ;go_wp2_with ((with_reducible refine zT ?_ ?_); exact rfl)
 unfold Hid;replace zaa:=zmo M2 zaa;refine zah rfl 44 (.tmp 1) rfl b0 rfl zaa zu44 zaX (fun v4 H_v4=>?_);go_wp2_with fail
 rw [show _ = Value.agg #[.slice ca sc.length cc,.slice ua su.length uc,.slice aa sa.length ac,.slice pa sp.length pc,I gen,.slice xa bl.length xc,.bool busy,I nc,I nt,I nk,I na,I no,I nn,.slice la pl.length lc,I se,I sn,.bool false,I 1,I falls,.slice ka cls.length kc] from H_v4.o];clear H_v4;have hin : ∀ k,w2_.heap.size <= k -> B k:=fun k h=>HK.o.2.1 k (by have q:=(zlt zad); have q2:=zaJ.o; omega);replace EW:=zet (zet EW M1) M2;refine (zc2 ⟨⟨sc,su,sa,sp⟩,⟨gen,bl,busy,⟨nc,nt,⟨nk,na,no,nn⟩⟩,pl,⟨se,sn⟩⟩,false,1,falls,cls⟩ _ _ _ _ _ _ _ w2_ A (H.o.ext EW.o) HS.o).to fun r wa ea hr=>?_;obtain ⟨cs,rfl,hcs⟩:=zb9 hr;obtain ⟨c',u',a',p',box',plan',cl',rfl,hM⟩:=zc1 hcs;obtain ⟨ca1,cc1,ua1,uc1,aa1,ac1,pa1,pc1,xa1,xc1,la1,lc1,ka1,kc1,rfl,rfl,rfl,rfl,rfl,rfl,rfl⟩:=hM.slices;have H1:=hd (hM.widen (B:=B) fun k _ h=>hin k (by rcases h with h | h; exact h.elim; exact h));clear hr hcs hM hin;replace zaa:=zbx zaa ea;replace zad:=zbx zad ea;replace EW:=hd (EW.o.trans ea);clear ea;go_wp2_with ((with_reducible refine zT ?_ ?_); exact rfl)
 unfold Hid;refine zae rfl 44 zM (by kernel_rfl) (fun b3 w3_ M3=>?_);have zaY:=zld zaa M3;have zaQ:=zld zad M3;obtain ⟨B1,HB1⟩:=zEx B b3;have zaP:=zNn HB1;have zcY:=zIn HB1;have zcg:=zOn M3 EW;have zat:=zmb M3;go_wp2_with ((with_reducible refine zT ?_ ?_); exact rfl)
 unfold Hid;refine zac rfl 44 (.tmp 3) (.tmp 5) rfl b3 rfl [.slice ca1 sc.length cc1,.slice ua1 su.length uc1,.slice aa1 sa.length ac1,.slice pa1 sp.length pc1,I gen,.slice xa1 bl.length xc1,.bool busy,I nc,I nt,I nk,I na,I no,I nn,.slice la1 pl.length lc1,I se,I sn,.bool false,I 1,I falls,.slice ka1 cls.length kc1] (rfl) zat rfl zaX rfl (fun w4_ M4=>?_);replace zat:=zwb M4;replace zaa:=zwl M4 (zmo M3 zaa) zaY;have c16:=zab (i:=16) zaa.o rfl;have c17:=zab (i:=17) zat.o rfl;go_wp2_with ((with_reducible refine zT ?_ ?_); exact rfl)
 unfold Hid;clear c16 c17;refine zai rfl 3 (.tmp 12) (.tmp 11) rfl b3 17 rfl [I 0] (rfl) zat rfl zi3 rfl [.slice ca1 sc.length cc1,.slice ua1 su.length uc1,.slice aa1 sa.length ac1,.slice pa1 sp.length pc1,I gen,.slice xa1 bl.length xc1,.bool busy,I nc,I nt,I nk,I na,I no,I nn,.slice la1 pl.length lc1,I se,I sn,.bool false,I 0,I falls,.slice ka1 cls.length kc1] rfl (fun w5_ M5=>?_);replace zat:=zwb M5;have c17:=zab (i:=17) zat.o rfl;go_wp2_with ((with_reducible refine zT ?_ ?_); exact rfl)
 unfold Hid;clear c17;refine zai rfl 4 (.tmp 16) (.const (.bool true)) rfl b3 16 rfl [.bool true] (rfl) zat rfl zi4 rfl [.slice ca1 sc.length cc1,.slice ua1 su.length uc1,.slice aa1 sa.length ac1,.slice pa1 sp.length pc1,I gen,.slice xa1 bl.length xc1,.bool busy,I nc,I nt,I nk,I na,I no,I nn,.slice la1 pl.length lc1,I se,I sn,.bool true,I 0,I falls,.slice ka1 cls.length kc1] rfl (fun w6_ M6=>?_);replace zat:=zwb M6;go_wp2_with ((with_reducible refine zT ?_ ?_); exact rfl)
 unfold Hid;refine zbe rfl 31 (.tmp 17) rfl b3 0 rfl zat [.slice ca1 sc.length cc1,.slice ua1 su.length uc1,.slice aa1 sa.length ac1,.slice pa1 sp.length pc1] rfl zu31 zdP (fun v18 H_v18=>?_);go_wp2_with fail
 rw [show _ = Value.agg #[.slice ca1 sc.length cc1,.slice ua1 su.length uc1,.slice aa1 sa.length ac1,.slice pa1 sp.length pc1] from H_v18.o];clear H_v18;replace H1:=zHw M6 (zHw M5 (zHw M4 (hd ((zMD HB1 M3 H1).o.ext M3.o.ext)) zaP) zaP) zaP;refine (zoP _ _ _ _ ⟨sc,su,sa,sp⟩ w6_ (zcO.2 ⟨H1.o.cells.o,H1.o.undo.o,H1.o.answers.o,H1.o.past.o⟩) HS.o.1).to fun r wb eb hr1=>?_;obtain ⟨cs,rfl,hcs⟩:=zb9 hr1;obtain ⟨c',u',a',p',rfl,r1,r2,r3,r4⟩:=zdp hcs;obtain ⟨ca',cc',rfl⟩:=zan r1.o;obtain ⟨ua',uc',rfl⟩:=zan r2.o;obtain ⟨aa',ac',rfl⟩:=zaf r3.o;obtain ⟨pa',pc',rfl⟩:=zaf r4.o;replace zad:=zwl M6 (zwl M5 (zwl M4 (zmo M3 zad) zaQ) zaQ) zaQ;have hsz : w.heap.size + 2 <= w6_.heap.size:=by have q:=(zlt zad); have q2:=zaJ.o; omega
 have hin : ∀ k,k < wb.heap.size -> (False ∨ w6_.heap.size <= k) -> B1 k:=fun k _ h=>by
  rcases h with h | h
  ·exact h.elim
  ·exact (HB1.o k).2 ⟨HK.o.2.1 k (by omega),by have q:=(zlt zat); omega⟩
 have R1:=hd (r1.widen hin);have R2:=hd (r2.widen hin);have R3:=hd (r3.widen hin);have R4:=hd (r4.widen hin);clear hr1 hcs r1 r2 r3 r4 hin hsz;replace EW:=hd ((zwe M6 (zwe M5 (zwe M4 (zet EW M3) zcg) zcg) zcg).o.trans eb);replace zaa:=zbx (zwl M6 (zwl M5 zaa zaY) zaY) eb;replace zad:=zbx zad eb;replace zat:=zbx zat eb;replace H1:=hd (H1.o.ext eb);clear eb;go_wp2_with ((with_reducible refine zT ?_ ?_); exact rfl)
 unfold Hid;refine zai rfl 31 (.tmp 20) (.tmp 19) rfl b3 0 rfl [.slice ca' (zbB ⟨sc,su,sa,sp⟩).cells.length cc',.slice ua' (zbB ⟨sc,su,sa,sp⟩).undo.length uc',.slice aa' (zbB ⟨sc,su,sa,sp⟩).answers.length ac',.slice pa' (zbB ⟨sc,su,sa,sp⟩).past.length pc'] (rfl) zat rfl zdP rfl [.slice ca' (zbB ⟨sc,su,sa,sp⟩).cells.length cc',.slice ua' (zbB ⟨sc,su,sa,sp⟩).undo.length uc',.slice aa' (zbB ⟨sc,su,sa,sp⟩).answers.length ac',.slice pa' (zbB ⟨sc,su,sa,sp⟩).past.length pc',I gen,.slice xa1 bl.length xc1,.bool busy,I nc,I nt,I nk,I na,I no,I nn,.slice la1 pl.length lc1,I se,I sn,.bool true,I 0,I falls,.slice ka1 cls.length kc1] rfl (fun w7_ M7=>?_);replace zat:=zwb M7;replace zaa:=zwl M7 zaa zaY;have c4:=zab (i:=4) zaa.o rfl;go_wp2_with fail
 clear c4;refine (zjM (gen + 1) w7_).to fun r wc ec hr=>?_;subst hr;replace zad:=zbx (zwl M7 zad zaQ) ec;replace H1:=hd ((zHw M7 H1 zaP).o.ext ec);replace R1:=zrx (zwr M7 R1 zaP) ec;replace R2:=zrx (zwr M7 R2 zaP) ec;replace R3:=zrx (zwr M7 R3 zaP) ec;replace R4:=zrx (zwr M7 R4 zaP) ec;replace EW:=hd ((zwe M7 EW zcg).o.trans ec);replace zaa:=zbx zaa ec;replace zat:=zbx zat ec;clear ec;go_wp2_with ((with_reducible refine zT ?_ ?_); exact rfl)
 unfold Hid;refine zai rfl 41 (.tmp 26) (.tmp 25) rfl b3 4 rfl [I (gen + 1),.slice none 0 0,.bool false,I 0,I 0,I 0,I 0,I 0,I 0,.slice none 0 0,I 0,I 0] (rfl) zat rfl zcb rfl [.slice ca' (zbB ⟨sc,su,sa,sp⟩).cells.length cc',.slice ua' (zbB ⟨sc,su,sa,sp⟩).undo.length uc',.slice aa' (zbB ⟨sc,su,sa,sp⟩).answers.length ac',.slice pa' (zbB ⟨sc,su,sa,sp⟩).past.length pc',I (gen + 1),.slice none 0 0,.bool false,I 0,I 0,I 0,I 0,I 0,I 0,.slice none 0 0,I 0,I 0,.bool true,I 0,I falls,.slice ka1 cls.length kc1] rfl (fun w8_ M8=>?_);replace zat:=zwb M8;go_wp2_with ((with_reducible refine zT ?_ ?_); exact rfl)
 unfold Hid;refine zah rfl 44 (.tmp 3) rfl b3 rfl zat zu44 zaX (fun v27 H_v27=>?_);go_wp2_with ((with_reducible refine zT ?_ ?_); exact rfl)
 unfold Hid;replace zad:=zwl M8 zad zaQ;refine zac rfl 44 (.tmp 2) (.tmp 27) rfl b1 rfl _ (zcv H_v27) zad rfl zaX rfl (fun w9_ M9=>?_);replace zad:=zwb M9;replace zar:=znw HB1 zar;go_wp2
 have z0:=zas (P:=Tryz.prog) 44 zad.o zu44 (by kernel_rfl);refine bodyPost_ret (by simp [results,Tryz.results74,asAddr,z0,Act.put]; rfl) rfl ?_;replace H1:=zHw M9 (zHw M8 H1 zaP) zar;replace R1:=zwr M9 (zwr M8 R1 zaP) zar;replace R2:=zwr M9 (zwr M8 R2 zaP) zar;replace R3:=zwr M9 (zwr M8 R3 zaP) zar;replace R4:=zwr M9 (zwr M8 R4 zaP) zar;replace EW:=zwe M9 (zwe M8 EW zcg) zaU;exact ⟨_,rfl,EW.o,Rd.widen (zb1 (RdM.mc (m:=⟨zbB ⟨sc,su,sa,sp⟩,zbH (gen + 1) [],true,0,falls,cls⟩) ⟨R1.o,R2.o,R3.o,R4.o,Rd.all fun w=>zax.nil w,Rd.all fun w=>zbh w,H1.o.clients⟩)) (fun k _ h=>HK.o.2.2.2 k (zcY.o k h))⟩

open Go.RowKit Go.Mk

open Go.RowKit Go.Mk

theorem znC {w : World} {v : Value} {l : List Rq} (h : zax 6 zgI w v l) : ∃ ao cap,v = .slice ao l.length cap /\ l.length <= cap /\ cap <= maxLen /\
  ∀ k r,l[k]? = some r -> ∃ b off,ao = some ⟨b,off,none⟩ /\ w.cell? ⟨b,off + k * 6,none⟩ = some (I r.client) /\ w.cell? ⟨b,off + k * 6 + 1,none⟩ = some (I r.token) /\ w.cell? ⟨b,off + k * 6 + 2,none⟩ = some (I r.call.kind) /\
   w.cell? ⟨b,off + k * 6 + 3,none⟩ = some (I r.call.name) /\ w.cell? ⟨b,off + k * 6 + 4,none⟩ = some (I r.call.other) /\ w.cell? ⟨b,off + k * 6 + 5,none⟩ = some (I r.call.n):=(zdW.1 h).form

open Go.RowKit Go.Mk

theorem zkY {w : World} {v : Value} {l : List Cl} (h : zax 4 zdo w v l) : ∃ ao cap,v = .slice ao l.length cap /\ l.length <= cap /\ cap <= maxLen /\
  ∀ k x,l[k]? = some x -> ∃ b off,ao = some ⟨b,off,none⟩ /\ w.cell? ⟨b,off + k * 4,none⟩ = some (I x.kind) /\ w.cell? ⟨b,off + k * 4 + 1,none⟩ = some (I x.name) /\ w.cell? ⟨b,off + k * 4 + 2,none⟩ = some (I x.other) /\ w.cell? ⟨b,off + k * 4 + 3,none⟩ = some (I x.n):=by
 obtain ⟨ao,cap,h1,h2,h3,-,h5⟩:=h.form (by decide)
 refine ⟨ao,cap,h1,h2,h3,fun k x hx=>?_⟩
 obtain ⟨b,off,c,e,-,hc,hcell⟩:=h5 k x hx
 have hc : c = [I x.kind,I x.name,I x.other,I x.n]:=hc
 subst hc
 exact ⟨b,off,e,hcell 0 _ rfl,by rw [Nat.add_assoc]; exact hcell 1 _ rfl,by rw [Nat.add_assoc]; exact hcell 2 _ rfl,by rw [Nat.add_assoc]; exact hcell 3 _ rfl⟩
end Go.Proofs.YtikbhmnjlmbeeaeGreat
