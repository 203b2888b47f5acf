/- Texts of the proof, merged: G3 N15. -/
import Derived.Test.YtdmipnnfoolelafGreatKTA
import Derived.Test.YtdmipnnfoolelafGreatKTU
import Derived.Test.YtdmipnnfoolelafGreatKTM
import Derived.Test.YtdmipnnfoolelafGreatKTV
import Derived.Test.YtdmipnnfoolelafGreatKTF
import Derived.Test.YtdmipnnfoolelafGreatKTS
import Derived.Test.YtdmipnnfoolelafGreatKTH
set_option maxHeartbeats 2000000
set_option maxRecDepth 100000

namespace Go.Proofs.YtdmipnnfoolelafGreat
open Go.RowKit Go.Mk

theorem zpr (n:Int) (w:World):zaT Tryz.prog 102 #[I n] w fun r _=>r=I (pauseOf n):=by
 unfold zaT
 have HP:Hid (pauseOf n=if n<=1 then 1 else if 3<=n then 3 else n):=by
  unfold Hid pauseOf;repeat' split
  all_goals omega
 generalize pauseOf n=pn at *;by_cases h1:n<=1
 ·obtain rfl:pn=1:=by have q:=HP.o; rw [if_pos h1] at q; exact q
  go_enter Tryz.func102,Tryz.ntmps102
  go_wp2
  go_ret
  refine ⟨_,rfl,Ext.refl _,?_⟩;simp <;> omega
 ·by_cases h3:3<=n
  ·obtain rfl:pn=3:=by have q:=HP.o; rw [if_neg h1,if_pos h3] at q; exact q
   go_enter Tryz.func102,Tryz.ntmps102
   go_wp2
   go_ret
   refine ⟨?_,Ext.refl _⟩;show Ending.returned (Value.int IntKind.i64 (min (max n 1) 3))=_
   rw [show min (max n 1) 3=(3:Int) by omega]
  ·obtain rfl:pn=n:=by have q:=HP.o; rw [if_neg h1,if_neg h3] at q; exact q
   go_enter Tryz.func102,Tryz.ntmps102
   go_wp2
   go_ret
   refine ⟨?_,Ext.refl _⟩;show Ending.returned (Value.int IntKind.i64 (min (max pn 1) 3))=_
   rw [show min (max pn 1) 3=pn by omega]

theorem zkW (gen:Int) (w:World):zaT Tryz.prog 103 #[I gen] w fun r _=>r=.agg #[I gen,.slice none 0 0,.bool false,I 0,I 0,I 0,I 0,I 0,I 0,.slice none 0 0,I 0,I 0]:=by
 unfold zaT;have EW:=zhd (Ext.refl w);go_enter Tryz.func103,Tryz.ntmps103
 go_wp2_with (with_reducible refine zT ?_)
 refine zae rfl 41 zS (by kernel_rfl) (fun b0 w1_ M1=>?_);have zab:=zmb M1;have zbm:Hid (w.heap.size<=b0):=by unfold Hid; have q:=M1.o.at_; omega
 go_wp2_with (with_reducible refine zT ?_)
 refine zaX rfl 41 #[(0,.tmp 3)] rfl #[I gen,.slice none 0 0,.bool false,I 0,I 0,I 0,I 0,I 0,I 0,.slice none 0 0,I 0,I 0] (by kernel_rfl) (fun v4 H_v4=>?_);go_wp2_with (with_reducible refine zT ?_)
 refine zac rfl 41 (.tmp 2) (.tmp 4) rfl b0 rfl _ (zcv H_v4) zab rfl zdg rfl (fun w2_ M2=>?_);replace zab:=zwb M2;go_wp2
 have z0:=zaq (P:=Tryz.prog) 41 zab.o zcr (by kernel_rfl);refine bodyPost_ret (by simp [results,Tryz.results103,asAddr,z0,Act.put]; rfl) rfl ?_;replace EW:=zwe M2 (zet EW M1) zbm;exact ⟨_,rfl,EW.o,rfl⟩

theorem zmM (m:Mc) (c u a p box plan cl:Value) (w:World) (A:Nat->Prop) (h:RdM A w m c u a p box plan cl) (hs:zhF m) (hf:0<=m.falls) :
  zaK Tryz.prog 72 #[.agg (zaH m c u a p box plan cl).toArray] w (fun _=>False) (fun r w'=>zgz zc1 (zd5 m).1 (zd5 m).2 r w'):=by
 unfold zaK;obtain ⟨ca,cc,ua,uc,aa,ac,pa,pc,xa,xc,la,lc,ka,kc,rfl,rfl,rfl,rfl,rfl,rfl,rfl⟩:=h.slices;obtain ⟨⟨sc,su,sa,sp⟩,⟨gen,bl,busy,⟨nc,nt,⟨nk,na,no,nn⟩⟩,pl,⟨se,sn⟩⟩,up,pause,falls,cls⟩:=m;simp only [zaH] at *;have H:=zhd h;have HS:=zhd hs;clear h hs;have EW:=zhd (Ext.refl w);obtain ⟨B,hB⟩:=zdF (fun _=>False) w.heap.size 2;have HK:=zhd hB;clear hB;cases up
 case false =>
  have hX:zd5 ⟨⟨sc,su,sa,sp⟩,⟨gen,bl,busy,⟨nc,nt,⟨nk,na,no,nn⟩⟩,pl,⟨se,sn⟩⟩,false,pause,falls,cls⟩=(⟨⟨sc,su,sa,sp⟩,⟨gen,bl,busy,⟨nc,nt,⟨nk,na,no,nn⟩⟩,pl,⟨se,sn⟩⟩,false,pause,falls,cls⟩,11):=rfl;rw [hX];clear hX;go_enter Tryz.func72,Tryz.ntmps72
  go_wp2_with (with_reducible refine zT ?_)
  refine zaj rfl 44 (.tmp 0) rfl #[.slice ca sc.length cc,.slice ua su.length uc,.slice aa sa.length ac,.slice pa sp.length pc,I gen,.slice xa bl.length xc,.bool busy,I nc,I nt,I nk,I na,I no,I nn,.slice la pl.length lc,I se,I sn,.bool false,I pause,I falls,.slice ka cls.length kc] rfl (fun b0 w1_ M1=>?_);have zab:=zmb M1;go_wp2_with (with_reducible refine zT ?_)
  refine zae rfl 44 zM (by kernel_rfl) (fun b1 w2_ M2=>?_);have zad:=zmb M2;have za0:=zA0 M1;have za2:=zA1 za0 M1 M2;have zat:=znb HK za2 (by decide);have zaZ:=zob za2;go_wp2_with (with_reducible refine zT ?_)
  replace zab:=zmo M2 zab;refine zah rfl 44 (.tmp 1) rfl b0 rfl zab zaS zaG (fun v5 H_v5=>?_);go_wp2_with fail
  rw [show _=Value.agg #[.slice ca sc.length cc,.slice ua su.length uc,.slice aa sa.length ac,.slice pa sp.length pc,I gen,.slice xa bl.length xc,.bool busy,I nc,I nt,I nk,I na,I no,I nn,.slice la pl.length lc,I se,I sn,.bool false,I pause,I falls,.slice ka cls.length kc] from H_v5.o];clear H_v5;have hin:∀ k,w2_.heap.size<=k->B k:=fun k h=>HK.o.2.1 k (by have q:=(zlt zad); have q2:=za2.o; omega);replace EW:=zet (zet EW M1) M2;refine (zdd ⟨⟨sc,su,sa,sp⟩,⟨gen,bl,busy,⟨nc,nt,⟨nk,na,no,nn⟩⟩,pl,⟨se,sn⟩⟩,false,pause,falls,cls⟩ _ _ _ _ _ _ _ w2_ A (H.o.ext EW.o) HS.o).to fun r wa ea hr=>?_;obtain ⟨cs,rfl,hcs⟩:=zbS hr;obtain ⟨c',u',a',p',box',plan',cl',rfl,hM⟩:=zbX hcs;obtain ⟨ca1,cc1,ua1,uc1,aa1,ac1,pa1,pc1,xa1,xc1,la1,lc1,ka1,kc1,rfl,rfl,rfl,rfl,rfl,rfl,rfl⟩:=hM.slices;have H1:=zhd (hM.widen (B:=B) fun k _ h=>hin k (by rcases h with h | h; exact h.elim; exact h));clear hr hcs hM hin;replace zab:=zbx zab ea;replace zad:=zbx zad ea;replace EW:=zhd (EW.o.trans ea);clear ea;go_wp2_with (with_reducible refine zT ?_)
  refine zae rfl 44 zM (by kernel_rfl) (fun b4 w3_ M3=>?_);have zco:=zld zab M3;have zbr:=zld zad M3;obtain ⟨B1,HB1⟩:=zEx B b4;have zc6:=zNn HB1;have zgp:=zIn HB1;have zee:=zOn M3 EW;have zaJ:=zmb M3;go_wp2_with (with_reducible refine zT ?_)
  refine zac rfl 44 (.tmp 4) (.tmp 6) rfl b4 rfl [.slice ca1 sc.length cc1,.slice ua1 su.length uc1,.slice aa1 sa.length ac1,.slice pa1 sp.length pc1,I gen,.slice xa1 bl.length xc1,.bool busy,I nc,I nt,I nk,I na,I no,I nn,.slice la1 pl.length lc1,I se,I sn,.bool false,I pause,I falls,.slice ka1 cls.length kc1] (rfl) zaJ rfl zaG rfl (fun w4_ M4=>?_);replace zaJ:=zwb M4;replace zab:=zwl M4 (zmo M3 zab) zco;have c16:=zaa (i:=16) zab.o rfl;go_wp2_with (with_reducible refine zT ?_)
  clear c16;refine zah rfl 44 (.tmp 4) rfl b4 rfl zaJ zaS zaG (fun v11 H_v11=>?_);go_wp2_with (with_reducible refine zT ?_)
  replace zad:=zwl M4 (zmo M3 zad) zbr;refine zac rfl 44 (.tmp 2) (.tmp 11) rfl b1 rfl _ (zcv H_v11) zad rfl zaG rfl (fun w5_ M5=>?_);replace zad:=zwb M5;replace zat:=znw HB1 zat;go_wp2
  have z0:=zaq (P:=Tryz.prog) 44 zad.o zaS (by kernel_rfl);refine bodyPost_ret (by simp [results,Tryz.results72,asAddr,z0]; rfl) rfl ?_;replace H1:=zHw M5 (zHw M4 (zhd ((zMD HB1 M3 H1).o.ext M3.o.ext)) zc6) zat;replace EW:=zwe M5 (zwe M4 (zet EW M3) zee) zaZ;exact ⟨_,rfl,EW.o,Rd.widen (zbT (RdM.mc (m:=⟨⟨sc,su,sa,sp⟩,⟨gen,bl,busy,⟨nc,nt,⟨nk,na,no,nn⟩⟩,pl,⟨se,sn⟩⟩,false,pause,falls,cls⟩) H1.o)) (fun k _ h=>HK.o.2.2.2 k (zgp.o k h))⟩
 by_cases h6:6<=falls
 case pos =>
  have hX:zd5 ⟨⟨sc,su,sa,sp⟩,⟨gen,bl,busy,⟨nc,nt,⟨nk,na,no,nn⟩⟩,pl,⟨se,sn⟩⟩,true,pause,falls,cls⟩=(⟨⟨sc,su,sa,sp⟩,⟨gen,bl,busy,⟨nc,nt,⟨nk,na,no,nn⟩⟩,pl,⟨se,sn⟩⟩,true,pause,falls,cls⟩,5):=by
   show (if ¬ (true=true) then _ else if 6<=falls then _ else _)=_
   rw [if_neg (by simp),if_pos h6]
  rw [hX];clear hX;go_enter Tryz.func72,Tryz.ntmps72
  go_wp2_with (with_reducible refine zT ?_)
  refine zaj rfl 44 (.tmp 0) rfl #[.slice ca sc.length cc,.slice ua su.length uc,.slice aa sa.length ac,.slice pa sp.length pc,I gen,.slice xa bl.length xc,.bool busy,I nc,I nt,I nk,I na,I no,I nn,.slice la pl.length lc,I se,I sn,.bool true,I pause,I falls,.slice ka cls.length kc] rfl (fun b0 w1_ M1=>?_);have zab:=zmb M1;go_wp2_with (with_reducible refine zT ?_)
  refine zae rfl 44 zM (by kernel_rfl) (fun b1 w2_ M2=>?_);have zad:=zmb M2;have za0:=zA0 M1;have za2:=zA1 za0 M1 M2;have zat:=znb HK za2 (by decide);have zaZ:=zob za2;go_wp2_with (with_reducible refine zT ?_)
  replace zab:=zmo M2 zab;refine zah rfl 44 (.tmp 1) rfl b0 rfl zab zaS zaG (fun v5 H_v5=>?_);go_wp2_with fail
  rw [show _=Value.agg #[.slice ca sc.length cc,.slice ua su.length uc,.slice aa sa.length ac,.slice pa sp.length pc,I gen,.slice xa bl.length xc,.bool busy,I nc,I nt,I nk,I na,I no,I nn,.slice la pl.length lc,I se,I sn,.bool true,I pause,I falls,.slice ka cls.length kc] from H_v5.o];clear H_v5;have hin:∀ k,w2_.heap.size<=k->B k:=fun k h=>HK.o.2.1 k (by have q:=(zlt zad); have q2:=za2.o; omega);replace EW:=zet (zet EW M1) M2;refine (zdd ⟨⟨sc,su,sa,sp⟩,⟨gen,bl,busy,⟨nc,nt,⟨nk,na,no,nn⟩⟩,pl,⟨se,sn⟩⟩,true,pause,falls,cls⟩ _ _ _ _ _ _ _ w2_ A (H.o.ext EW.o) HS.o).to fun r wa ea hr=>?_;obtain ⟨cs,rfl,hcs⟩:=zbS hr;obtain ⟨c',u',a',p',box',plan',cl',rfl,hM⟩:=zbX hcs;obtain ⟨ca1,cc1,ua1,uc1,aa1,ac1,pa1,pc1,xa1,xc1,la1,lc1,ka1,kc1,rfl,rfl,rfl,rfl,rfl,rfl,rfl⟩:=hM.slices;have H1:=zhd (hM.widen (B:=B) fun k _ h=>hin k (by rcases h with h | h; exact h.elim; exact h));clear hr hcs hM hin;replace zab:=zbx zab ea;replace zad:=zbx zad ea;replace EW:=zhd (EW.o.trans ea);clear ea;go_wp2_with (with_reducible refine zT ?_)
  refine zae rfl 44 zM (by kernel_rfl) (fun b4 w3_ M3=>?_);have zco:=zld zab M3;have zbr:=zld zad M3;obtain ⟨B1,HB1⟩:=zEx B b4;have zc6:=zNn HB1;have zgp:=zIn HB1;have zee:=zOn M3 EW;have zaJ:=zmb M3;go_wp2_with (with_reducible refine zT ?_)
  refine zac rfl 44 (.tmp 4) (.tmp 6) rfl b4 rfl [.slice ca1 sc.length cc1,.slice ua1 su.length uc1,.slice aa1 sa.length ac1,.slice pa1 sp.length pc1,I gen,.slice xa1 bl.length xc1,.bool busy,I nc,I nt,I nk,I na,I no,I nn,.slice la1 pl.length lc1,I se,I sn,.bool true,I pause,I falls,.slice ka1 cls.length kc1] (rfl) zaJ rfl zaG rfl (fun w4_ M4=>?_);replace zaJ:=zwb M4;replace zab:=zwl M4 (zmo M3 zab) zco;have c16:=zaa (i:=16) zab.o rfl;have c18:=zaa (i:=18) zab.o rfl;go_wp2_with (with_reducible refine zT ?_)
  clear c16 c18;refine zah rfl 44 (.tmp 4) rfl b4 rfl zaJ zaS zaG (fun v16 H_v16=>?_);go_wp2_with (with_reducible refine zT ?_)
  replace zad:=zwl M4 (zmo M3 zad) zbr;refine zac rfl 44 (.tmp 2) (.tmp 16) rfl b1 rfl _ (zcv H_v16) zad rfl zaG rfl (fun w5_ M5=>?_);replace zad:=zwb M5;replace zat:=znw HB1 zat;go_wp2
  have z0:=zaq (P:=Tryz.prog) 44 zad.o zaS (by kernel_rfl);refine bodyPost_ret (by simp [results,Tryz.results72,asAddr,z0]; rfl) rfl ?_;replace H1:=zHw M5 (zHw M4 (zhd ((zMD HB1 M3 H1).o.ext M3.o.ext)) zc6) zat;replace EW:=zwe M5 (zwe M4 (zet EW M3) zee) zaZ;exact ⟨_,rfl,EW.o,Rd.widen (zbT (RdM.mc (m:=⟨⟨sc,su,sa,sp⟩,⟨gen,bl,busy,⟨nc,nt,⟨nk,na,no,nn⟩⟩,pl,⟨se,sn⟩⟩,true,pause,falls,cls⟩) H1.o)) (fun k _ h=>HK.o.2.2.2 k (zgp.o k h))⟩
 have hX:zd5 ⟨⟨sc,su,sa,sp⟩,⟨gen,bl,busy,⟨nc,nt,⟨nk,na,no,nn⟩⟩,pl,⟨se,sn⟩⟩,true,pause,falls,cls⟩=(⟨⟨sc,su,sa,sp⟩,zbM gen [],false,pauseOf (falls+1),falls+1,cls⟩,0):=by
  show (if ¬ (true=true) then _ else if 6<=falls then _ else _)=_
  rw [if_neg (by simp),if_neg h6]
 rw [hX];clear hX;have h5:falls < 6:=by omega
 have hf0:(0:Int)<=falls:=hf;go_enter Tryz.func72,Tryz.ntmps72
 go_wp2_with (with_reducible refine zT ?_)
 refine zaj rfl 44 (.tmp 0) rfl #[.slice ca sc.length cc,.slice ua su.length uc,.slice aa sa.length ac,.slice pa sp.length pc,I gen,.slice xa bl.length xc,.bool busy,I nc,I nt,I nk,I na,I no,I nn,.slice la pl.length lc,I se,I sn,.bool true,I pause,I falls,.slice ka cls.length kc] rfl (fun b0 w1_ M1=>?_);have zab:=zmb M1;go_wp2_with (with_reducible refine zT ?_)
 refine zae rfl 44 zM (by kernel_rfl) (fun b1 w2_ M2=>?_);have zad:=zmb M2;have za0:=zA0 M1;have za2:=zA1 za0 M1 M2;have zat:=znb HK za2 (by decide);have zaZ:=zob za2;go_wp2_with (with_reducible refine zT ?_)
 replace zab:=zmo M2 zab;refine zah rfl 44 (.tmp 1) rfl b0 rfl zab zaS zaG (fun v5 H_v5=>?_);go_wp2_with fail
 rw [show _=Value.agg #[.slice ca sc.length cc,.slice ua su.length uc,.slice aa sa.length ac,.slice pa sp.length pc,I gen,.slice xa bl.length xc,.bool busy,I nc,I nt,I nk,I na,I no,I nn,.slice la pl.length lc,I se,I sn,.bool true,I pause,I falls,.slice ka cls.length kc] from H_v5.o];clear H_v5;have hin:∀ k,w2_.heap.size<=k->B k:=fun k h=>HK.o.2.1 k (by have q:=(zlt zad); have q2:=za2.o; omega);replace EW:=zet (zet EW M1) M2;refine (zdd ⟨⟨sc,su,sa,sp⟩,⟨gen,bl,busy,⟨nc,nt,⟨nk,na,no,nn⟩⟩,pl,⟨se,sn⟩⟩,true,pause,falls,cls⟩ _ _ _ _ _ _ _ w2_ A (H.o.ext EW.o) HS.o).to fun r wa ea hr=>?_;obtain ⟨cs,rfl,hcs⟩:=zbS hr;obtain ⟨c',u',a',p',box',plan',cl',rfl,hM⟩:=zbX hcs;obtain ⟨ca1,cc1,ua1,uc1,aa1,ac1,pa1,pc1,xa1,xc1,la1,lc1,ka1,kc1,rfl,rfl,rfl,rfl,rfl,rfl,rfl⟩:=hM.slices;have H1:=zhd (hM.widen (B:=B) fun k _ h=>hin k (by rcases h with h | h; exact h.elim; exact h));clear hr hcs hM hin;replace zab:=zbx zab ea;replace zad:=zbx zad ea;replace EW:=zhd (EW.o.trans ea);clear ea;go_wp2_with (with_reducible refine zT ?_)
 refine zae rfl 44 zM (by kernel_rfl) (fun b4 w3_ M3=>?_);have zco:=zld zab M3;have zbr:=zld zad M3;obtain ⟨B1,HB1⟩:=zEx B b4;have zc6:=zNn HB1;have zgp:=zIn HB1;have zee:=zOn M3 EW;have zaJ:=zmb M3;go_wp2_with (with_reducible refine zT ?_)
 refine zac rfl 44 (.tmp 4) (.tmp 6) rfl b4 rfl [.slice ca1 sc.length cc1,.slice ua1 su.length uc1,.slice aa1 sa.length ac1,.slice pa1 sp.length pc1,I gen,.slice xa1 bl.length xc1,.bool busy,I nc,I nt,I nk,I na,I no,I nn,.slice la1 pl.length lc1,I se,I sn,.bool true,I pause,I falls,.slice ka1 cls.length kc1] (rfl) zaJ rfl zaG rfl (fun w4_ M4=>?_);replace zaJ:=zwb M4;replace zab:=zwl M4 (zmo M3 zab) zco;have c16:=zaa (i:=16) zab.o rfl;have c18:=zaa (i:=18) zab.o rfl;have d18:=zaa (i:=18) zaJ.o rfl;go_wp2_with (with_reducible refine zT ?_)
 clear c16 c18 d18;refine zal rfl 3 (.tmp 20) (.tmp 19) rfl b4 18 rfl [I (falls+1)] (rfl) zaJ rfl zi3 rfl [.slice ca1 sc.length cc1,.slice ua1 su.length uc1,.slice aa1 sa.length ac1,.slice pa1 sp.length pc1,I gen,.slice xa1 bl.length xc1,.bool busy,I nc,I nt,I nk,I na,I no,I nn,.slice la1 pl.length lc1,I se,I sn,.bool true,I pause,I (falls+1),.slice ka1 cls.length kc1] rfl (fun w5_ M5=>?_);replace zaJ:=zwb M5;have d18:=zaa (i:=18) zaJ.o rfl;go_wp2_with fail
 clear d18;refine (zpr (falls+1) w5_).to fun r wb eb hr=>?_;subst hr;replace H1:=zhd ((zHw M5 (zHw M4 (zhd ((zMD HB1 M3 H1).o.ext M3.o.ext)) zc6) zc6).o.ext eb);replace zad:=zbx (zwl M5 (zwl M4 (zmo M3 zad) zbr) zbr) eb;replace EW:=zhd ((zwe M5 (zwe M4 (zet EW M3) zee) zee).o.trans eb);replace zab:=zbx (zwl M5 zab zco) eb;replace zaJ:=zbx zaJ eb;clear eb;replace zat:=znw HB1 zat;generalize hpn:pauseOf (falls+1)=pn at *;have HPN:=zhd hpn;clear hpn;go_wp2_with (with_reducible refine zT ?_)
 refine zal rfl 4 (.tmp 24) (.const (.bool false)) rfl b4 16 rfl [.bool false] (rfl) zaJ rfl zi4 rfl [.slice ca1 sc.length cc1,.slice ua1 su.length uc1,.slice aa1 sa.length ac1,.slice pa1 sp.length pc1,I gen,.slice xa1 bl.length xc1,.bool busy,I nc,I nt,I nk,I na,I no,I nn,.slice la1 pl.length lc1,I se,I sn,.bool false,I pause,I (falls+1),.slice ka1 cls.length kc1] rfl (fun w6_ M6=>?_);replace zaJ:=zwb M6;go_wp2_with (with_reducible refine zT ?_)
 refine zal rfl 3 (.tmp 25) (.tmp 23) rfl b4 17 rfl [I pn] (rfl) zaJ rfl zi3 rfl [.slice ca1 sc.length cc1,.slice ua1 su.length uc1,.slice aa1 sa.length ac1,.slice pa1 sp.length pc1,I gen,.slice xa1 bl.length xc1,.bool busy,I nc,I nt,I nk,I na,I no,I nn,.slice la1 pl.length lc1,I se,I sn,.bool false,I pn,I (falls+1),.slice ka1 cls.length kc1] rfl (fun w7_ M7=>?_);replace zaJ:=zwb M7;replace zab:=zwl M7 (zwl M6 zab zco) zco;have c4:=zaa (i:=4) zab.o rfl;go_wp2_with fail
 clear c4;refine (zkW gen w7_).to fun r wc ec hr=>?_;subst hr;replace zad:=zbx (zwl M7 (zwl M6 zad zbr) zbr) ec;replace H1:=zhd ((zHw M7 (zHw M6 H1 zc6) zc6).o.ext ec);replace EW:=zhd ((zwe M7 (zwe M6 EW zee) zee).o.trans ec);replace zab:=zbx zab ec;replace zaJ:=zbx zaJ ec;clear ec;go_wp2_with (with_reducible refine zT ?_)
 refine zal rfl 41 (.tmp 30) (.tmp 29) rfl b4 4 rfl [I gen,.slice none 0 0,.bool false,I 0,I 0,I 0,I 0,I 0,I 0,.slice none 0 0,I 0,I 0] (rfl) zaJ rfl zdg rfl [.slice ca1 sc.length cc1,.slice ua1 su.length uc1,.slice aa1 sa.length ac1,.slice pa1 sp.length pc1,I gen,.slice none 0 0,.bool false,I 0,I 0,I 0,I 0,I 0,I 0,.slice none 0 0,I 0,I 0,.bool false,I pn,I (falls+1),.slice ka1 cls.length kc1] rfl (fun w8_ M8=>?_);replace zaJ:=zwb M8;go_wp2_with (with_reducible refine zT ?_)
 refine zah rfl 44 (.tmp 4) rfl b4 rfl zaJ zaS zaG (fun v31 H_v31=>?_);go_wp2_with (with_reducible refine zT ?_)
 replace zad:=zwl M8 zad zbr;refine zac rfl 44 (.tmp 2) (.tmp 31) rfl b1 rfl _ (zcv H_v31) zad rfl zaG rfl (fun w9_ M9=>?_);replace zad:=zwb M9;go_wp2
 have z0:=zaq (P:=Tryz.prog) 44 zad.o zaS (by kernel_rfl);refine bodyPost_ret (by simp [results,Tryz.results72,asAddr,z0]; rfl) rfl ?_;have hpn:=HPN.o;subst hpn;replace H1:=zHw M9 (zHw M8 H1 zc6) zat;replace EW:=zwe M9 (zwe M8 EW zee) zaZ;exact ⟨_,rfl,EW.o,Rd.widen (zbT (RdM.mc (m:=⟨⟨sc,su,sa,sp⟩,zbM gen [],false,pauseOf (falls+1),falls+1,cls⟩) ⟨H1.o.cells,H1.o.undo,H1.o.answers,H1.o.past,Rd.all fun w=>zas.nil w,Rd.all fun w=>zbu w,H1.o.clients⟩)) (fun k _ h=>HK.o.2.2.2 k (zgp.o k h))⟩

theorem znk (m:Mc) (c u a p box plan cl:Value) (w:World) (A:Nat->Prop) (h:RdM A w m c u a p box plan cl) (hs:zhF m) (hg:0<=m.server.gen/\m.server.gen<=1000000) (hpz:m.up=false->1<=m.pause/\m.pause<=1000000) :
  zaK Tryz.prog 73 #[.agg (zaH m c u a p box plan cl).toArray] w (fun _=>False) (fun r w'=>Agg zc1 (za6 m) r w'):=by
 have HGN:=zhd hg;have HPZ:=zhd hpz;clear hg hpz;unfold zaK;obtain ⟨ca,cc,ua,uc,aa,ac,pa,pc,xa,xc,la,lc,ka,kc,rfl,rfl,rfl,rfl,rfl,rfl,rfl⟩:=h.slices;obtain ⟨⟨sc,su,sa,sp⟩,⟨gen,bl,busy,⟨nc,nt,⟨nk,na,no,nn⟩⟩,pl,⟨se,sn⟩⟩,up,pause,falls,cls⟩:=m;simp only [zaH] at *;have H:=zhd h;have HS:=zhd hs;clear h hs;have EW:=zhd (Ext.refl w);obtain ⟨B,hB⟩:=zdF (fun _=>False) w.heap.size 2;have HK:=zhd hB;clear hB;cases up
 case true =>
  have hX:za6 ⟨⟨sc,su,sa,sp⟩,⟨gen,bl,busy,⟨nc,nt,⟨nk,na,no,nn⟩⟩,pl,⟨se,sn⟩⟩,true,pause,falls,cls⟩=⟨⟨sc,su,sa,sp⟩,⟨gen,bl,busy,⟨nc,nt,⟨nk,na,no,nn⟩⟩,pl,⟨se,sn⟩⟩,true,pause,falls,cls⟩:=rfl;rw [hX];clear hX;go_enter Tryz.func73,Tryz.ntmps73
  go_wp2_with (with_reducible refine zT ?_)
  refine zaj rfl 44 (.tmp 0) rfl #[.slice ca sc.length cc,.slice ua su.length uc,.slice aa sa.length ac,.slice pa sp.length pc,I gen,.slice xa bl.length xc,.bool busy,I nc,I nt,I nk,I na,I no,I nn,.slice la pl.length lc,I se,I sn,.bool true,I pause,I falls,.slice ka cls.length kc] rfl (fun b0 w1_ M1=>?_);have zab:=zmb M1;go_wp2_with (with_reducible refine zT ?_)
  refine zae rfl 44 zM (by kernel_rfl) (fun b1 w2_ M2=>?_);have zad:=zmb M2;have za0:=zA0 M1;have za2:=zA1 za0 M1 M2;have zat:=znb HK za2 (by decide);have zaZ:=zob za2;go_wp2_with (with_reducible refine zT ?_)
  replace zab:=zmo M2 zab;refine zah rfl 44 (.tmp 1) rfl b0 rfl zab zaS zaG (fun v4 H_v4=>?_);go_wp2_with fail
  rw [show _=Value.agg #[.slice ca sc.length cc,.slice ua su.length uc,.slice aa sa.length ac,.slice pa sp.length pc,I gen,.slice xa bl.length xc,.bool busy,I nc,I nt,I nk,I na,I no,I nn,.slice la pl.length lc,I se,I sn,.bool true,I pause,I falls,.slice ka cls.length kc] from H_v4.o];clear H_v4;have hin:∀ k,w2_.heap.size<=k->B k:=fun k h=>HK.o.2.1 k (by have q:=(zlt zad); have q2:=za2.o; omega);replace EW:=zet (zet EW M1) M2;refine (zdd ⟨⟨sc,su,sa,sp⟩,⟨gen,bl,busy,⟨nc,nt,⟨nk,na,no,nn⟩⟩,pl,⟨se,sn⟩⟩,true,pause,falls,cls⟩ _ _ _ _ _ _ _ w2_ A (H.o.ext EW.o) HS.o).to fun r wa ea hr=>?_;obtain ⟨cs,rfl,hcs⟩:=zbS hr;obtain ⟨c',u',a',p',box',plan',cl',rfl,hM⟩:=zbX hcs;obtain ⟨ca1,cc1,ua1,uc1,aa1,ac1,pa1,pc1,xa1,xc1,la1,lc1,ka1,kc1,rfl,rfl,rfl,rfl,rfl,rfl,rfl⟩:=hM.slices;have H1:=zhd (hM.widen (B:=B) fun k _ h=>hin k (by rcases h with h | h; exact h.elim; exact h));clear hr hcs hM hin;replace zab:=zbx zab ea;replace zad:=zbx zad ea;replace EW:=zhd (EW.o.trans ea);clear ea;go_wp2_with (with_reducible refine zT ?_)
  refine zae rfl 44 zM (by kernel_rfl) (fun b3 w3_ M3=>?_);have za7:=zld zab M3;have zaY:=zld zad M3;obtain ⟨B1,HB1⟩:=zEx B b3;have za9:=zNn HB1;have zgp:=zIn HB1;have zcN:=zOn M3 EW;have zav:=zmb M3;go_wp2_with (with_reducible refine zT ?_)
  refine zac rfl 44 (.tmp 3) (.tmp 5) rfl b3 rfl [.slice ca1 sc.length cc1,.slice ua1 su.length uc1,.slice aa1 sa.length ac1,.slice pa1 sp.length pc1,I gen,.slice xa1 bl.length xc1,.bool busy,I nc,I nt,I nk,I na,I no,I nn,.slice la1 pl.length lc1,I se,I sn,.bool true,I pause,I falls,.slice ka1 cls.length kc1] (rfl) zav rfl zaG rfl (fun w4_ M4=>?_);replace zav:=zwb M4;replace zab:=zwl M4 (zmo M3 zab) za7;have c16:=zaa (i:=16) zab.o rfl;go_wp2_with (with_reducible refine zT ?_)
  clear c16;refine zah rfl 44 (.tmp 3) rfl b3 rfl zav zaS zaG (fun v8 H_v8=>?_);go_wp2_with (with_reducible refine zT ?_)
  replace zad:=zwl M4 (zmo M3 zad) zaY;refine zac rfl 44 (.tmp 2) (.tmp 8) rfl b1 rfl _ (zcv H_v8) zad rfl zaG rfl (fun w5_ M5=>?_);replace zad:=zwb M5;replace zat:=znw HB1 zat;go_wp2
  have z0:=zaq (P:=Tryz.prog) 44 zad.o zaS (by kernel_rfl);refine bodyPost_ret (by simp [results,Tryz.results73,asAddr,z0,Act.put]; rfl) rfl ?_;replace H1:=zHw M5 (zHw M4 (zhd ((zMD HB1 M3 H1).o.ext M3.o.ext)) za9) zat;replace EW:=zwe M5 (zwe M4 (zet EW M3) zcN) zaZ;exact ⟨_,rfl,EW.o,Rd.widen (zca (RdM.mc (m:=⟨⟨sc,su,sa,sp⟩,⟨gen,bl,busy,⟨nc,nt,⟨nk,na,no,nn⟩⟩,pl,⟨se,sn⟩⟩,true,pause,falls,cls⟩) H1.o)) (fun k _ h=>HK.o.2.2.2 k (zgp.o k h))⟩
 obtain ⟨hq1,hq2⟩:(1:Int)<=pause/\pause<=1000000:=HPZ.o rfl;clear HPZ;by_cases hp:1 < pause
 case pos =>
  have hX:za6 ⟨⟨sc,su,sa,sp⟩,⟨gen,bl,busy,⟨nc,nt,⟨nk,na,no,nn⟩⟩,pl,⟨se,sn⟩⟩,false,pause,falls,cls⟩=⟨⟨sc,su,sa,sp⟩,⟨gen,bl,busy,⟨nc,nt,⟨nk,na,no,nn⟩⟩,pl,⟨se,sn⟩⟩,false,(pause - 1),falls,cls⟩:=by
   show (if (false=true) then _ else if 1 < pause then _ else _)=_
   rw [if_neg (by simp),if_pos hp]
  rw [hX];clear hX;have hne:¬ (pause - 1=0):=by omega
  go_enter Tryz.func73,Tryz.ntmps73
  go_wp2_with (with_reducible refine zT ?_)
  refine zaj rfl 44 (.tmp 0) rfl #[.slice ca sc.length cc,.slice ua su.length uc,.slice aa sa.length ac,.slice pa sp.length pc,I gen,.slice xa bl.length xc,.bool busy,I nc,I nt,I nk,I na,I no,I nn,.slice la pl.length lc,I se,I sn,.bool false,I pause,I falls,.slice ka cls.length kc] rfl (fun b0 w1_ M1=>?_);have zab:=zmb M1;go_wp2_with (with_reducible refine zT ?_)
  refine zae rfl 44 zM (by kernel_rfl) (fun b1 w2_ M2=>?_);have zad:=zmb M2;have za0:=zA0 M1;have za2:=zA1 za0 M1 M2;have zat:=znb HK za2 (by decide);have zaZ:=zob za2;go_wp2_with (with_reducible refine zT ?_)
  replace zab:=zmo M2 zab;refine zah rfl 44 (.tmp 1) rfl b0 rfl zab zaS zaG (fun v4 H_v4=>?_);go_wp2_with fail
  rw [show _=Value.agg #[.slice ca sc.length cc,.slice ua su.length uc,.slice aa sa.length ac,.slice pa sp.length pc,I gen,.slice xa bl.length xc,.bool busy,I nc,I nt,I nk,I na,I no,I nn,.slice la pl.length lc,I se,I sn,.bool false,I pause,I falls,.slice ka cls.length kc] from H_v4.o];clear H_v4;have hin:∀ k,w2_.heap.size<=k->B k:=fun k h=>HK.o.2.1 k (by have q:=(zlt zad); have q2:=za2.o; omega);replace EW:=zet (zet EW M1) M2;refine (zdd ⟨⟨sc,su,sa,sp⟩,⟨gen,bl,busy,⟨nc,nt,⟨nk,na,no,nn⟩⟩,pl,⟨se,sn⟩⟩,false,pause,falls,cls⟩ _ _ _ _ _ _ _ w2_ A (H.o.ext EW.o) HS.o).to fun r wa ea hr=>?_;obtain ⟨cs,rfl,hcs⟩:=zbS hr;obtain ⟨c',u',a',p',box',plan',cl',rfl,hM⟩:=zbX hcs;obtain ⟨ca1,cc1,ua1,uc1,aa1,ac1,pa1,pc1,xa1,xc1,la1,lc1,ka1,kc1,rfl,rfl,rfl,rfl,rfl,rfl,rfl⟩:=hM.slices;have H1:=zhd (hM.widen (B:=B) fun k _ h=>hin k (by rcases h with h | h; exact h.elim; exact h));clear hr hcs hM hin;replace zab:=zbx zab ea;replace zad:=zbx zad ea;replace EW:=zhd (EW.o.trans ea);clear ea;go_wp2_with (with_reducible refine zT ?_)
  refine zae rfl 44 zM (by kernel_rfl) (fun b3 w3_ M3=>?_);have za7:=zld zab M3;have zaY:=zld zad M3;obtain ⟨B1,HB1⟩:=zEx B b3;have za9:=zNn HB1;have zgp:=zIn HB1;have zcN:=zOn M3 EW;have zav:=zmb M3;go_wp2_with (with_reducible refine zT ?_)
  refine zac rfl 44 (.tmp 3) (.tmp 5) rfl b3 rfl [.slice ca1 sc.length cc1,.slice ua1 su.length uc1,.slice aa1 sa.length ac1,.slice pa1 sp.length pc1,I gen,.slice xa1 bl.length xc1,.bool busy,I nc,I nt,I nk,I na,I no,I nn,.slice la1 pl.length lc1,I se,I sn,.bool false,I pause,I falls,.slice ka1 cls.length kc1] (rfl) zav rfl zaG rfl (fun w4_ M4=>?_);replace zav:=zwb M4;replace zab:=zwl M4 (zmo M3 zab) za7;have c16:=zaa (i:=16) zab.o rfl;have c17:=zaa (i:=17) zav.o rfl;go_wp2_with (with_reducible refine zT ?_)
  clear c16 c17;refine zal rfl 3 (.tmp 12) (.tmp 11) rfl b3 17 rfl [I (pause - 1)] (rfl) zav rfl zi3 rfl [.slice ca1 sc.length cc1,.slice ua1 su.length uc1,.slice aa1 sa.length ac1,.slice pa1 sp.length pc1,I gen,.slice xa1 bl.length xc1,.bool busy,I nc,I nt,I nk,I na,I no,I nn,.slice la1 pl.length lc1,I se,I sn,.bool false,I (pause - 1),I falls,.slice ka1 cls.length kc1] rfl (fun w5_ M5=>?_);replace zav:=zwb M5;have c17:=zaa (i:=17) zav.o rfl;go_wp2_with (with_reducible refine zT ?_)
  clear c17;refine zah rfl 44 (.tmp 3) rfl b3 rfl zav zaS zaG (fun v27 H_v27=>?_);go_wp2_with (with_reducible refine zT ?_)
  replace zad:=zwl M5 (zwl M4 (zmo M3 zad) zaY) zaY;refine zac rfl 44 (.tmp 2) (.tmp 27) rfl b1 rfl _ (zcv H_v27) zad rfl zaG rfl (fun w6_ M6=>?_);replace zad:=zwb M6;replace zat:=znw HB1 zat;go_wp2
  have z0:=zaq (P:=Tryz.prog) 44 zad.o zaS (by kernel_rfl);refine bodyPost_ret (by simp [results,Tryz.results73,asAddr,z0,Act.put]; rfl) rfl ?_;replace H1:=zHw M6 (zHw M5 (zHw M4 (zhd ((zMD HB1 M3 H1).o.ext M3.o.ext)) za9) za9) zat;replace EW:=zwe M6 (zwe M5 (zwe M4 (zet EW M3) zcN) zcN) zaZ;exact ⟨_,rfl,EW.o,Rd.widen (zca (RdM.mc (m:=⟨⟨sc,su,sa,sp⟩,⟨gen,bl,busy,⟨nc,nt,⟨nk,na,no,nn⟩⟩,pl,⟨se,sn⟩⟩,false,(pause - 1),falls,cls⟩) ⟨H1.o.cells,H1.o.undo,H1.o.answers,H1.o.past,H1.o.box,H1.o.plan,H1.o.clients⟩)) (fun k _ h=>HK.o.2.2.2 k (zgp.o k h))⟩
 have hX:za6 ⟨⟨sc,su,sa,sp⟩,⟨gen,bl,busy,⟨nc,nt,⟨nk,na,no,nn⟩⟩,pl,⟨se,sn⟩⟩,false,pause,falls,cls⟩=⟨zbF ⟨sc,su,sa,sp⟩,zbM (gen+1) [],true,0,falls,cls⟩:=by
  show (if (false=true) then _ else if 1 < pause then _ else _)=_
  rw [if_neg (by simp),if_neg hp]
 rw [hX];clear hX;obtain rfl:pause=1:=by omega
 obtain ⟨hg1,hg2⟩:(0:Int)<=gen/\gen<=1000000:=HGN.o;clear HGN;go_enter Tryz.func73,Tryz.ntmps73
 go_wp2_with (with_reducible refine zT ?_)
 refine zaj rfl 44 (.tmp 0) rfl #[.slice ca sc.length cc,.slice ua su.length uc,.slice aa sa.length ac,.slice pa sp.length pc,I gen,.slice xa bl.length xc,.bool busy,I nc,I nt,I nk,I na,I no,I nn,.slice la pl.length lc,I se,I sn,.bool false,I 1,I falls,.slice ka cls.length kc] rfl (fun b0 w1_ M1=>?_);have zab:=zmb M1;go_wp2_with (with_reducible refine zT ?_)
 refine zae rfl 44 zM (by kernel_rfl) (fun b1 w2_ M2=>?_);have zad:=zmb M2;have za0:=zA0 M1;have za2:=zA1 za0 M1 M2;have zat:=znb HK za2 (by decide);have zaZ:=zob za2;go_wp2_with (with_reducible refine zT ?_)
 replace zab:=zmo M2 zab;refine zah rfl 44 (.tmp 1) rfl b0 rfl zab zaS zaG (fun v4 H_v4=>?_);go_wp2_with fail
 rw [show _=Value.agg #[.slice ca sc.length cc,.slice ua su.length uc,.slice aa sa.length ac,.slice pa sp.length pc,I gen,.slice xa bl.length xc,.bool busy,I nc,I nt,I nk,I na,I no,I nn,.slice la pl.length lc,I se,I sn,.bool false,I 1,I falls,.slice ka cls.length kc] from H_v4.o];clear H_v4;have hin:∀ k,w2_.heap.size<=k->B k:=fun k h=>HK.o.2.1 k (by have q:=(zlt zad); have q2:=za2.o; omega);replace EW:=zet (zet EW M1) M2;refine (zdd ⟨⟨sc,su,sa,sp⟩,⟨gen,bl,busy,⟨nc,nt,⟨nk,na,no,nn⟩⟩,pl,⟨se,sn⟩⟩,false,1,falls,cls⟩ _ _ _ _ _ _ _ w2_ A (H.o.ext EW.o) HS.o).to fun r wa ea hr=>?_;obtain ⟨cs,rfl,hcs⟩:=zbS hr;obtain ⟨c',u',a',p',box',plan',cl',rfl,hM⟩:=zbX hcs;obtain ⟨ca1,cc1,ua1,uc1,aa1,ac1,pa1,pc1,xa1,xc1,la1,lc1,ka1,kc1,rfl,rfl,rfl,rfl,rfl,rfl,rfl⟩:=hM.slices;have H1:=zhd (hM.widen (B:=B) fun k _ h=>hin k (by rcases h with h | h; exact h.elim; exact h));clear hr hcs hM hin;replace zab:=zbx zab ea;replace zad:=zbx zad ea;replace EW:=zhd (EW.o.trans ea);clear ea;go_wp2_with (with_reducible refine zT ?_)
 refine zae rfl 44 zM (by kernel_rfl) (fun b3 w3_ M3=>?_);have za7:=zld zab M3;have zaY:=zld zad M3;obtain ⟨B1,HB1⟩:=zEx B b3;have za9:=zNn HB1;have zgp:=zIn HB1;have zcN:=zOn M3 EW;have zav:=zmb M3;go_wp2_with (with_reducible refine zT ?_)
 refine zac rfl 44 (.tmp 3) (.tmp 5) rfl b3 rfl [.slice ca1 sc.length cc1,.slice ua1 su.length uc1,.slice aa1 sa.length ac1,.slice pa1 sp.length pc1,I gen,.slice xa1 bl.length xc1,.bool busy,I nc,I nt,I nk,I na,I no,I nn,.slice la1 pl.length lc1,I se,I sn,.bool false,I 1,I falls,.slice ka1 cls.length kc1] (rfl) zav rfl zaG rfl (fun w4_ M4=>?_);replace zav:=zwb M4;replace zab:=zwl M4 (zmo M3 zab) za7;have c16:=zaa (i:=16) zab.o rfl;have c17:=zaa (i:=17) zav.o rfl;go_wp2_with (with_reducible refine zT ?_)
 clear c16 c17;refine zal rfl 3 (.tmp 12) (.tmp 11) rfl b3 17 rfl [I 0] (rfl) zav rfl zi3 rfl [.slice ca1 sc.length cc1,.slice ua1 su.length uc1,.slice aa1 sa.length ac1,.slice pa1 sp.length pc1,I gen,.slice xa1 bl.length xc1,.bool busy,I nc,I nt,I nk,I na,I no,I nn,.slice la1 pl.length lc1,I se,I sn,.bool false,I 0,I falls,.slice ka1 cls.length kc1] rfl (fun w5_ M5=>?_);replace zav:=zwb M5;have c17:=zaa (i:=17) zav.o rfl;go_wp2_with (with_reducible refine zT ?_)
 clear c17;refine zal rfl 4 (.tmp 16) (.const (.bool true)) rfl b3 16 rfl [.bool true] (rfl) zav rfl zi4 rfl [.slice ca1 sc.length cc1,.slice ua1 su.length uc1,.slice aa1 sa.length ac1,.slice pa1 sp.length pc1,I gen,.slice xa1 bl.length xc1,.bool busy,I nc,I nt,I nk,I na,I no,I nn,.slice la1 pl.length lc1,I se,I sn,.bool true,I 0,I falls,.slice ka1 cls.length kc1] rfl (fun w6_ M6=>?_);replace zav:=zwb M6;go_wp2_with (with_reducible refine zT ?_)
 refine zcp rfl 31 (.tmp 17) rfl b3 0 rfl zav [.slice ca1 sc.length cc1,.slice ua1 su.length uc1,.slice aa1 sa.length ac1,.slice pa1 sp.length pc1] rfl zcX zgh (fun v18 H_v18=>?_);go_wp2_with fail
 rw [show _=Value.agg #[.slice ca1 sc.length cc1,.slice ua1 su.length uc1,.slice aa1 sa.length ac1,.slice pa1 sp.length pc1] from H_v18.o];clear H_v18;replace H1:=zHw M6 (zHw M5 (zHw M4 (zhd ((zMD HB1 M3 H1).o.ext M3.o.ext)) za9) za9) za9;refine (zrh _ _ _ _ ⟨sc,su,sa,sp⟩ w6_ (zcK.2 ⟨H1.o.cells.o,H1.o.undo.o,H1.o.answers.o,H1.o.past.o⟩) HS.o.1).to fun r wb eb hr1=>?_;obtain ⟨cs,rfl,hcs⟩:=zbS hr1;obtain ⟨c',u',a',p',rfl,r1,r2,r3,r4⟩:=zez hcs;obtain ⟨ca',cc',rfl⟩:=zao r1.o;obtain ⟨ua',uc',rfl⟩:=zao r2.o;obtain ⟨aa',ac',rfl⟩:=zag r3.o;obtain ⟨pa',pc',rfl⟩:=zag r4.o;replace zad:=zwl M6 (zwl M5 (zwl M4 (zmo M3 zad) zaY) zaY) zaY;have hsz:w.heap.size+2<=w6_.heap.size:=by have q:=(zlt zad); have q2:=za2.o; omega
 have hin:∀ k,k < wb.heap.size->(False∨w6_.heap.size<=k)->B1 k:=fun k _ h=>by
  rcases h with h | h
  ·exact h.elim
  ·exact (HB1.o k).2 ⟨HK.o.2.1 k (by omega),by have q:=(zlt zav); omega⟩
 have R1:=zhd (r1.widen hin);have R2:=zhd (r2.widen hin);have R3:=zhd (r3.widen hin);have R4:=zhd (r4.widen hin);clear hr1 hcs r1 r2 r3 r4 hin hsz;replace EW:=zhd ((zwe M6 (zwe M5 (zwe M4 (zet EW M3) zcN) zcN) zcN).o.trans eb);replace zab:=zbx (zwl M6 (zwl M5 zab za7) za7) eb;replace zad:=zbx zad eb;replace zav:=zbx zav eb;replace H1:=zhd (H1.o.ext eb);clear eb;go_wp2_with (with_reducible refine zT ?_)
 refine zal rfl 31 (.tmp 20) (.tmp 19) rfl b3 0 rfl [.slice ca' (zbF ⟨sc,su,sa,sp⟩).cells.length cc',.slice ua' (zbF ⟨sc,su,sa,sp⟩).undo.length uc',.slice aa' (zbF ⟨sc,su,sa,sp⟩).answers.length ac',.slice pa' (zbF ⟨sc,su,sa,sp⟩).past.length pc'] (rfl) zav rfl zgh rfl [.slice ca' (zbF ⟨sc,su,sa,sp⟩).cells.length cc',.slice ua' (zbF ⟨sc,su,sa,sp⟩).undo.length uc',.slice aa' (zbF ⟨sc,su,sa,sp⟩).answers.length ac',.slice pa' (zbF ⟨sc,su,sa,sp⟩).past.length pc',I gen,.slice xa1 bl.length xc1,.bool busy,I nc,I nt,I nk,I na,I no,I nn,.slice la1 pl.length lc1,I se,I sn,.bool true,I 0,I falls,.slice ka1 cls.length kc1] rfl (fun w7_ M7=>?_);replace zav:=zwb M7;replace zab:=zwl M7 zab za7;have c4:=zaa (i:=4) zab.o rfl;go_wp2_with fail
 clear c4;refine (zkW (gen+1) w7_).to fun r wc ec hr=>?_;subst hr;replace zad:=zbx (zwl M7 zad zaY) ec;replace H1:=zhd ((zHw M7 H1 za9).o.ext ec);replace R1:=zrx (zwr M7 R1 za9) ec;replace R2:=zrx (zwr M7 R2 za9) ec;replace R3:=zrx (zwr M7 R3 za9) ec;replace R4:=zrx (zwr M7 R4 za9) ec;replace EW:=zhd ((zwe M7 EW zcN).o.trans ec);replace zab:=zbx zab ec;replace zav:=zbx zav ec;clear ec;go_wp2_with (with_reducible refine zT ?_)
 refine zal rfl 41 (.tmp 26) (.tmp 25) rfl b3 4 rfl [I (gen+1),.slice none 0 0,.bool false,I 0,I 0,I 0,I 0,I 0,I 0,.slice none 0 0,I 0,I 0] (rfl) zav rfl zdg rfl [.slice ca' (zbF ⟨sc,su,sa,sp⟩).cells.length cc',.slice ua' (zbF ⟨sc,su,sa,sp⟩).undo.length uc',.slice aa' (zbF ⟨sc,su,sa,sp⟩).answers.length ac',.slice pa' (zbF ⟨sc,su,sa,sp⟩).past.length pc',I (gen+1),.slice none 0 0,.bool false,I 0,I 0,I 0,I 0,I 0,I 0,.slice none 0 0,I 0,I 0,.bool true,I 0,I falls,.slice ka1 cls.length kc1] rfl (fun w8_ M8=>?_);replace zav:=zwb M8;go_wp2_with (with_reducible refine zT ?_)
 refine zah rfl 44 (.tmp 3) rfl b3 rfl zav zaS zaG (fun v27 H_v27=>?_);go_wp2_with (with_reducible refine zT ?_)
 replace zad:=zwl M8 zad zaY;refine zac rfl 44 (.tmp 2) (.tmp 27) rfl b1 rfl _ (zcv H_v27) zad rfl zaG rfl (fun w9_ M9=>?_);replace zad:=zwb M9;replace zat:=znw HB1 zat;go_wp2
 have z0:=zaq (P:=Tryz.prog) 44 zad.o zaS (by kernel_rfl);refine bodyPost_ret (by simp [results,Tryz.results73,asAddr,z0,Act.put]; rfl) rfl ?_;replace H1:=zHw M9 (zHw M8 H1 za9) zat;replace R1:=zwr M9 (zwr M8 R1 za9) zat;replace R2:=zwr M9 (zwr M8 R2 za9) zat;replace R3:=zwr M9 (zwr M8 R3 za9) zat;replace R4:=zwr M9 (zwr M8 R4 za9) zat;replace EW:=zwe M9 (zwe M8 EW zcN) zaZ;exact ⟨_,rfl,EW.o,Rd.widen (zca (RdM.mc (m:=⟨zbF ⟨sc,su,sa,sp⟩,zbM (gen+1) [],true,0,falls,cls⟩) ⟨R1.o,R2.o,R3.o,R4.o,Rd.all fun w=>zas.nil w,Rd.all fun w=>zbu w,H1.o.clients⟩)) (fun k _ h=>HK.o.2.2.2 k (zgp.o k h))⟩

open Go.RowKit Go.Mk

theorem zmT {w:World} {v:Value} {l:List (List UInt8)} (h:zas 1 zcc w v l):∃ ao cap,v=.slice ao l.length cap/\l.length<=cap/\cap<=maxLen /\
  ∀ k x,l[k]?=some x->∃ b off bv,ao=some ⟨b,off,none⟩/\w.cell? ⟨b,off+k,none⟩=some bv/\zbd w bv x:=by
 obtain ⟨ao,cap,h1,h2,h3,-,h5⟩:=h.form (by decide)
 refine ⟨ao,cap,h1,h2,h3,fun k x hx=>?_⟩
 obtain ⟨b,off,c,e,-,⟨bv,rfl,hb⟩,hcell⟩:=h5 k x hx
 refine ⟨b,off,bv,e,?_,hb⟩
 have:=hcell 0 bv rfl
 rwa [Nat.mul_one,Nat.add_zero] at this

theorem zh6 (u v:Value) (xs:List (List UInt8)) (w:World) (hu:zas 1 zcc w u xs) (hv:zas 1 zcc w v xs) :
  Calls Tryz.prog 49 #[u,v] w fun e w'=>e=.returned (.bool true)/\Ext w w':=by
 obtain ⟨ua,uc,rfl,u1,u2,u3⟩:=zmT hu;obtain ⟨va,vc,rfl,v1,v2,v3⟩:=zmT hv;unfold maxLen at u2 v2;have U3:=zhd u3;have V3:=zhd v3;clear u3 v3 hu hv;go_enter Tryz.func49,Tryz.ntmps49
 go_wp2
 go_loopw [13] (fun i wr=>∃ k:Nat,k<=xs.length/\i=I k/\Ext w wr) (fun i _=>xs.length - (intOf i).toNat)
 case atStart=>exact ⟨0,by omega,rfl,Ext.refl _⟩
 case round =>
  obtain ⟨k,hk,rfl,he⟩:=hrel;by_cases hlt:k < xs.length
  ·obtain ⟨x,hx⟩:∃ x,xs[k]?=some x:=⟨xs[k],List.getElem?_eq_getElem hlt⟩;obtain ⟨b,off,v1,rfl,c1,h1⟩:=U3.o k x hx;obtain ⟨b',off',v2,rfl,c2,h2⟩:=V3.o k x hx;clear hx;replace c1:=he.cell c1;replace c2:=he.cell c2;replace h1:=h1.ext he;replace h2:=h2.ext he;go_wp2_with fail
   refine zbe [none,none,none,none,some (.inl (.string ⟨x.toArray⟩)),none,none,none,none,some (.inl (.string ⟨x.toArray⟩)),none] (by kernel_rfl) (by kernel_rfl) ?_ ?_
   ·exact ⟨trivial,trivial,trivial,trivial,trivial,trivial,trivial,trivial,trivial,trivial,trivial,trivial⟩
   iterate 3 (refine zap (fun K hK=>?_); go_simp; first | refine hK _ ?_ | refine ⟨(fun h=>by cases h),hK _ ?_⟩; clear hK K)
   refine zay (v1) rfl (fun w' hw'=>by have q0:=hw'.cell c1; go_simp) ?_;refine zai fun K h=>?_; go_simp; refine h _ ?_; clear h K;refine zdp _ rfl (fun w' hw' hk=>?_) ?_
   ·have hcv:=zdO (P:=Tryz.prog) (h1.ext hw') zit zu5 zu9;clear hk;unfold zaQ;go_simp
    exact ⟨Ext.refl _,rfl⟩
   refine zai fun K h=>?_; go_simp; refine h _ ?_; clear h K;iterate 3 (refine zap (fun K hK=>?_); go_simp; first | refine hK _ ?_ | refine ⟨(fun h=>by cases h),hK _ ?_⟩; clear hK K)
   refine zay (v2) rfl (fun w' hw'=>by have q0:=hw'.cell c2; go_simp) ?_;refine zai fun K h=>?_; go_simp; refine h _ ?_; clear h K;refine zdp _ rfl (fun w' hw' hk=>?_) ?_
   ·have hcv:=zdO (P:=Tryz.prog) (h2.ext hw') zit zu5 zu9;clear hk;unfold zaQ;go_simp
    exact ⟨Ext.refl _,rfl⟩
   refine zai fun K h=>?_; go_simp; refine h _ ?_; clear h K;(refine zap (fun K hK=>?_); go_simp; first | refine hK _ ?_ | refine ⟨(fun h=>by cases h),hK _ ?_⟩; clear hK K)
   refine zaP ?_;intro wn hen _;clear c1 c2 h1 h2;go_wp2
   go_roundw
   case rel=>exact ⟨k+1,by omega,by go_num,he.trans hen⟩
   case measure=>simp [intOf]; omega
  ·go_wp2
   go_ret
   exact ⟨rfl,he⟩

theorem zkD (v:Sv) (x1 x9 y1 y9:Value) (w:World) (hx:zas 1 zcc w x1 v.box/\zax w x9 v.plan) (hy:zas 1 zcc w y1 v.box/\zax w y9 v.plan) :
  Calls Tryz.prog 26 #[.agg (zdU v x1 x9).toArray,.agg (zdU v y1 y9).toArray] w fun e w'=>e=.returned (.bool true)/\Ext w w':=by
 obtain ⟨gen,bl,busy,⟨nc,nt,⟨nk,na,no,nn⟩⟩,pl,⟨se,sn⟩⟩:=v;simp only [zdU] at *;have hst:Tryz.prog.stoodInHeld 36=false:=by kernel_rfl
 have hgd:Tryz.prog.eqGuardType Tryz.prog.depth 36=false:=by kernel_rfl
 have hst2:Tryz.prog.stoodInHeld 39=false:=by kernel_rfl
 have hgd2:Tryz.prog.eqGuardType Tryz.prog.depth 39=false:=by kernel_rfl
 have HX:=zhd hx;have HY:=zhd hy;clear hx hy;have EW:=zhd (Ext.refl w);go_enter Tryz.func26,Tryz.ntmps26
 go_wp2_with (with_reducible first | refine zd0 44 ?_ | refine zd0 41 ?_ | refine zd0 31 ?_ | refine zd0 55 ?_ | refine zen ?_ | refine zmP ?_ | refine zjO ?_ | refine zjQ ?_ | refine zmu ?_)
 refine zaj rfl 41 (.tmp 0) rfl #[I gen,x1,.bool busy,I nc,I nt,I nk,I na,I no,I nn,x9,I se,I sn] rfl (fun b0 w1_ M1=>?_);have zab:=zhd M1.o.block;go_wp2_with (with_reducible first | refine zd0 44 ?_ | refine zd0 41 ?_ | refine zd0 31 ?_ | refine zd0 55 ?_ | refine zen ?_ | refine zmP ?_ | refine zjO ?_ | refine zjQ ?_ | refine zmu ?_)
 refine zaj rfl 41 (.tmp 1) rfl #[I gen,y1,.bool busy,I nc,I nt,I nk,I na,I no,I nn,y9,I se,I sn] rfl (fun b1 w2_ M2=>?_);have zad:=zhd M2.o.block;replace zab:=zhd (M2.o.old zab.o);have c0:=zaa (i:=0) zab.o rfl;have d0:=zaa (i:=0) zad.o rfl;have c1:=zaa (i:=1) zab.o rfl;have d1:=zaa (i:=1) zad.o rfl;have c2:=zaa (i:=2) zab.o rfl;have d2:=zaa (i:=2) zad.o rfl;have c3:=zaa (i:=3) zab.o rfl;have d3:=zaa (i:=3) zad.o rfl;have c4:=zaa (i:=4) zab.o rfl;have d4:=zaa (i:=4) zad.o rfl;have c5:=zaa (i:=5) zab.o rfl;have d5:=zaa (i:=5) zad.o rfl;have c6:=zaa (i:=6) zab.o rfl;have d6:=zaa (i:=6) zad.o rfl;have c7:=zaa (i:=7) zab.o rfl;have d7:=zaa (i:=7) zad.o rfl;have c8:=zaa (i:=8) zab.o rfl;have d8:=zaa (i:=8) zad.o rfl;have c9:=zaa (i:=9) zab.o rfl;have d9:=zaa (i:=9) zad.o rfl;have c10:=zaa (i:=10) zab.o rfl;have d10:=zaa (i:=10) zad.o rfl;have c11:=zaa (i:=11) zab.o rfl;have d11:=zaa (i:=11) zad.o rfl;go_wp2_with fail
 clear c0 c1 c2 c3 c4 c5 c6 c7 c8 c9 c10 c11 d0 d1 d2 d3 d4 d5 d6 d7 d8 d9 d10 d11;replace EW:=zhd ((zhd (EW.o.trans M1.o.ext)).o.trans M2.o.ext);refine Calls.exts (zh6 _ _ bl w2_ (HX.o.1.ext zdf EW.o) (HY.o.1.ext zdf EW.o)) (fun wa ea=>?_);replace zab:=zhd (zbW zab.o ea);have c0:=zaa (i:=0) zab.o rfl;replace zad:=zhd (zbW zad.o ea);have d0:=zaa (i:=0) zad.o rfl;have c1:=zaa (i:=1) zab.o rfl;have d1:=zaa (i:=1) zad.o rfl;have c2:=zaa (i:=2) zab.o rfl;have d2:=zaa (i:=2) zad.o rfl;have c3:=zaa (i:=3) zab.o rfl;have d3:=zaa (i:=3) zad.o rfl;have c4:=zaa (i:=4) zab.o rfl;have d4:=zaa (i:=4) zad.o rfl;have c5:=zaa (i:=5) zab.o rfl;have d5:=zaa (i:=5) zad.o rfl;have c6:=zaa (i:=6) zab.o rfl;have d6:=zaa (i:=6) zad.o rfl;have c7:=zaa (i:=7) zab.o rfl;have d7:=zaa (i:=7) zad.o rfl;have c8:=zaa (i:=8) zab.o rfl;have d8:=zaa (i:=8) zad.o rfl;have c9:=zaa (i:=9) zab.o rfl;have d9:=zaa (i:=9) zad.o rfl;have c10:=zaa (i:=10) zab.o rfl;have d10:=zaa (i:=10) zad.o rfl;have c11:=zaa (i:=11) zab.o rfl;have d11:=zaa (i:=11) zad.o rfl;go_wp2_with fail
 clear c0 c1 c2 c3 c4 c5 c6 c7 c8 c9 c10 c11 d0 d1 d2 d3 d4 d5 d6 d7 d8 d9 d10 d11;replace EW:=zhd (EW.o.trans ea);refine (zhy rfl (HX.o.2.ext EW.o) (HY.o.2.ext EW.o)).to fun r wb eb hr=>?_;subst hr;replace zab:=zhd (zbW zab.o eb);have c0:=zaa (i:=0) zab.o rfl;replace zad:=zhd (zbW zad.o eb);have d0:=zaa (i:=0) zad.o rfl;have c1:=zaa (i:=1) zab.o rfl;have d1:=zaa (i:=1) zad.o rfl;have c2:=zaa (i:=2) zab.o rfl;have d2:=zaa (i:=2) zad.o rfl;have c3:=zaa (i:=3) zab.o rfl;have d3:=zaa (i:=3) zad.o rfl;have c4:=zaa (i:=4) zab.o rfl;have d4:=zaa (i:=4) zad.o rfl;have c5:=zaa (i:=5) zab.o rfl;have d5:=zaa (i:=5) zad.o rfl;have c6:=zaa (i:=6) zab.o rfl;have d6:=zaa (i:=6) zad.o rfl;have c7:=zaa (i:=7) zab.o rfl;have d7:=zaa (i:=7) zad.o rfl;have c8:=zaa (i:=8) zab.o rfl;have d8:=zaa (i:=8) zad.o rfl;have c9:=zaa (i:=9) zab.o rfl;have d9:=zaa (i:=9) zad.o rfl;have c10:=zaa (i:=10) zab.o rfl;have d10:=zaa (i:=10) zad.o rfl;have c11:=zaa (i:=11) zab.o rfl;have d11:=zaa (i:=11) zad.o rfl;go_wp2
 go_ret
 replace EW:=zhd (EW.o.trans eb);exact ⟨rfl,EW.o⟩

end Go.Proofs.YtdmipnnfoolelafGreat
